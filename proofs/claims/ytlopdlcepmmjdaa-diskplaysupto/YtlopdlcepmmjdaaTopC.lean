import Derived.Test.YtlopdlcepmmjdaaQLate
import Derived.Test.YtlopdlcepmmjdaaRowz
import Derived.Deep.RegionHeld3
import Derived.Test.YtlopdlcepmmjdaaTopB
import Derived.Test.YtlopdlcepmmjdaaQWp
/-
  Laws for drawn regions with a late store, by genchain.py. No program.
-/
namespace Go.Proofs.Ytlopdlcepmmjdaa
open Go Go.RowKit Go.BigFrame
set_option linter.unusedVariables false
set_option linter.unusedSimpArgs false
section
variable {P : Program} {Q : Exit → Act → World → Prop}
theorem wp_rc18 {id : Nat} {o0 o1 o2 o3 o4 o5 o6 o7 o8 o9 o10 o11 o12 o13 o14 o15 o16 o17 : Oper} {a : Act} {w : World} (hm : P.follows .mixedOrders = true) (hs : Region.noSelect #[o0, o1, o2, o3, o4, o5, o6, o7, o8, o9, o10, o11, o12, o13, o14, o15, o16, o17] = true)
    (f0 : Region.free .any #[o0, o1, o2, o3, o4, o5, o6, o7, o8, o9, o10, o11, o12, o13, o14, o15, o16, o17] #[false, false, false, false, false, false, false, false, false, false, false, false, false, false, false, false, false, false] 0 = true) (r0 : (Region.ready .any #[o0, o1, o2, o3, o4, o5, o6, o7, o8, o9, o10, o11, o12, o13, o14, o15, o16, o17] #[false, false, false, false, false, false, false, false, false, false, false, false, false, false, false, false, false, false]).contains 0 = true) (e0 : o17.after.any (fun e => Region.binds .any e && e.on == 0) = true)
    (f1 : Region.free .any #[o0, o1, o2, o3, o4, o5, o6, o7, o8, o9, o10, o11, o12, o13, o14, o15, o16, o17] #[true, false, false, false, false, false, false, false, false, false, false, false, false, false, false, false, false, false] 1 = true) (r1 : (Region.ready .any #[o0, o1, o2, o3, o4, o5, o6, o7, o8, o9, o10, o11, o12, o13, o14, o15, o16, o17] #[true, false, false, false, false, false, false, false, false, false, false, false, false, false, false, false, false, false]).contains 1 = true) (e1 : o17.after.any (fun e => Region.binds .any e && e.on == 1) = true)
    (f2 : Region.free .any #[o0, o1, o2, o3, o4, o5, o6, o7, o8, o9, o10, o11, o12, o13, o14, o15, o16, o17] #[true, true, false, false, false, false, false, false, false, false, false, false, false, false, false, false, false, false] 2 = true) (r2 : (Region.ready .any #[o0, o1, o2, o3, o4, o5, o6, o7, o8, o9, o10, o11, o12, o13, o14, o15, o16, o17] #[true, true, false, false, false, false, false, false, false, false, false, false, false, false, false, false, false, false]).contains 2 = true) (e2 : o17.after.any (fun e => Region.binds .any e && e.on == 2) = true)
    (f3 : Region.free .any #[o0, o1, o2, o3, o4, o5, o6, o7, o8, o9, o10, o11, o12, o13, o14, o15, o16, o17] #[true, true, true, false, false, false, false, false, false, false, false, false, false, false, false, false, false, false] 3 = true) (r3 : (Region.ready .any #[o0, o1, o2, o3, o4, o5, o6, o7, o8, o9, o10, o11, o12, o13, o14, o15, o16, o17] #[true, true, true, false, false, false, false, false, false, false, false, false, false, false, false, false, false, false]).contains 3 = true) (e3 : o17.after.any (fun e => Region.binds .any e && e.on == 3) = true)
    (f4 : Region.free .any #[o0, o1, o2, o3, o4, o5, o6, o7, o8, o9, o10, o11, o12, o13, o14, o15, o16, o17] #[true, true, true, true, false, false, false, false, false, false, false, false, false, false, false, false, false, false] 4 = true) (r4 : (Region.ready .any #[o0, o1, o2, o3, o4, o5, o6, o7, o8, o9, o10, o11, o12, o13, o14, o15, o16, o17] #[true, true, true, true, false, false, false, false, false, false, false, false, false, false, false, false, false, false]).contains 4 = true) (e4 : o17.after.any (fun e => Region.binds .any e && e.on == 4) = true)
    (f5 : Region.free .any #[o0, o1, o2, o3, o4, o5, o6, o7, o8, o9, o10, o11, o12, o13, o14, o15, o16, o17] #[true, true, true, true, true, false, false, false, false, false, false, false, false, false, false, false, false, false] 5 = true) (r5 : (Region.ready .any #[o0, o1, o2, o3, o4, o5, o6, o7, o8, o9, o10, o11, o12, o13, o14, o15, o16, o17] #[true, true, true, true, true, false, false, false, false, false, false, false, false, false, false, false, false, false]).contains 5 = true) (e5 : o17.after.any (fun e => Region.binds .any e && e.on == 5) = true)
    (f6 : Region.free .any #[o0, o1, o2, o3, o4, o5, o6, o7, o8, o9, o10, o11, o12, o13, o14, o15, o16, o17] #[true, true, true, true, true, true, false, false, false, false, false, false, false, false, false, false, false, false] 6 = true) (r6 : (Region.ready .any #[o0, o1, o2, o3, o4, o5, o6, o7, o8, o9, o10, o11, o12, o13, o14, o15, o16, o17] #[true, true, true, true, true, true, false, false, false, false, false, false, false, false, false, false, false, false]).contains 6 = true) (e6 : o17.after.any (fun e => Region.binds .any e && e.on == 6) = true)
    (f7 : Region.free .any #[o0, o1, o2, o3, o4, o5, o6, o7, o8, o9, o10, o11, o12, o13, o14, o15, o16, o17] #[true, true, true, true, true, true, true, false, false, false, false, false, false, false, false, false, false, false] 7 = true) (r7 : (Region.ready .any #[o0, o1, o2, o3, o4, o5, o6, o7, o8, o9, o10, o11, o12, o13, o14, o15, o16, o17] #[true, true, true, true, true, true, true, false, false, false, false, false, false, false, false, false, false, false]).contains 7 = true) (e7 : o17.after.any (fun e => Region.binds .any e && e.on == 7) = true)
    (f8 : Region.free .any #[o0, o1, o2, o3, o4, o5, o6, o7, o8, o9, o10, o11, o12, o13, o14, o15, o16, o17] #[true, true, true, true, true, true, true, true, false, false, false, false, false, false, false, false, false, false] 8 = true) (r8 : (Region.ready .any #[o0, o1, o2, o3, o4, o5, o6, o7, o8, o9, o10, o11, o12, o13, o14, o15, o16, o17] #[true, true, true, true, true, true, true, true, false, false, false, false, false, false, false, false, false, false]).contains 8 = true) (e8 : o17.after.any (fun e => Region.binds .any e && e.on == 8) = true)
    (f9 : Region.free .any #[o0, o1, o2, o3, o4, o5, o6, o7, o8, o9, o10, o11, o12, o13, o14, o15, o16, o17] #[true, true, true, true, true, true, true, true, true, false, false, false, false, false, false, false, false, false] 9 = true) (r9 : (Region.ready .any #[o0, o1, o2, o3, o4, o5, o6, o7, o8, o9, o10, o11, o12, o13, o14, o15, o16, o17] #[true, true, true, true, true, true, true, true, true, false, false, false, false, false, false, false, false, false]).contains 9 = true) (e9 : o17.after.any (fun e => Region.binds .any e && e.on == 9) = true)
    (f10 : Region.free .any #[o0, o1, o2, o3, o4, o5, o6, o7, o8, o9, o10, o11, o12, o13, o14, o15, o16, o17] #[true, true, true, true, true, true, true, true, true, true, false, false, false, false, false, false, false, false] 10 = true) (r10 : (Region.ready .any #[o0, o1, o2, o3, o4, o5, o6, o7, o8, o9, o10, o11, o12, o13, o14, o15, o16, o17] #[true, true, true, true, true, true, true, true, true, true, false, false, false, false, false, false, false, false]).contains 10 = true) (e10 : o17.after.any (fun e => Region.binds .any e && e.on == 10) = true)
    (f11 : Region.free .any #[o0, o1, o2, o3, o4, o5, o6, o7, o8, o9, o10, o11, o12, o13, o14, o15, o16, o17] #[true, true, true, true, true, true, true, true, true, true, true, false, false, false, false, false, false, false] 11 = true) (r11 : (Region.ready .any #[o0, o1, o2, o3, o4, o5, o6, o7, o8, o9, o10, o11, o12, o13, o14, o15, o16, o17] #[true, true, true, true, true, true, true, true, true, true, true, false, false, false, false, false, false, false]).contains 11 = true) (e11 : o17.after.any (fun e => Region.binds .any e && e.on == 11) = true)
    (f12 : Region.free .any #[o0, o1, o2, o3, o4, o5, o6, o7, o8, o9, o10, o11, o12, o13, o14, o15, o16, o17] #[true, true, true, true, true, true, true, true, true, true, true, true, false, false, false, false, false, false] 12 = true) (r12 : (Region.ready .any #[o0, o1, o2, o3, o4, o5, o6, o7, o8, o9, o10, o11, o12, o13, o14, o15, o16, o17] #[true, true, true, true, true, true, true, true, true, true, true, true, false, false, false, false, false, false]).contains 12 = true) (e12 : o17.after.any (fun e => Region.binds .any e && e.on == 12) = true)
    (f13 : Region.free .any #[o0, o1, o2, o3, o4, o5, o6, o7, o8, o9, o10, o11, o12, o13, o14, o15, o16, o17] #[true, true, true, true, true, true, true, true, true, true, true, true, true, false, false, false, false, false] 13 = true) (r13 : (Region.ready .any #[o0, o1, o2, o3, o4, o5, o6, o7, o8, o9, o10, o11, o12, o13, o14, o15, o16, o17] #[true, true, true, true, true, true, true, true, true, true, true, true, true, false, false, false, false, false]).contains 13 = true) (e13 : o17.after.any (fun e => Region.binds .any e && e.on == 13) = true)
    (q14 : Region.ready .any #[o0, o1, o2, o3, o4, o5, o6, o7, o8, o9, o10, o11, o12, o13, o14, o15, o16, o17] #[true, true, true, true, true, true, true, true, true, true, true, true, true, true, false, false, false, false] = [14]) (g14 : o14.guard = none)
    (q15 : Region.ready .any #[o0, o1, o2, o3, o4, o5, o6, o7, o8, o9, o10, o11, o12, o13, o14, o15, o16, o17] #[true, true, true, true, true, true, true, true, true, true, true, true, true, true, true, false, false, false] = [15]) (g15 : o15.guard = none)
    (q16 : Region.ready .any #[o0, o1, o2, o3, o4, o5, o6, o7, o8, o9, o10, o11, o12, o13, o14, o15, o16, o17] #[true, true, true, true, true, true, true, true, true, true, true, true, true, true, true, true, false, false] = [16]) (g16 : o16.guard = none)
    (q17 : Region.ready .any #[o0, o1, o2, o3, o4, o5, o6, o7, o8, o9, o10, o11, o12, o13, o14, o15, o16, o17] #[true, true, true, true, true, true, true, true, true, true, true, true, true, true, true, true, true, false] = [17]) (g17 : o17.guard = none)
    (rr : Region.ready .any #[o0, o1, o2, o3, o4, o5, o6, o7, o8, o9, o10, o11, o12, o13, o14, o15, o16, o17] #[true, true, true, true, true, true, true, true, true, true, true, true, true, true, true, true, true, true] = [])
    (v0 v1 v2 v3 v4 v5 v6 v7 v8 v9 v10 v11 v12 v13 : Value) (A0 A1 A2 A3 A4 A5 A6 A7 A8 A9 A10 A11 A12 A13 : Act) (T : World → Prop)
    (I0 : World → Prop)
    (I1 : Value → World → Prop)
    (I2 : Value → Value → World → Prop)
    (I3 : Value → Value → Value → World → Prop)
    (IE : Value → Value → Value → World → Prop)
    (p0 : a.put o0.dst v0 = A0) (hy0 : YieldsIf P #[o0, o1, o2, o3, o4, o5, o6, o7, o8, o9, o10, o11, o12, o13, o14, o15, o16, o17] T o0 v0 a)
    (p1 : A0.put o1.dst v1 = A1) (hy1 : YieldsIf P #[o0, o1, o2, o3, o4, o5, o6, o7, o8, o9, o10, o11, o12, o13, o14, o15, o16, o17] T o1 v1 A0)
    (p2 : A1.put o2.dst v2 = A2) (hy2 : YieldsIf P #[o0, o1, o2, o3, o4, o5, o6, o7, o8, o9, o10, o11, o12, o13, o14, o15, o16, o17] T o2 v2 A1)
    (p3 : A2.put o3.dst v3 = A3) (hy3 : YieldsIf P #[o0, o1, o2, o3, o4, o5, o6, o7, o8, o9, o10, o11, o12, o13, o14, o15, o16, o17] T o3 v3 A2)
    (p4 : A3.put o4.dst v4 = A4) (hy4 : YieldsIf P #[o0, o1, o2, o3, o4, o5, o6, o7, o8, o9, o10, o11, o12, o13, o14, o15, o16, o17] T o4 v4 A3)
    (p5 : A4.put o5.dst v5 = A5) (hy5 : YieldsIf P #[o0, o1, o2, o3, o4, o5, o6, o7, o8, o9, o10, o11, o12, o13, o14, o15, o16, o17] T o5 v5 A4)
    (p6 : A5.put o6.dst v6 = A6) (hy6 : YieldsIf P #[o0, o1, o2, o3, o4, o5, o6, o7, o8, o9, o10, o11, o12, o13, o14, o15, o16, o17] T o6 v6 A5)
    (p7 : A6.put o7.dst v7 = A7) (hy7 : YieldsIf P #[o0, o1, o2, o3, o4, o5, o6, o7, o8, o9, o10, o11, o12, o13, o14, o15, o16, o17] T o7 v7 A6)
    (p8 : A7.put o8.dst v8 = A8) (hy8 : YieldsIf P #[o0, o1, o2, o3, o4, o5, o6, o7, o8, o9, o10, o11, o12, o13, o14, o15, o16, o17] T o8 v8 A7)
    (p9 : A8.put o9.dst v9 = A9) (hy9 : YieldsIf P #[o0, o1, o2, o3, o4, o5, o6, o7, o8, o9, o10, o11, o12, o13, o14, o15, o16, o17] T o9 v9 A8)
    (p10 : A9.put o10.dst v10 = A10) (hy10 : YieldsIf P #[o0, o1, o2, o3, o4, o5, o6, o7, o8, o9, o10, o11, o12, o13, o14, o15, o16, o17] T o10 v10 A9)
    (p11 : A10.put o11.dst v11 = A11) (hy11 : YieldsIf P #[o0, o1, o2, o3, o4, o5, o6, o7, o8, o9, o10, o11, o12, o13, o14, o15, o16, o17] T o11 v11 A10)
    (p12 : A11.put o12.dst v12 = A12) (hy12 : YieldsIf P #[o0, o1, o2, o3, o4, o5, o6, o7, o8, o9, o10, o11, o12, o13, o14, o15, o16, o17] T o12 v12 A11)
    (p13 : A12.put o13.dst v13 = A13) (hy13 : YieldsIf P #[o0, o1, o2, o3, o4, o5, o6, o7, o8, o9, o10, o11, o12, o13, o14, o15, o16, o17] T o13 v13 A12)
    (i0 : I0 w.drew)
    (hIT : (∀ w', I0  w' → T w') ∧ (∀ (u0 : Value) w', I1 u0 w' → T w') ∧ (∀ (u0 u1 : Value) w', I2 u0 u1 w' → T w') ∧ (∀ (u0 u1 u2 : Value) w', I3 u0 u1 u2 w' → T w'))
    (s0 : ∀ w', I0  w' → ∀ K : Act → World → Prop, (∀ (u0 : Value) w2, I1 u0 w2 → K (A13.put o14.dst u0) w2) → o14.wp P A13 w' K (NoPanic Q))
    (s1 : ∀ (u0 : Value) w', I1 u0 w' → ∀ K : Act → World → Prop, (∀ (u1 : Value) w2, I2 u0 u1 w2 → K ((A13.put o14.dst u0).put o15.dst u1) w2) → o15.wp P (A13.put o14.dst u0) w' K (NoPanic Q))
    (s2 : ∀ (u0 u1 : Value) w', I2 u0 u1 w' → ∀ K : Act → World → Prop, (∀ (u2 : Value) w2, I3 u0 u1 u2 w2 → K (((A13.put o14.dst u0).put o15.dst u1).put o16.dst u2) w2) → o16.wp P ((A13.put o14.dst u0).put o15.dst u1) w' K (NoPanic Q))
    (se : ∀ (u0 u1 u2 : Value) w', I3 u0 u1 u2 w' → ∀ K : Act → World → Prop, (∀ w2, IE u0 u1 u2 w2 → K (((A13.put o14.dst u0).put o15.dst u1).put o16.dst u2) w2) → o17.wp P (((A13.put o14.dst u0).put o15.dst u1).put o16.dst u2) w' K (NoPanic Q))
    (h : ∀ (u0 u1 u2 : Value) w', IE u0 u1 u2 w' → Q .normal (((A13.put o14.dst u0).put o15.dst u1).put o16.dst u2) w') :
    (Code.region id #[o0, o1, o2, o3, o4, o5, o6, o7, o8, o9, o10, o11, o12, o13, o14, o15, o16, o17] true).wp P Q a w := by
  subst p0 p1 p2 p3 p4 p5 p6 p7 p8 p9 p10 p11 p12 p13
  obtain ⟨z0, z1, z2, z3⟩ := hIT
  refine wp_region_noPanic ?_
  refine wp_region_any hm ?_
  refine AnyL.any (S := fun d w' => d.getD 17 true = false → T w') _ _ _ _ ?_
  show AnyL P .any #[o0, o1, o2, o3, o4, o5, o6, o7, o8, o9, o10, o11, o12, o13, o14, o15, o16, o17] (NoPanic Q) _ 18 #[false, false, false, false, false, false, false, false, false, false, false, false, false, false, false, false, false, false] a w.drew
  have hSi : ∀ i, i ≠ 17 → ∀ (d : Array Bool) (w' : World), ((d.setIfInBounds i true).getD 17 true = false → T w') ↔ (d.getD 17 true = false → T w') := by
    intro i h4 d w'
    rw [getD_set_ne true h4]
  refine AnyL.take (i := 0) (t := 17) (oi := o0) (ot := o17) (T := T) rfl rfl (by decide) hs f0 r0 e0 (fun _ _ _ h => h) (fun d w' h9 hd => h9 hd) (hSi 0 (by decide)) hy0 rfl (fun _ => z0 _ i0) ?_
  refine AnyL.take (i := 1) (t := 17) (oi := o1) (ot := o17) (T := T) rfl rfl (by decide) hs f1 r1 e1 (fun _ _ _ h => h) (fun d w' h9 hd => h9 hd) (hSi 1 (by decide)) hy1 rfl (fun _ => z0 _ i0) ?_
  refine AnyL.take (i := 2) (t := 17) (oi := o2) (ot := o17) (T := T) rfl rfl (by decide) hs f2 r2 e2 (fun _ _ _ h => h) (fun d w' h9 hd => h9 hd) (hSi 2 (by decide)) hy2 rfl (fun _ => z0 _ i0) ?_
  refine AnyL.take (i := 3) (t := 17) (oi := o3) (ot := o17) (T := T) rfl rfl (by decide) hs f3 r3 e3 (fun _ _ _ h => h) (fun d w' h9 hd => h9 hd) (hSi 3 (by decide)) hy3 rfl (fun _ => z0 _ i0) ?_
  refine AnyL.take (i := 4) (t := 17) (oi := o4) (ot := o17) (T := T) rfl rfl (by decide) hs f4 r4 e4 (fun _ _ _ h => h) (fun d w' h9 hd => h9 hd) (hSi 4 (by decide)) hy4 rfl (fun _ => z0 _ i0) ?_
  refine AnyL.take (i := 5) (t := 17) (oi := o5) (ot := o17) (T := T) rfl rfl (by decide) hs f5 r5 e5 (fun _ _ _ h => h) (fun d w' h9 hd => h9 hd) (hSi 5 (by decide)) hy5 rfl (fun _ => z0 _ i0) ?_
  refine AnyL.take (i := 6) (t := 17) (oi := o6) (ot := o17) (T := T) rfl rfl (by decide) hs f6 r6 e6 (fun _ _ _ h => h) (fun d w' h9 hd => h9 hd) (hSi 6 (by decide)) hy6 rfl (fun _ => z0 _ i0) ?_
  refine AnyL.take (i := 7) (t := 17) (oi := o7) (ot := o17) (T := T) rfl rfl (by decide) hs f7 r7 e7 (fun _ _ _ h => h) (fun d w' h9 hd => h9 hd) (hSi 7 (by decide)) hy7 rfl (fun _ => z0 _ i0) ?_
  refine AnyL.take (i := 8) (t := 17) (oi := o8) (ot := o17) (T := T) rfl rfl (by decide) hs f8 r8 e8 (fun _ _ _ h => h) (fun d w' h9 hd => h9 hd) (hSi 8 (by decide)) hy8 rfl (fun _ => z0 _ i0) ?_
  refine AnyL.take (i := 9) (t := 17) (oi := o9) (ot := o17) (T := T) rfl rfl (by decide) hs f9 r9 e9 (fun _ _ _ h => h) (fun d w' h9 hd => h9 hd) (hSi 9 (by decide)) hy9 rfl (fun _ => z0 _ i0) ?_
  refine AnyL.take (i := 10) (t := 17) (oi := o10) (ot := o17) (T := T) rfl rfl (by decide) hs f10 r10 e10 (fun _ _ _ h => h) (fun d w' h9 hd => h9 hd) (hSi 10 (by decide)) hy10 rfl (fun _ => z0 _ i0) ?_
  refine AnyL.take (i := 11) (t := 17) (oi := o11) (ot := o17) (T := T) rfl rfl (by decide) hs f11 r11 e11 (fun _ _ _ h => h) (fun d w' h9 hd => h9 hd) (hSi 11 (by decide)) hy11 rfl (fun _ => z0 _ i0) ?_
  refine AnyL.take (i := 12) (t := 17) (oi := o12) (ot := o17) (T := T) rfl rfl (by decide) hs f12 r12 e12 (fun _ _ _ h => h) (fun d w' h9 hd => h9 hd) (hSi 12 (by decide)) hy12 rfl (fun _ => z0 _ i0) ?_
  refine AnyL.take (i := 13) (t := 17) (oi := o13) (ot := o17) (T := T) rfl rfl (by decide) hs f13 r13 e13 (fun _ _ _ h => h) (fun d w' h9 hd => h9 hd) (hSi 13 (by decide)) hy13 rfl (fun _ => z0 _ i0) ?_
  refine AnyL.forced q14 rfl g14 (fun K hK => s0  w.drew i0 K (fun u0 w1 i1 => hK _ _ (fun _ => z1 u0 w1 i1) ?_))
  refine AnyL.forced q15 rfl g15 (fun K hK => s1 u0 w1 i1 K (fun u1 w2 i2 => hK _ _ (fun _ => z2 u0 u1 w2 i2) ?_))
  refine AnyL.forced q16 rfl g16 (fun K hK => s2 u0 u1 w2 i2 K (fun u2 w3 i3 => hK _ _ (fun _ => z3 u0 u1 u2 w3 i3) ?_))
  refine AnyL.forced q17 rfl g17 (fun K hK => se u0 u1 u2 w3 i3 K (fun we ie => hK _ _ (fun h9 => (by cases h9)) ?_))
  exact ⟨rr, NoPanic.normal (h u0 u1 u2 we ie)⟩

theorem wp_rc17 {id : Nat} {o0 o1 o2 o3 o4 o5 o6 o7 o8 o9 o10 o11 o12 o13 o14 o15 o16 : Oper} {a : Act} {w : World} (hm : P.follows .mixedOrders = true) (hs : Region.noSelect #[o0, o1, o2, o3, o4, o5, o6, o7, o8, o9, o10, o11, o12, o13, o14, o15, o16] = true)
    (f0 : Region.free .any #[o0, o1, o2, o3, o4, o5, o6, o7, o8, o9, o10, o11, o12, o13, o14, o15, o16] #[false, false, false, false, false, false, false, false, false, false, false, false, false, false, false, false, false] 0 = true) (r0 : (Region.ready .any #[o0, o1, o2, o3, o4, o5, o6, o7, o8, o9, o10, o11, o12, o13, o14, o15, o16] #[false, false, false, false, false, false, false, false, false, false, false, false, false, false, false, false, false]).contains 0 = true) (e0 : o16.after.any (fun e => Region.binds .any e && e.on == 0) = true)
    (f1 : Region.free .any #[o0, o1, o2, o3, o4, o5, o6, o7, o8, o9, o10, o11, o12, o13, o14, o15, o16] #[true, false, false, false, false, false, false, false, false, false, false, false, false, false, false, false, false] 1 = true) (r1 : (Region.ready .any #[o0, o1, o2, o3, o4, o5, o6, o7, o8, o9, o10, o11, o12, o13, o14, o15, o16] #[true, false, false, false, false, false, false, false, false, false, false, false, false, false, false, false, false]).contains 1 = true) (e1 : o16.after.any (fun e => Region.binds .any e && e.on == 1) = true)
    (f2 : Region.free .any #[o0, o1, o2, o3, o4, o5, o6, o7, o8, o9, o10, o11, o12, o13, o14, o15, o16] #[true, true, false, false, false, false, false, false, false, false, false, false, false, false, false, false, false] 2 = true) (r2 : (Region.ready .any #[o0, o1, o2, o3, o4, o5, o6, o7, o8, o9, o10, o11, o12, o13, o14, o15, o16] #[true, true, false, false, false, false, false, false, false, false, false, false, false, false, false, false, false]).contains 2 = true) (e2 : o16.after.any (fun e => Region.binds .any e && e.on == 2) = true)
    (f3 : Region.free .any #[o0, o1, o2, o3, o4, o5, o6, o7, o8, o9, o10, o11, o12, o13, o14, o15, o16] #[true, true, true, false, false, false, false, false, false, false, false, false, false, false, false, false, false] 3 = true) (r3 : (Region.ready .any #[o0, o1, o2, o3, o4, o5, o6, o7, o8, o9, o10, o11, o12, o13, o14, o15, o16] #[true, true, true, false, false, false, false, false, false, false, false, false, false, false, false, false, false]).contains 3 = true) (e3 : o16.after.any (fun e => Region.binds .any e && e.on == 3) = true)
    (f4 : Region.free .any #[o0, o1, o2, o3, o4, o5, o6, o7, o8, o9, o10, o11, o12, o13, o14, o15, o16] #[true, true, true, true, false, false, false, false, false, false, false, false, false, false, false, false, false] 4 = true) (r4 : (Region.ready .any #[o0, o1, o2, o3, o4, o5, o6, o7, o8, o9, o10, o11, o12, o13, o14, o15, o16] #[true, true, true, true, false, false, false, false, false, false, false, false, false, false, false, false, false]).contains 4 = true) (e4 : o16.after.any (fun e => Region.binds .any e && e.on == 4) = true)
    (f5 : Region.free .any #[o0, o1, o2, o3, o4, o5, o6, o7, o8, o9, o10, o11, o12, o13, o14, o15, o16] #[true, true, true, true, true, false, false, false, false, false, false, false, false, false, false, false, false] 5 = true) (r5 : (Region.ready .any #[o0, o1, o2, o3, o4, o5, o6, o7, o8, o9, o10, o11, o12, o13, o14, o15, o16] #[true, true, true, true, true, false, false, false, false, false, false, false, false, false, false, false, false]).contains 5 = true) (e5 : o16.after.any (fun e => Region.binds .any e && e.on == 5) = true)
    (f6 : Region.free .any #[o0, o1, o2, o3, o4, o5, o6, o7, o8, o9, o10, o11, o12, o13, o14, o15, o16] #[true, true, true, true, true, true, false, false, false, false, false, false, false, false, false, false, false] 6 = true) (r6 : (Region.ready .any #[o0, o1, o2, o3, o4, o5, o6, o7, o8, o9, o10, o11, o12, o13, o14, o15, o16] #[true, true, true, true, true, true, false, false, false, false, false, false, false, false, false, false, false]).contains 6 = true) (e6 : o16.after.any (fun e => Region.binds .any e && e.on == 6) = true)
    (f7 : Region.free .any #[o0, o1, o2, o3, o4, o5, o6, o7, o8, o9, o10, o11, o12, o13, o14, o15, o16] #[true, true, true, true, true, true, true, false, false, false, false, false, false, false, false, false, false] 7 = true) (r7 : (Region.ready .any #[o0, o1, o2, o3, o4, o5, o6, o7, o8, o9, o10, o11, o12, o13, o14, o15, o16] #[true, true, true, true, true, true, true, false, false, false, false, false, false, false, false, false, false]).contains 7 = true) (e7 : o16.after.any (fun e => Region.binds .any e && e.on == 7) = true)
    (f8 : Region.free .any #[o0, o1, o2, o3, o4, o5, o6, o7, o8, o9, o10, o11, o12, o13, o14, o15, o16] #[true, true, true, true, true, true, true, true, false, false, false, false, false, false, false, false, false] 8 = true) (r8 : (Region.ready .any #[o0, o1, o2, o3, o4, o5, o6, o7, o8, o9, o10, o11, o12, o13, o14, o15, o16] #[true, true, true, true, true, true, true, true, false, false, false, false, false, false, false, false, false]).contains 8 = true) (e8 : o16.after.any (fun e => Region.binds .any e && e.on == 8) = true)
    (f9 : Region.free .any #[o0, o1, o2, o3, o4, o5, o6, o7, o8, o9, o10, o11, o12, o13, o14, o15, o16] #[true, true, true, true, true, true, true, true, true, false, false, false, false, false, false, false, false] 9 = true) (r9 : (Region.ready .any #[o0, o1, o2, o3, o4, o5, o6, o7, o8, o9, o10, o11, o12, o13, o14, o15, o16] #[true, true, true, true, true, true, true, true, true, false, false, false, false, false, false, false, false]).contains 9 = true) (e9 : o16.after.any (fun e => Region.binds .any e && e.on == 9) = true)
    (f10 : Region.free .any #[o0, o1, o2, o3, o4, o5, o6, o7, o8, o9, o10, o11, o12, o13, o14, o15, o16] #[true, true, true, true, true, true, true, true, true, true, false, false, false, false, false, false, false] 10 = true) (r10 : (Region.ready .any #[o0, o1, o2, o3, o4, o5, o6, o7, o8, o9, o10, o11, o12, o13, o14, o15, o16] #[true, true, true, true, true, true, true, true, true, true, false, false, false, false, false, false, false]).contains 10 = true) (e10 : o16.after.any (fun e => Region.binds .any e && e.on == 10) = true)
    (f11 : Region.free .any #[o0, o1, o2, o3, o4, o5, o6, o7, o8, o9, o10, o11, o12, o13, o14, o15, o16] #[true, true, true, true, true, true, true, true, true, true, true, false, false, false, false, false, false] 11 = true) (r11 : (Region.ready .any #[o0, o1, o2, o3, o4, o5, o6, o7, o8, o9, o10, o11, o12, o13, o14, o15, o16] #[true, true, true, true, true, true, true, true, true, true, true, false, false, false, false, false, false]).contains 11 = true) (e11 : o16.after.any (fun e => Region.binds .any e && e.on == 11) = true)
    (f12 : Region.free .any #[o0, o1, o2, o3, o4, o5, o6, o7, o8, o9, o10, o11, o12, o13, o14, o15, o16] #[true, true, true, true, true, true, true, true, true, true, true, true, false, false, false, false, false] 12 = true) (r12 : (Region.ready .any #[o0, o1, o2, o3, o4, o5, o6, o7, o8, o9, o10, o11, o12, o13, o14, o15, o16] #[true, true, true, true, true, true, true, true, true, true, true, true, false, false, false, false, false]).contains 12 = true) (e12 : o16.after.any (fun e => Region.binds .any e && e.on == 12) = true)
    (f13 : Region.free .any #[o0, o1, o2, o3, o4, o5, o6, o7, o8, o9, o10, o11, o12, o13, o14, o15, o16] #[true, true, true, true, true, true, true, true, true, true, true, true, true, false, false, false, false] 13 = true) (r13 : (Region.ready .any #[o0, o1, o2, o3, o4, o5, o6, o7, o8, o9, o10, o11, o12, o13, o14, o15, o16] #[true, true, true, true, true, true, true, true, true, true, true, true, true, false, false, false, false]).contains 13 = true) (e13 : o16.after.any (fun e => Region.binds .any e && e.on == 13) = true)
    (q14 : Region.ready .any #[o0, o1, o2, o3, o4, o5, o6, o7, o8, o9, o10, o11, o12, o13, o14, o15, o16] #[true, true, true, true, true, true, true, true, true, true, true, true, true, true, false, false, false] = [14]) (g14 : o14.guard = none)
    (q15 : Region.ready .any #[o0, o1, o2, o3, o4, o5, o6, o7, o8, o9, o10, o11, o12, o13, o14, o15, o16] #[true, true, true, true, true, true, true, true, true, true, true, true, true, true, true, false, false] = [15]) (g15 : o15.guard = none)
    (q16 : Region.ready .any #[o0, o1, o2, o3, o4, o5, o6, o7, o8, o9, o10, o11, o12, o13, o14, o15, o16] #[true, true, true, true, true, true, true, true, true, true, true, true, true, true, true, true, false] = [16]) (g16 : o16.guard = none)
    (rr : Region.ready .any #[o0, o1, o2, o3, o4, o5, o6, o7, o8, o9, o10, o11, o12, o13, o14, o15, o16] #[true, true, true, true, true, true, true, true, true, true, true, true, true, true, true, true, true] = [])
    (v0 v1 v2 v3 v4 v5 v6 v7 v8 v9 v10 v11 v12 v13 : Value) (A0 A1 A2 A3 A4 A5 A6 A7 A8 A9 A10 A11 A12 A13 : Act) (T : World → Prop)
    (I0 : World → Prop)
    (I1 : Value → World → Prop)
    (I2 : Value → Value → World → Prop)
    (IE : Value → Value → World → Prop)
    (p0 : a.put o0.dst v0 = A0) (hy0 : YieldsIf P #[o0, o1, o2, o3, o4, o5, o6, o7, o8, o9, o10, o11, o12, o13, o14, o15, o16] T o0 v0 a)
    (p1 : A0.put o1.dst v1 = A1) (hy1 : YieldsIf P #[o0, o1, o2, o3, o4, o5, o6, o7, o8, o9, o10, o11, o12, o13, o14, o15, o16] T o1 v1 A0)
    (p2 : A1.put o2.dst v2 = A2) (hy2 : YieldsIf P #[o0, o1, o2, o3, o4, o5, o6, o7, o8, o9, o10, o11, o12, o13, o14, o15, o16] T o2 v2 A1)
    (p3 : A2.put o3.dst v3 = A3) (hy3 : YieldsIf P #[o0, o1, o2, o3, o4, o5, o6, o7, o8, o9, o10, o11, o12, o13, o14, o15, o16] T o3 v3 A2)
    (p4 : A3.put o4.dst v4 = A4) (hy4 : YieldsIf P #[o0, o1, o2, o3, o4, o5, o6, o7, o8, o9, o10, o11, o12, o13, o14, o15, o16] T o4 v4 A3)
    (p5 : A4.put o5.dst v5 = A5) (hy5 : YieldsIf P #[o0, o1, o2, o3, o4, o5, o6, o7, o8, o9, o10, o11, o12, o13, o14, o15, o16] T o5 v5 A4)
    (p6 : A5.put o6.dst v6 = A6) (hy6 : YieldsIf P #[o0, o1, o2, o3, o4, o5, o6, o7, o8, o9, o10, o11, o12, o13, o14, o15, o16] T o6 v6 A5)
    (p7 : A6.put o7.dst v7 = A7) (hy7 : YieldsIf P #[o0, o1, o2, o3, o4, o5, o6, o7, o8, o9, o10, o11, o12, o13, o14, o15, o16] T o7 v7 A6)
    (p8 : A7.put o8.dst v8 = A8) (hy8 : YieldsIf P #[o0, o1, o2, o3, o4, o5, o6, o7, o8, o9, o10, o11, o12, o13, o14, o15, o16] T o8 v8 A7)
    (p9 : A8.put o9.dst v9 = A9) (hy9 : YieldsIf P #[o0, o1, o2, o3, o4, o5, o6, o7, o8, o9, o10, o11, o12, o13, o14, o15, o16] T o9 v9 A8)
    (p10 : A9.put o10.dst v10 = A10) (hy10 : YieldsIf P #[o0, o1, o2, o3, o4, o5, o6, o7, o8, o9, o10, o11, o12, o13, o14, o15, o16] T o10 v10 A9)
    (p11 : A10.put o11.dst v11 = A11) (hy11 : YieldsIf P #[o0, o1, o2, o3, o4, o5, o6, o7, o8, o9, o10, o11, o12, o13, o14, o15, o16] T o11 v11 A10)
    (p12 : A11.put o12.dst v12 = A12) (hy12 : YieldsIf P #[o0, o1, o2, o3, o4, o5, o6, o7, o8, o9, o10, o11, o12, o13, o14, o15, o16] T o12 v12 A11)
    (p13 : A12.put o13.dst v13 = A13) (hy13 : YieldsIf P #[o0, o1, o2, o3, o4, o5, o6, o7, o8, o9, o10, o11, o12, o13, o14, o15, o16] T o13 v13 A12)
    (i0 : I0 w.drew)
    (hIT : (∀ w', I0  w' → T w') ∧ (∀ (u0 : Value) w', I1 u0 w' → T w') ∧ (∀ (u0 u1 : Value) w', I2 u0 u1 w' → T w'))
    (s0 : ∀ w', I0  w' → ∀ K : Act → World → Prop, (∀ (u0 : Value) w2, I1 u0 w2 → K (A13.put o14.dst u0) w2) → o14.wp P A13 w' K (NoPanic Q))
    (s1 : ∀ (u0 : Value) w', I1 u0 w' → ∀ K : Act → World → Prop, (∀ (u1 : Value) w2, I2 u0 u1 w2 → K ((A13.put o14.dst u0).put o15.dst u1) w2) → o15.wp P (A13.put o14.dst u0) w' K (NoPanic Q))
    (se : ∀ (u0 u1 : Value) w', I2 u0 u1 w' → ∀ K : Act → World → Prop, (∀ w2, IE u0 u1 w2 → K ((A13.put o14.dst u0).put o15.dst u1) w2) → o16.wp P ((A13.put o14.dst u0).put o15.dst u1) w' K (NoPanic Q))
    (h : ∀ (u0 u1 : Value) w', IE u0 u1 w' → Q .normal ((A13.put o14.dst u0).put o15.dst u1) w') :
    (Code.region id #[o0, o1, o2, o3, o4, o5, o6, o7, o8, o9, o10, o11, o12, o13, o14, o15, o16] true).wp P Q a w := by
  subst p0 p1 p2 p3 p4 p5 p6 p7 p8 p9 p10 p11 p12 p13
  obtain ⟨z0, z1, z2⟩ := hIT
  refine wp_region_noPanic ?_
  refine wp_region_any hm ?_
  refine AnyL.any (S := fun d w' => d.getD 16 true = false → T w') _ _ _ _ ?_
  show AnyL P .any #[o0, o1, o2, o3, o4, o5, o6, o7, o8, o9, o10, o11, o12, o13, o14, o15, o16] (NoPanic Q) _ 17 #[false, false, false, false, false, false, false, false, false, false, false, false, false, false, false, false, false] a w.drew
  have hSi : ∀ i, i ≠ 16 → ∀ (d : Array Bool) (w' : World), ((d.setIfInBounds i true).getD 16 true = false → T w') ↔ (d.getD 16 true = false → T w') := by
    intro i h4 d w'
    rw [getD_set_ne true h4]
  refine AnyL.take (i := 0) (t := 16) (oi := o0) (ot := o16) (T := T) rfl rfl (by decide) hs f0 r0 e0 (fun _ _ _ h => h) (fun d w' h9 hd => h9 hd) (hSi 0 (by decide)) hy0 rfl (fun _ => z0 _ i0) ?_
  refine AnyL.take (i := 1) (t := 16) (oi := o1) (ot := o16) (T := T) rfl rfl (by decide) hs f1 r1 e1 (fun _ _ _ h => h) (fun d w' h9 hd => h9 hd) (hSi 1 (by decide)) hy1 rfl (fun _ => z0 _ i0) ?_
  refine AnyL.take (i := 2) (t := 16) (oi := o2) (ot := o16) (T := T) rfl rfl (by decide) hs f2 r2 e2 (fun _ _ _ h => h) (fun d w' h9 hd => h9 hd) (hSi 2 (by decide)) hy2 rfl (fun _ => z0 _ i0) ?_
  refine AnyL.take (i := 3) (t := 16) (oi := o3) (ot := o16) (T := T) rfl rfl (by decide) hs f3 r3 e3 (fun _ _ _ h => h) (fun d w' h9 hd => h9 hd) (hSi 3 (by decide)) hy3 rfl (fun _ => z0 _ i0) ?_
  refine AnyL.take (i := 4) (t := 16) (oi := o4) (ot := o16) (T := T) rfl rfl (by decide) hs f4 r4 e4 (fun _ _ _ h => h) (fun d w' h9 hd => h9 hd) (hSi 4 (by decide)) hy4 rfl (fun _ => z0 _ i0) ?_
  refine AnyL.take (i := 5) (t := 16) (oi := o5) (ot := o16) (T := T) rfl rfl (by decide) hs f5 r5 e5 (fun _ _ _ h => h) (fun d w' h9 hd => h9 hd) (hSi 5 (by decide)) hy5 rfl (fun _ => z0 _ i0) ?_
  refine AnyL.take (i := 6) (t := 16) (oi := o6) (ot := o16) (T := T) rfl rfl (by decide) hs f6 r6 e6 (fun _ _ _ h => h) (fun d w' h9 hd => h9 hd) (hSi 6 (by decide)) hy6 rfl (fun _ => z0 _ i0) ?_
  refine AnyL.take (i := 7) (t := 16) (oi := o7) (ot := o16) (T := T) rfl rfl (by decide) hs f7 r7 e7 (fun _ _ _ h => h) (fun d w' h9 hd => h9 hd) (hSi 7 (by decide)) hy7 rfl (fun _ => z0 _ i0) ?_
  refine AnyL.take (i := 8) (t := 16) (oi := o8) (ot := o16) (T := T) rfl rfl (by decide) hs f8 r8 e8 (fun _ _ _ h => h) (fun d w' h9 hd => h9 hd) (hSi 8 (by decide)) hy8 rfl (fun _ => z0 _ i0) ?_
  refine AnyL.take (i := 9) (t := 16) (oi := o9) (ot := o16) (T := T) rfl rfl (by decide) hs f9 r9 e9 (fun _ _ _ h => h) (fun d w' h9 hd => h9 hd) (hSi 9 (by decide)) hy9 rfl (fun _ => z0 _ i0) ?_
  refine AnyL.take (i := 10) (t := 16) (oi := o10) (ot := o16) (T := T) rfl rfl (by decide) hs f10 r10 e10 (fun _ _ _ h => h) (fun d w' h9 hd => h9 hd) (hSi 10 (by decide)) hy10 rfl (fun _ => z0 _ i0) ?_
  refine AnyL.take (i := 11) (t := 16) (oi := o11) (ot := o16) (T := T) rfl rfl (by decide) hs f11 r11 e11 (fun _ _ _ h => h) (fun d w' h9 hd => h9 hd) (hSi 11 (by decide)) hy11 rfl (fun _ => z0 _ i0) ?_
  refine AnyL.take (i := 12) (t := 16) (oi := o12) (ot := o16) (T := T) rfl rfl (by decide) hs f12 r12 e12 (fun _ _ _ h => h) (fun d w' h9 hd => h9 hd) (hSi 12 (by decide)) hy12 rfl (fun _ => z0 _ i0) ?_
  refine AnyL.take (i := 13) (t := 16) (oi := o13) (ot := o16) (T := T) rfl rfl (by decide) hs f13 r13 e13 (fun _ _ _ h => h) (fun d w' h9 hd => h9 hd) (hSi 13 (by decide)) hy13 rfl (fun _ => z0 _ i0) ?_
  refine AnyL.forced q14 rfl g14 (fun K hK => s0  w.drew i0 K (fun u0 w1 i1 => hK _ _ (fun _ => z1 u0 w1 i1) ?_))
  refine AnyL.forced q15 rfl g15 (fun K hK => s1 u0 w1 i1 K (fun u1 w2 i2 => hK _ _ (fun _ => z2 u0 u1 w2 i2) ?_))
  refine AnyL.forced q16 rfl g16 (fun K hK => se u0 u1 w2 i2 K (fun we ie => hK _ _ (fun h9 => (by cases h9)) ?_))
  exact ⟨rr, NoPanic.normal (h u0 u1 we ie)⟩

theorem wp_rc12 {id : Nat} {o0 o1 o2 o3 o4 o5 o6 o7 o8 o9 o10 o11 : Oper} {a : Act} {w : World} (hm : P.follows .mixedOrders = true) (hs : Region.noSelect #[o0, o1, o2, o3, o4, o5, o6, o7, o8, o9, o10, o11] = true)
    (f0 : Region.free .any #[o0, o1, o2, o3, o4, o5, o6, o7, o8, o9, o10, o11] #[false, false, false, false, false, false, false, false, false, false, false, false] 0 = true) (r0 : (Region.ready .any #[o0, o1, o2, o3, o4, o5, o6, o7, o8, o9, o10, o11] #[false, false, false, false, false, false, false, false, false, false, false, false]).contains 0 = true) (e0 : o11.after.any (fun e => Region.binds .any e && e.on == 0) = true)
    (f1 : Region.free .any #[o0, o1, o2, o3, o4, o5, o6, o7, o8, o9, o10, o11] #[true, false, false, false, false, false, false, false, false, false, false, false] 1 = true) (r1 : (Region.ready .any #[o0, o1, o2, o3, o4, o5, o6, o7, o8, o9, o10, o11] #[true, false, false, false, false, false, false, false, false, false, false, false]).contains 1 = true) (e1 : o11.after.any (fun e => Region.binds .any e && e.on == 1) = true)
    (f2 : Region.free .any #[o0, o1, o2, o3, o4, o5, o6, o7, o8, o9, o10, o11] #[true, true, false, false, false, false, false, false, false, false, false, false] 2 = true) (r2 : (Region.ready .any #[o0, o1, o2, o3, o4, o5, o6, o7, o8, o9, o10, o11] #[true, true, false, false, false, false, false, false, false, false, false, false]).contains 2 = true) (e2 : o11.after.any (fun e => Region.binds .any e && e.on == 2) = true)
    (f3 : Region.free .any #[o0, o1, o2, o3, o4, o5, o6, o7, o8, o9, o10, o11] #[true, true, true, false, false, false, false, false, false, false, false, false] 3 = true) (r3 : (Region.ready .any #[o0, o1, o2, o3, o4, o5, o6, o7, o8, o9, o10, o11] #[true, true, true, false, false, false, false, false, false, false, false, false]).contains 3 = true) (e3 : o11.after.any (fun e => Region.binds .any e && e.on == 3) = true)
    (f4 : Region.free .any #[o0, o1, o2, o3, o4, o5, o6, o7, o8, o9, o10, o11] #[true, true, true, true, false, false, false, false, false, false, false, false] 4 = true) (r4 : (Region.ready .any #[o0, o1, o2, o3, o4, o5, o6, o7, o8, o9, o10, o11] #[true, true, true, true, false, false, false, false, false, false, false, false]).contains 4 = true) (e4 : o11.after.any (fun e => Region.binds .any e && e.on == 4) = true)
    (f5 : Region.free .any #[o0, o1, o2, o3, o4, o5, o6, o7, o8, o9, o10, o11] #[true, true, true, true, true, false, false, false, false, false, false, false] 5 = true) (r5 : (Region.ready .any #[o0, o1, o2, o3, o4, o5, o6, o7, o8, o9, o10, o11] #[true, true, true, true, true, false, false, false, false, false, false, false]).contains 5 = true) (e5 : o11.after.any (fun e => Region.binds .any e && e.on == 5) = true)
    (q6 : Region.ready .any #[o0, o1, o2, o3, o4, o5, o6, o7, o8, o9, o10, o11] #[true, true, true, true, true, true, false, false, false, false, false, false] = [6]) (g6 : o6.guard = none)
    (q7 : Region.ready .any #[o0, o1, o2, o3, o4, o5, o6, o7, o8, o9, o10, o11] #[true, true, true, true, true, true, true, false, false, false, false, false] = [7]) (g7 : o7.guard = none)
    (q8 : Region.ready .any #[o0, o1, o2, o3, o4, o5, o6, o7, o8, o9, o10, o11] #[true, true, true, true, true, true, true, true, false, false, false, false] = [8]) (g8 : o8.guard = none)
    (q9 : Region.ready .any #[o0, o1, o2, o3, o4, o5, o6, o7, o8, o9, o10, o11] #[true, true, true, true, true, true, true, true, true, false, false, false] = [9]) (g9 : o9.guard = none)
    (q10 : Region.ready .any #[o0, o1, o2, o3, o4, o5, o6, o7, o8, o9, o10, o11] #[true, true, true, true, true, true, true, true, true, true, false, false] = [10]) (g10 : o10.guard = none)
    (q11 : Region.ready .any #[o0, o1, o2, o3, o4, o5, o6, o7, o8, o9, o10, o11] #[true, true, true, true, true, true, true, true, true, true, true, false] = [11]) (g11 : o11.guard = none)
    (rr : Region.ready .any #[o0, o1, o2, o3, o4, o5, o6, o7, o8, o9, o10, o11] #[true, true, true, true, true, true, true, true, true, true, true, true] = [])
    (v0 v1 v2 v3 v4 v5 : Value) (A0 A1 A2 A3 A4 A5 : Act) (T : World → Prop)
    (I0 : World → Prop)
    (I1 : Value → World → Prop)
    (I2 : Value → Value → World → Prop)
    (I3 : Value → Value → Value → World → Prop)
    (I4 : Value → Value → Value → Value → World → Prop)
    (I5 : Value → Value → Value → Value → Value → World → Prop)
    (IE : Value → Value → Value → Value → Value → World → Prop)
    (p0 : a.put o0.dst v0 = A0) (hy0 : YieldsIf P #[o0, o1, o2, o3, o4, o5, o6, o7, o8, o9, o10, o11] T o0 v0 a)
    (p1 : A0.put o1.dst v1 = A1) (hy1 : YieldsIf P #[o0, o1, o2, o3, o4, o5, o6, o7, o8, o9, o10, o11] T o1 v1 A0)
    (p2 : A1.put o2.dst v2 = A2) (hy2 : YieldsIf P #[o0, o1, o2, o3, o4, o5, o6, o7, o8, o9, o10, o11] T o2 v2 A1)
    (p3 : A2.put o3.dst v3 = A3) (hy3 : YieldsIf P #[o0, o1, o2, o3, o4, o5, o6, o7, o8, o9, o10, o11] T o3 v3 A2)
    (p4 : A3.put o4.dst v4 = A4) (hy4 : YieldsIf P #[o0, o1, o2, o3, o4, o5, o6, o7, o8, o9, o10, o11] T o4 v4 A3)
    (p5 : A4.put o5.dst v5 = A5) (hy5 : YieldsIf P #[o0, o1, o2, o3, o4, o5, o6, o7, o8, o9, o10, o11] T o5 v5 A4)
    (i0 : I0 w.drew)
    (hIT : (∀ w', I0  w' → T w') ∧ (∀ (u0 : Value) w', I1 u0 w' → T w') ∧ (∀ (u0 u1 : Value) w', I2 u0 u1 w' → T w') ∧ (∀ (u0 u1 u2 : Value) w', I3 u0 u1 u2 w' → T w') ∧ (∀ (u0 u1 u2 u3 : Value) w', I4 u0 u1 u2 u3 w' → T w') ∧ (∀ (u0 u1 u2 u3 u4 : Value) w', I5 u0 u1 u2 u3 u4 w' → T w'))
    (s0 : ∀ w', I0  w' → ∀ K : Act → World → Prop, (∀ (u0 : Value) w2, I1 u0 w2 → K (A5.put o6.dst u0) w2) → o6.wp P A5 w' K (NoPanic Q))
    (s1 : ∀ (u0 : Value) w', I1 u0 w' → ∀ K : Act → World → Prop, (∀ (u1 : Value) w2, I2 u0 u1 w2 → K ((A5.put o6.dst u0).put o7.dst u1) w2) → o7.wp P (A5.put o6.dst u0) w' K (NoPanic Q))
    (s2 : ∀ (u0 u1 : Value) w', I2 u0 u1 w' → ∀ K : Act → World → Prop, (∀ (u2 : Value) w2, I3 u0 u1 u2 w2 → K (((A5.put o6.dst u0).put o7.dst u1).put o8.dst u2) w2) → o8.wp P ((A5.put o6.dst u0).put o7.dst u1) w' K (NoPanic Q))
    (s3 : ∀ (u0 u1 u2 : Value) w', I3 u0 u1 u2 w' → ∀ K : Act → World → Prop, (∀ (u3 : Value) w2, I4 u0 u1 u2 u3 w2 → K ((((A5.put o6.dst u0).put o7.dst u1).put o8.dst u2).put o9.dst u3) w2) → o9.wp P (((A5.put o6.dst u0).put o7.dst u1).put o8.dst u2) w' K (NoPanic Q))
    (s4 : ∀ (u0 u1 u2 u3 : Value) w', I4 u0 u1 u2 u3 w' → ∀ K : Act → World → Prop, (∀ (u4 : Value) w2, I5 u0 u1 u2 u3 u4 w2 → K (((((A5.put o6.dst u0).put o7.dst u1).put o8.dst u2).put o9.dst u3).put o10.dst u4) w2) → o10.wp P ((((A5.put o6.dst u0).put o7.dst u1).put o8.dst u2).put o9.dst u3) w' K (NoPanic Q))
    (se : ∀ (u0 u1 u2 u3 u4 : Value) w', I5 u0 u1 u2 u3 u4 w' → ∀ K : Act → World → Prop, (∀ w2, IE u0 u1 u2 u3 u4 w2 → K (((((A5.put o6.dst u0).put o7.dst u1).put o8.dst u2).put o9.dst u3).put o10.dst u4) w2) → o11.wp P (((((A5.put o6.dst u0).put o7.dst u1).put o8.dst u2).put o9.dst u3).put o10.dst u4) w' K (NoPanic Q))
    (h : ∀ (u0 u1 u2 u3 u4 : Value) w', IE u0 u1 u2 u3 u4 w' → Q .normal (((((A5.put o6.dst u0).put o7.dst u1).put o8.dst u2).put o9.dst u3).put o10.dst u4) w') :
    (Code.region id #[o0, o1, o2, o3, o4, o5, o6, o7, o8, o9, o10, o11] true).wp P Q a w := by
  subst p0 p1 p2 p3 p4 p5
  obtain ⟨z0, z1, z2, z3, z4, z5⟩ := hIT
  refine wp_region_noPanic ?_
  refine wp_region_any hm ?_
  refine AnyL.any (S := fun d w' => d.getD 11 true = false → T w') _ _ _ _ ?_
  show AnyL P .any #[o0, o1, o2, o3, o4, o5, o6, o7, o8, o9, o10, o11] (NoPanic Q) _ 12 #[false, false, false, false, false, false, false, false, false, false, false, false] a w.drew
  have hSi : ∀ i, i ≠ 11 → ∀ (d : Array Bool) (w' : World), ((d.setIfInBounds i true).getD 11 true = false → T w') ↔ (d.getD 11 true = false → T w') := by
    intro i h4 d w'
    rw [getD_set_ne true h4]
  refine AnyL.take (i := 0) (t := 11) (oi := o0) (ot := o11) (T := T) rfl rfl (by decide) hs f0 r0 e0 (fun _ _ _ h => h) (fun d w' h9 hd => h9 hd) (hSi 0 (by decide)) hy0 rfl (fun _ => z0 _ i0) ?_
  refine AnyL.take (i := 1) (t := 11) (oi := o1) (ot := o11) (T := T) rfl rfl (by decide) hs f1 r1 e1 (fun _ _ _ h => h) (fun d w' h9 hd => h9 hd) (hSi 1 (by decide)) hy1 rfl (fun _ => z0 _ i0) ?_
  refine AnyL.take (i := 2) (t := 11) (oi := o2) (ot := o11) (T := T) rfl rfl (by decide) hs f2 r2 e2 (fun _ _ _ h => h) (fun d w' h9 hd => h9 hd) (hSi 2 (by decide)) hy2 rfl (fun _ => z0 _ i0) ?_
  refine AnyL.take (i := 3) (t := 11) (oi := o3) (ot := o11) (T := T) rfl rfl (by decide) hs f3 r3 e3 (fun _ _ _ h => h) (fun d w' h9 hd => h9 hd) (hSi 3 (by decide)) hy3 rfl (fun _ => z0 _ i0) ?_
  refine AnyL.take (i := 4) (t := 11) (oi := o4) (ot := o11) (T := T) rfl rfl (by decide) hs f4 r4 e4 (fun _ _ _ h => h) (fun d w' h9 hd => h9 hd) (hSi 4 (by decide)) hy4 rfl (fun _ => z0 _ i0) ?_
  refine AnyL.take (i := 5) (t := 11) (oi := o5) (ot := o11) (T := T) rfl rfl (by decide) hs f5 r5 e5 (fun _ _ _ h => h) (fun d w' h9 hd => h9 hd) (hSi 5 (by decide)) hy5 rfl (fun _ => z0 _ i0) ?_
  refine AnyL.forced q6 rfl g6 (fun K hK => s0  w.drew i0 K (fun u0 w1 i1 => hK _ _ (fun _ => z1 u0 w1 i1) ?_))
  refine AnyL.forced q7 rfl g7 (fun K hK => s1 u0 w1 i1 K (fun u1 w2 i2 => hK _ _ (fun _ => z2 u0 u1 w2 i2) ?_))
  refine AnyL.forced q8 rfl g8 (fun K hK => s2 u0 u1 w2 i2 K (fun u2 w3 i3 => hK _ _ (fun _ => z3 u0 u1 u2 w3 i3) ?_))
  refine AnyL.forced q9 rfl g9 (fun K hK => s3 u0 u1 u2 w3 i3 K (fun u3 w4 i4 => hK _ _ (fun _ => z4 u0 u1 u2 u3 w4 i4) ?_))
  refine AnyL.forced q10 rfl g10 (fun K hK => s4 u0 u1 u2 u3 w4 i4 K (fun u4 w5 i5 => hK _ _ (fun _ => z5 u0 u1 u2 u3 u4 w5 i5) ?_))
  refine AnyL.forced q11 rfl g11 (fun K hK => se u0 u1 u2 u3 u4 w5 i5 K (fun we ie => hK _ _ (fun h9 => (by cases h9)) ?_))
  exact ⟨rr, NoPanic.normal (h u0 u1 u2 u3 u4 we ie)⟩

end
end Go.Proofs.Ytlopdlcepmmjdaa
namespace Go.Proofs.Ytlopdlcepmmjdaa
open Go.RowKit Go.BigFrame Go.Maps Go.Sort
set_option linter.unusedVariables false
set_option linter.unusedSimpArgs false
theorem dfC_set {t : DF × Value} {u : Value} {j : Nat} (hj : j < 4) : ∀ {ts : List (DF × Value)} {i : Nat} (hi : i < ts.length) (he : dfC t = (dfC ts[i]).set j u), (ts.flatMap dfC).set (i * 4 + j) u = (ts.set i t).flatMap dfC
  | a :: r, 0, hi, he => by
    simp only [List.getElem_cons_zero] at he
    rw [List.set_cons_zero, List.flatMap_cons, List.flatMap_cons, he, Nat.zero_mul, Nat.zero_add, List.set_append_left _ _ (by simp [dfC]; omega)]
  | a :: r, i + 1, hi, he => by
    have hi' : i < r.length := by simpa using hi
    have ih := dfC_set hj hi' (by simpa using he)
    rw [List.set_cons_succ, List.flatMap_cons, List.flatMap_cons, List.set_append_right _ _ (by simp [dfC]; omega), ← ih]
    congr 2
    simp [dfC]; omega
theorem OwnFl.row {B : Nat} {w : World} {g n cap : Nat} {ts : List (DF × Value)} (h : OwnFl B w (.slice (some ⟨g, 0, none⟩) n cap) ts) : ∃ cur, w.heap[g]? = some (.cells cur 54 (0, 0)) := by
  rcases h.own.2 with ⟨hv, _⟩ | ⟨g9, c9, cur9, hv, _, hg9, _⟩
  · cases hv
  · cases hv; exact ⟨_, hg9⟩
theorem OwnFl.five {B : Nat} {w : World} {v : Value} {ts : List (DF × Value)} (h : OwnFl B w v ts) {t : DF × Value} (ht : t ∈ ts) {x : Nat} (hx : x ∈ blk t.2) : ∃ cs, w.heap[x]? = some (.cells cs 5 (0, 0)) := owns_cells (h.el t ht).1 hx
theorem OwnFl.set {B : Nat} {w : World} {g cap : Nat} {ts : List (DF × Value)} (h : OwnFl B w (.slice (some ⟨g, 0, none⟩) ts.length cap) ts) {i : Nat} (hi : i < ts.length) {j : Nat} (hj : j < 4) {t : DF × Value} {u : Value} (he : dfC t = (dfC ts[i]).set j u)
    (hel : w.ownsRow B 5 1 t.2 t.1.bs.length (t.1.bs.map u8) ∧ (∀ x ∈ t.1.bs, x < 256) ∧ t.1.bs.length ≤ 140737488355328) (hap : ∀ k (hk : k < ts.length), k ≠ i → ∀ x ∈ blk ts[k].2, x ∉ blk t.2) :
    OwnFl B (w.setCell ⟨g, i * 4 + j, none⟩ u) (.slice (some ⟨g, 0, none⟩) ts.length cap) (ts.set i t) := by
  have kz := (Kept.refl [g] w).setCell (p := ⟨g, i * 4 + j, none⟩) (.inl (by simp)) u
  obtain ⟨cur, hrow⟩ := h.row
  have h5 : ∀ {v : Value} {n : Nat} {xs : List Value}, w.ownsRow B 5 1 v n xs → ∀ x, v.ownBlock = some x → x ∉ [g] := by
    intro v n xs ho x hx
    obtain ⟨cs, hc⟩ := owns_cells ho (own_blk hx)
    simp only [List.mem_singleton]
    exact cells_ne hc hrow (by decide)
  refine ⟨?_, ?_, ?_⟩
  · have h1 := (h.own.stored (i * 4 + j) u).1
    rw [dfC_set hj hi he] at h1
    rw [List.length_set]
    exact h1
  · intro a ha
    rcases List.mem_or_eq_of_mem_set ha with h1 | rfl
    · exact ⟨kz.owns (h.el a h1).1 (h5 (h.el a h1).1), (h.el a h1).2⟩
    · exact ⟨kz.owns hel.1 (h5 hel.1), hel.2⟩
  · rw [List.pairwise_iff_getElem]
    have hp := List.pairwise_iff_getElem.1 h.ap
    intro a b ha hb hab
    rw [List.length_set] at ha hb
    rw [List.getElem_set, List.getElem_set]
    split
    · rename_i h1
      subst h1
      rw [if_neg (by omega)]
      intro x hx hy
      exact hap b hb (by omega) x hy hx
    · rename_i h1
      split
      · rename_i h2
        subst h2
        exact hap a ha (by omega)
      · exact hp a b ha hb hab
theorem OwnFl.frz {B : Nat} {w : World} {g n cap : Nat} {ts : List (DF × Value)} (h : OwnFl B w (.slice (some ⟨g, 0, none⟩) n cap) ts) (k : Nat) : w.frozen? ⟨g, k, none⟩ = false := by
  obtain ⟨cur, hrow⟩ := h.row
  exact frozen_of_row _ _ k _ _ hrow
/-- The document's disk and its files lie apart. -/
theorem rk_ne {w : World} {c : Nat} {cs : Array Value} {fsv : Value} {ts : List (DF × Value)} (h1 : w.heap[c]? = some (.cells cs 88 (0, 0))) (h2 : OwnFl 0 w fsv ts) : ∀ x ∈ flB fsv ts, x ≠ c := by
  intro x hx
  simp only [flB, List.mem_append, List.mem_flatMap] at hx
  rcases hx with hx | ⟨t, ht, hx⟩
  · obtain ⟨cs9, hc⟩ := owns_cells h2.own hx
    exact cells_ne hc h1 (by decide)
  · obtain ⟨cs9, hc⟩ := h2.five ht hx
    exact cells_ne hc h1 (by decide)
/-- Cells of the document's disk turn. -/
theorem RK.turn {w w' : World} {c nb bb : Nat} {R : List Nat} {σ : DSt} (h : RK w c R nb bb σ) (k : Kept [c] w w') (cr op : Int) (off : Bool) (hop : 0 ≤ op ∧ op ≤ nb)
    (hr : ∀ fsv fav, w.heap[c]? = some (.cells #[.int .i64 (σ.sec : Int), fsv, fav, .int .i64 σ.cr, .int .i64 σ.op, .bool σ.off] 88 (0, 0)) → w'.heap[c]? = some (.cells #[.int .i64 (σ.sec : Int), fsv, fav, .int .i64 cr, .int .i64 op, .bool off] 88 (0, 0))) :
    RK w' c R nb bb ⟨σ.sec, cr, op, off, σ.ft, σ.A⟩ := by
  obtain ⟨fsv, ts, fav, fl, h1, h2, h3, h4, h5, h6, h7, h8, h9, rfl⟩ := h.ex
  refine ⟨⟨fsv, ts, fav, fl, hr _ _ h1, h2.keptF k (fun x hx => by simpa using rk_ne h1 h2 x hx), h3, h4.keptZ k (fun x hx e => by simp at e; subst e; exact h7 hx), h5, h6, h7, h8, fun x hx => Nat.lt_of_lt_of_le (h9 x hx) k.size, rfl⟩, hop, h.len, h.byt, h.secb, h.syl, h.dist⟩
theorem fndI_neg (A : List DF) (s : List UInt8) : (fndI A s < 0) = ((findA A s).isSome = false) := by
  rw [← fndA_isSome]
  unfold fndI
  cases fndA A s with
  | none => simp
  | some i => simp
theorem upA_set {A : List DF} (hd : Dist A) {s : ByteArray} {i : Nat} (h : fndA A s.data.toList = some i) (F : DF → DF) : ∃ hi : i < A.length, upA A s F = A.set i (F A[i]) ∧ A[i].nm = s := by
  obtain ⟨hi, h1, h2⟩ := fndA_get h
  have hnm : A[i].nm = s := ba_ext h1
  refine ⟨hi, ?_, hnm⟩
  unfold upA
  apply List.ext_getElem
  · simp
  · intro k hk hk2
    rw [List.getElem_map, List.getElem_set]
    by_cases e : i = k
    · subst e
      rw [if_pos hnm, if_pos rfl]
    · rw [if_neg e, if_neg]
      intro e2
      have hp := List.pairwise_iff_getElem.1 hd
      simp at hk
      rcases Nat.lt_or_gt_of_ne e with h9 | h9
      · exact hp i k hi hk h9 (by rw [hnm, e2])
      · exact hp k i hk hi h9 (by rw [hnm, e2])

set_option maxRecDepth 100000 in
set_option maxHeartbeats 1000000 in
theorem rown1_any (c nb bb : Nat) (R : List Nat) (σ : DSt) (s : ByteArray) (w : World) (h : RK w c R nb bb σ) (hs : s.size ≤ 140737488355328) (hn : nb ≤ 1000000000) :
    Calls Try.prog 80 #[.pointer (some ⟨c, 0, none⟩), .int .i64 1, .string s] w fun e w' => e = .returned (.int .i64 (ownA σ.A s : Nat)) ∧ w' = w := by
  have HN := hide (named_any s w hs)
  have HF := hide (rfind_any c nb bb R σ s w h hn)
  have HI := hide (fndI_neg σ.A s.data.toList)
  clear h
  obtain ⟨E, hE⟩ : ∃ E, ownA σ.A s = E := ⟨_, rfl⟩
  rw [hE]
  unfold ownA at hE
  have HE := hide hE
  clear hE
  cases hN : isNm s
  · rw [hN] at HN HE
    clear hN
    go_enter Try.func80, Try.ntmps80
    go_wp2_with fail
    refine Calls.mono (unhide HN) ?_
    rintro e w1 ⟨rfl, hw1⟩
    rw [hw1]
    clear hw1 w1
    go_wp2_with fail
    go_ret
    exact ⟨by rw [← unhide HE]; rfl, rfl⟩
  · rw [hN] at HN HE
    clear hN
    go_enter Try.func80, Try.ntmps80
    go_wp2_with fail
    refine Calls.mono (unhide HN) ?_
    rintro e w1 ⟨rfl, hw1⟩
    rw [hw1]
    clear hw1 w1
    go_wp2_with fail
    refine Calls.mono (unhide HF) ?_
    rintro e w1 ⟨rfl, hw1⟩
    rw [hw1]
    clear hw1 w1
    cases hq : (findA σ.A s.data.toList).isSome
    · have h9 : fndI σ.A s.data.toList < 0 := by rw [unhide HI]; exact hq
      generalize fndI σ.A s.data.toList = I at h9
      have h8 : ¬ 0 ≤ I := by omega
      rw [hq] at HE
      clear hq HI
      go_wp2_with fail
      go_ret
      exact ⟨by rw [← unhide HE]; rfl, rfl⟩
    · have h9 : ¬ fndI σ.A s.data.toList < 0 := by rw [unhide HI]; simp [hq]
      generalize fndI σ.A s.data.toList = I at h9
      have h8 : 0 ≤ I := by omega
      rw [hq] at HE
      clear hq HI
      go_wp2_with fail
      go_ret
      exact ⟨by rw [← unhide HE]; rfl, rfl⟩

set_option maxRecDepth 100000 in
set_option maxHeartbeats 1000000 in
theorem rown2_any (kd : Nat) (hkd : kd = 2 ∨ kd = 3) (c nb bb : Nat) (R : List Nat) (σ : DSt) (s : ByteArray) (w : World) (h : RK w c R nb bb σ) (hn : nb ≤ 1000000000) :
    Calls Try.prog 80 #[.pointer (some ⟨c, 0, none⟩), .int .i64 kd, .string s] w fun e w' => e = .returned (.int .i64 ((if (findA σ.A s.data.toList).isSome then 0 else 5 : Nat) : Nat)) ∧ w' = w := by
  have HF := hide (rfind_any c nb bb R σ s w h hn)
  have HI := hide (fndI_neg σ.A s.data.toList)
  clear h
  obtain ⟨E, hE⟩ : ∃ E, (if (findA σ.A s.data.toList).isSome then 0 else 5 : Nat) = E := ⟨_, rfl⟩
  rw [hE]
  have HE := hide hE
  clear hE
  rcases hkd with rfl | rfl
  all_goals
    go_enter Try.func80, Try.ntmps80
    go_wp2_with fail
    refine Calls.mono (unhide HF) ?_
    rintro e w1 ⟨rfl, hw1⟩
    rw [hw1]
    clear hw1 w1
    cases hq : (findA σ.A s.data.toList).isSome
    · have h9 : fndI σ.A s.data.toList < 0 := by rw [unhide HI]; exact hq
      generalize fndI σ.A s.data.toList = I at h9
      rw [hq] at HE
      clear hq HI
      go_wp2_with fail
      go_ret
      exact ⟨by rw [← unhide HE]; rfl, rfl⟩
    · have h9 : ¬ fndI σ.A s.data.toList < 0 := by rw [unhide HI]; simp [hq]
      generalize fndI σ.A s.data.toList = I at h9
      rw [hq] at HE
      clear hq HI
      go_wp2_with fail
      go_ret
      exact ⟨by rw [← unhide HE]; rfl, rfl⟩

set_option maxRecDepth 100000 in
set_option maxHeartbeats 1000000 in
theorem rown4_any (c : Nat) (s : ByteArray) (w : World) :
    Calls Try.prog 80 #[.pointer (some ⟨c, 0, none⟩), .int .i64 4, .string s] w fun e w' => e = .returned (.int .i64 0) ∧ w' = w := by
  go_enter Try.func80, Try.ntmps80
  go_wp2_with fail
  go_ret
  exact ⟨rfl, rfl⟩
end Go.Proofs.Ytlopdlcepmmjdaa
namespace Go.Proofs.Ytlopdlcepmmjdaa
open Go.RowKit Go.BigFrame Go.Maps Go.Sort
set_option linter.unusedVariables false
set_option linter.unusedSimpArgs false
theorem wpList_pushFl {ops : Array Oper} {rest : List Oper} {o : Oper} {a : Act} {Q : Exit → Act → World → Prop} (hgd : o.guard = none) (s x : Operand)
    (ho : o.op = .call { callee := .builtin .append, args := #[s, x], argTypes := #[22, 22] }) (hty : o.type = 22)
    (w : World) (B : Nat) (v : Value) (ts : List (DF × Value)) (t : DF × Value) (H : Nat) (h : OwnFl B w v ts) (hnew : w.heap[H]? = some (.cells (dfC t).toArray 54 (0, 0))) (ho2 : w.ownsRow B 5 1 t.2 t.1.bs.length (t.1.bs.map u8) ∧ (∀ x ∈ t.1.bs, x < 256) ∧ t.1.bs.length ≤ 140737488355328)
    (ha : ∀ a ∈ ts, ∀ x ∈ blk a.2, x ∉ blk t.2) (hl : ts.length + 1 ≤ 1000000000) (hb : B ≤ w.heap.size) (hs : a.eval s = v) (hx : a.eval x = .slice (some ⟨H, 0, none⟩) 1 1)
    (hK : ∀ g cap w1, Hid (OwnFl B w1 (.slice (some ⟨g, 0, none⟩) (ts.length + 1) cap) (ts ++ [t])) → Hid (w.grownBy w1 v.ownBlock) → Hid (v.ownBlock = some g ∨ g = w.heap.size) →
      wpList Try.prog ops Q rest (a.put o.dst (.slice (some ⟨g, 0, none⟩) (ts.length + 1) cap)) w1) :
    wpList Try.prog ops Q (o :: rest) a w := by
  obtain ⟨g, cap, w1, hrun, h2, h3, h4⟩ := pushFl w B v ts t H h hnew ho2 ha hl hb
  refine wpList_plain hgd fun K hK' => ?_
  unfold Oper.wp execOp
  simp only [ho, hty, resolve, invoke, builtin, Sem.run_bind, Sem.run_pure, Result.andThen_ok, List.map_toArray, List.map_cons, List.map_nil, hs, hx, hrun]
  exact hK' _ _ (hK g cap w1 h2 h3 h4)
/-- The cells of the document's disk. -/
def rkC (σ : DSt) (fsv fav : Value) : Array Value := #[.int .i64 (σ.sec : Int), fsv, fav, .int .i64 σ.cr, .int .i64 σ.op, .bool σ.off]
/-- The parts of the document's disk. -/
structure RP (w : World) (c : Nat) (σ : DSt) (fsv : Value) (ts : List (DF × Value)) (fav : Value) (fl : List (Int × Int)) (nb : Nat) : Prop where
  row : w.heap[c]? = some (.cells (rkC σ fsv fav) 88 (0, 0))
  own : OwnFl 0 w fsv ts
  fst : ts.map Prod.fst = σ.A
  rd : RdC 2 w fav (fl.map faC)
  fll : fl.length ≤ nb
  ft : fstF fl = σ.ft
  ca : c ∉ zblk fav (fl.map faC)
  fa : ∀ x ∈ blk fsv, x ∉ zblk fav (fl.map faC)
  lt : ∀ x ∈ zblk fav (fl.map faC), x < w.heap.size
def rkB (c : Nat) (fsv : Value) (ts : List (DF × Value)) (fav : Value) (fl : List (Int × Int)) : List Nat := c :: (flB fsv ts ++ zblk fav (fl.map faC))
theorem RK.parts {w : World} {c nb bb : Nat} {R : List Nat} {σ : DSt} (h : RK w c R nb bb σ) : ∃ fsv ts fav fl, RP w c σ fsv ts fav fl nb ∧ R = rkB c fsv ts fav fl := by
  obtain ⟨fsv, ts, fav, fl, h1, h2, h3, h4, h5, h6, h7, h8, h9, h10⟩ := h.ex
  exact ⟨fsv, ts, fav, fl, ⟨h1, h2, h3, h4, h5, h6, h7, h8, h9⟩, h10⟩
theorem RP.rk {w : World} {c nb bb : Nat} {σ : DSt} {fsv : Value} {ts : List (DF × Value)} {fav : Value} {fl : List (Int × Int)} (h : RP w c σ fsv ts fav fl nb) (opb : 0 ≤ σ.op ∧ σ.op ≤ nb) (len : σ.A.length ≤ nb) (byt : ∀ f ∈ σ.A, f.bs.length ≤ bb) (secb : 1 ≤ σ.sec ∧ σ.sec ≤ 4096) (syl : ∀ f ∈ σ.A, f.sy ≤ f.bs.length) (dist : Dist σ.A) : RK w c (rkB c fsv ts fav fl) nb bb σ :=
  ⟨⟨fsv, ts, fav, fl, h.row, h.own, h.fst, h.rd, h.fll, h.ft, h.ca, h.fa, h.lt, rfl⟩, opb, len, byt, secb, syl, dist⟩
theorem RP.old {w w' : World} {c nb : Nat} {σ : DSt} {fsv : Value} {ts : List (DF × Value)} {fav : Value} {fl : List (Int × Int)} (h : RP w c σ fsv ts fav fl nb) (k : Kept [] w w') : RP w' c σ fsv ts fav fl nb :=
  ⟨k.heap h.row (by simp), h.own.keptF k (by simp), h.fst, h.rd.keptZ k (by simp), h.fll, h.ft, h.ca, h.fa, fun x hx => Nat.lt_of_lt_of_le (h.lt x hx) k.size⟩
theorem RP.len {w : World} {c nb : Nat} {σ : DSt} {fsv : Value} {ts : List (DF × Value)} {fav : Value} {fl : List (Int × Int)} (h : RP w c σ fsv ts fav fl nb) : ts.length = σ.A.length := by
  have := congrArg List.length h.fst; simpa using this
/-- What an append of a file leaves, ahead of the store. -/
theorem RP.row_push {w W w5 : World} {c nb : Nat} {σ : DSt} {fsv : Value} {ts : List (DF × Value)} {fav : Value} {fl : List (Int × Int)} (h : RP w c σ fsv ts fav fl nb) (k : Kept [] w W) (hg : W.grownBy w5 fsv.ownBlock) : w5.heap[c]? = some (.cells (rkC σ fsv fav) 88 (0, 0)) := by
  have k5 : Kept fsv.ownBlock.toList W w5 := (Kept.refl _ W).grown hg (by intro x hx; left; simp [hx])
  refine k5.heap (k.heap h.row (by simp)) ?_
  intro hm
  simp only [Option.mem_toList] at hm
  exact rk_ne h.row h.own c (by simp only [flB, List.mem_append]; exact .inl (own_blk hm)) rfl
/-- One file more, stored. -/
theorem RP.push {w W w5 : World} {c nb : Nat} {σ : DSt} {fsv : Value} {ts : List (DF × Value)} {fav : Value} {fl : List (Int × Int)} (h : RP w c σ fsv ts fav fl nb) (k : Kept [] w W) {g cap : Nat} {t : DF × Value} (ho : OwnFl 0 w5 (.slice (some ⟨g, 0, none⟩) (ts.length + 1) cap) (ts ++ [t])) (hg : W.grownBy w5 fsv.ownBlock) (hat : fsv.ownBlock = some g ∨ g = W.heap.size) (hnew : ∀ x ∈ blk t.2, w.heap.size ≤ x) :
    RP (w5.setCell ⟨c, 1, none⟩ (.slice (some ⟨g, 0, none⟩) (ts.length + 1) cap)) c ⟨σ.sec, σ.cr, σ.op, σ.off, σ.ft, σ.A ++ [t.1]⟩ (.slice (some ⟨g, 0, none⟩) (ts.length + 1) cap) (ts ++ [t]) fav fl nb ∧
      Ev w (w5.setCell ⟨c, 1, none⟩ (.slice (some ⟨g, 0, none⟩) (ts.length + 1) cap)) (rkB c fsv ts fav fl) (rkB c (.slice (some ⟨g, 0, none⟩) (ts.length + 1) cap) (ts ++ [t]) fav fl) := by
  have hrow := h.row_push k hg
  have k5 : Kept fsv.ownBlock.toList w w5 := (k.mono (by simp)).grown hg (by intro x hx; left; simp [hx])
  have kz := (Kept.refl [c] w5).setCell (p := ⟨c, 1, none⟩) (.inl (by simp)) (.slice (some ⟨g, 0, none⟩) (ts.length + 1) cap)
  have hne := rk_ne hrow ho
  refine ⟨⟨?_, ho.keptF kz (fun x hx => by simpa using hne x hx), by rw [List.map_append, h.fst]; rfl, ?_, h.fll, h.ft, h.ca, ?_, fun x hx => Nat.lt_of_lt_of_le (h.lt x hx) (Nat.le_trans k5.size kz.size)⟩, ?_, ?_⟩
  · rw [heap_setCell_same _ _ 1 _ _ _ hrow]; rfl
  · refine (h.rd.keptZ k5 (fun x hx hm => ?_)).keptZ kz (fun x hx hm => ?_)
    · simp only [Option.mem_toList] at hm
      exact h.fa x (own_blk hm) hx
    · simp at hm; subst hm; exact h.ca hx
  · intro x hx hm
    simp only [blk, List.mem_singleton] at hx
    subst hx
    rcases hat with h1 | h1
    · exact h.fa _ (own_blk h1) hm
    · have := h.lt _ hm; have := k.size; omega
  · refine (k5.mono ?_).setCell (.inl (by simp [rkB])) _
    intro x hx
    simp only [Option.mem_toList] at hx
    simp only [rkB, flB, List.mem_cons, List.mem_append]
    exact .inr (.inl (.inl (own_blk hx)))
  · intro x hx
    simp only [rkB, flB, List.mem_cons, List.mem_append, List.mem_flatMap, List.mem_singleton, List.not_mem_nil, or_false] at hx ⊢
    rcases hx with rfl | (hx | ⟨a, ha, hx⟩) | hx
    · exact .inl (.inl rfl)
    · simp only [blk, List.mem_singleton] at hx
      subst hx
      rcases hat with h1 | h1
      · exact .inl (.inr (.inl (.inl (own_blk h1))))
      · right; have := k.size; omega
    · rcases ha with ha | rfl
      · exact .inl (.inr (.inl (.inr ⟨a, ha, hx⟩)))
      · exact .inr (hnew x hx)
    · exact .inl (.inr (.inr hx))

set_option maxRecDepth 100000 in
set_option maxHeartbeats 1000000 in
theorem carry1_any (c nb bb : Nat) (R : List Nat) (σ : DSt) (s : ByteArray) (pv : Value) (w : World) (h : RK w c R nb bb σ) (hn : nb ≤ 900000000) (hnew : ∀ f ∈ σ.A, f.nm ≠ s) :
    Calls Try.prog 81 #[.pointer (some ⟨c, 0, none⟩), .int .i64 1, .string s, pv] w fun e w' => e = .returned (.tuple #[]) ∧ ∃ R', RK w' c R' (nb + 1) bb ⟨σ.sec, σ.cr, σ.op, σ.off, σ.ft, σ.A ++ [⟨s, [], 0, false⟩]⟩ ∧ Ev w w' R R' := by
  obtain ⟨fsv, ts, fav, fl, hp, rfl⟩ := h.parts
  obtain ⟨a3, c3, hv3, hg3⟩ := hp.own.shapeL
  subst hv3
  have hl := hp.len
  have hll := h.len
  have q1 := cell_of_row _ _ 1 _ _ _ hp.row
  simp [rkC] at q1
  have HP := hide hp
  have H := hide h
  have HNW := hide hnew
  have HO := hide (hp.own.keptF ((Kept.refl [] w).alloc (.cells #[.string s, .slice none 0 0, .int .i64 0, .bool false] 54 (0, 0))) (by simp))
  have HG := hide (heap_alloc_new w (.cells #[.string s, .slice none 0 0, .int .i64 0, .bool false] 54 (0, 0)))
  have HL := hide (by omega : ts.length + 1 ≤ 1000000000)
  clear hp h hnew hl hll hg3
  go_enter Try.func81, Try.ntmps81
  go_wp2_with (at_builtin; refine wpList_pushFl rfl (.tmp 18) (.tmp 21) rfl rfl _ 0 (.slice a3 ts.length c3) ts (⟨s, [], 0, false⟩, .slice none 0 0) w.heap.size (unhide HO) (unhide HG) ⟨World.ownsRow_nil _ _ _ _, by simp, by simp⟩ (by simp [blk]) (unhide HL) (Nat.zero_le _) rfl rfl ?_; intro g5 cap5 w5 HO5 HGR5 HA5; have HROW := hide ((unhide HP).row_push ((Kept.refl [] w).alloc _) (unhide HGR5)); have r1 := cell_of_row _ _ 1 _ _ _ (unhide HROW); simp [rkC] at r1; have z1 := frozen_of_row _ _ 1 _ _ (unhide HROW))
  have hfin := (unhide HP).push ((Kept.refl [] w).alloc _) (unhide HO5) (unhide HGR5) (unhide HA5) (by simp [blk])
  refine bodyPost_end (v := .tuple #[]) (results_none rfl _ _ _) rfl ⟨rfl, _, ?_, hfin.2⟩
  have h9 := unhide H
  refine RP.rk ⟨hfin.1.row, hfin.1.own, hfin.1.fst, hfin.1.rd, by have := hfin.1.fll; omega, hfin.1.ft, hfin.1.ca, hfin.1.fa, hfin.1.lt⟩ ⟨h9.opb.1, by have := h9.opb.2; show σ.op ≤ _; omega⟩ (by have := h9.len; simp; omega) ?_ h9.secb ?_ ?_
  · intro f hf
    simp only [List.mem_append, List.mem_singleton] at hf
    rcases hf with hf | rfl
    · exact h9.byt f hf
    · simp
  · intro f hf
    simp only [List.mem_append, List.mem_singleton] at hf
    rcases hf with hf | rfl
    · exact h9.syl f hf
    · simp
  · unfold Dist
    rw [List.pairwise_append]
    exact ⟨h9.dist, List.pairwise_singleton _ _, by intro a ha b hb; simp only [List.mem_singleton] at hb; subst hb; exact unhide HNW a ha⟩
end Go.Proofs.Ytlopdlcepmmjdaa
namespace Go.Proofs.Ytlopdlcepmmjdaa
open Go.RowKit Go.BigFrame Go.Maps Go.Sort
set_option linter.unusedVariables false
set_option linter.unusedSimpArgs false
/-- One cell of a file of the document's disk turns. -/
theorem RP.setf {w W : World} {c nb : Nat} {σ : DSt} {g cap : Nat} {ts : List (DF × Value)} {fav : Value} {fl : List (Int × Int)} (h : RP w c σ (.slice (some ⟨g, 0, none⟩) ts.length cap) ts fav fl nb) (k : Kept [] w W) {i : Nat} (hi : i < ts.length) {j : Nat} (hj : j < 4) {t : DF × Value} {u : Value} (he : dfC t = (dfC ts[i]).set j u)
    (hel : W.ownsRow 0 5 1 t.2 t.1.bs.length (t.1.bs.map u8) ∧ (∀ x ∈ t.1.bs, x < 256) ∧ t.1.bs.length ≤ 140737488355328) (hnew : ∀ x ∈ blk t.2, x ∈ blk ts[i].2 ∨ w.heap.size ≤ x) :
    RP (W.setCell ⟨g, i * 4 + j, none⟩ u) c ⟨σ.sec, σ.cr, σ.op, σ.off, σ.ft, σ.A.set i t.1⟩ (.slice (some ⟨g, 0, none⟩) ts.length cap) (ts.set i t) fav fl nb ∧
      Ev w (W.setCell ⟨g, i * 4 + j, none⟩ u) (rkB c (.slice (some ⟨g, 0, none⟩) ts.length cap) ts fav fl) (rkB c (.slice (some ⟨g, 0, none⟩) ts.length cap) (ts.set i t) fav fl) := by
  have hW := h.old k
  have hgb : g ∈ blk (.slice (some ⟨g, 0, none⟩) ts.length cap) := by simp [blk]
  have hcg : c ≠ g := fun e => rk_ne h.row h.own g (by simp only [flB, List.mem_append]; exact .inl hgb) e.symm
  have kz := (Kept.refl [g] W).setCell (p := ⟨g, i * 4 + j, none⟩) (.inl (by simp)) u
  have hp := List.pairwise_iff_getElem.1 h.own.ap
  have hap : ∀ k (hk : k < ts.length), k ≠ i → ∀ x ∈ blk ts[k].2, x ∉ blk t.2 := by
    intro k hk hne x hx hy
    rcases hnew x hy with h1 | h1
    · rcases Nat.lt_or_gt_of_ne hne with h2 | h2
      · exact hp k i hk hi h2 x hx h1
      · exact hp i k hi hk h2 x h1 hx
    · have := (h.own.ge x (by simp only [flB, List.mem_append, List.mem_flatMap]; exact .inr ⟨ts[k], List.getElem_mem hk, hx⟩)).2
      omega
  refine ⟨⟨kz.heap hW.row (by simpa using hcg), hW.own.set hi hj he hel hap, by rw [List.map_set, h.fst], ?_, h.fll, h.ft, h.ca, h.fa, fun x hx => Nat.lt_of_lt_of_le (hW.lt x hx) kz.size⟩, ?_, ?_⟩
  · exact hW.rd.keptZ kz (fun x hx hm => by simp at hm; subst hm; exact h.fa _ hgb hx)
  · refine (k.mono (by simp)).setCell (.inl ?_) _
    simp [rkB, flB, blk]
  · intro x hx
    simp only [rkB, flB, List.mem_cons, List.mem_append, List.mem_flatMap] at hx ⊢
    rcases hx with rfl | (hx | ⟨a, ha, hx⟩) | hx
    · exact .inl (.inl rfl)
    · exact .inl (.inr (.inl (.inl hx)))
    · rcases List.mem_or_eq_of_mem_set ha with h1 | rfl
      · exact .inl (.inr (.inl (.inr ⟨a, h1, hx⟩)))
      · rcases hnew x hx with h2 | h2
        · exact .inl (.inr (.inl (.inr ⟨ts[i], List.getElem_mem hi, h2⟩)))
        · exact .inr h2
    · exact .inl (.inr (.inr hx))

set_option maxRecDepth 100000 in
set_option maxHeartbeats 2000000 in
theorem carry2_any (c nb bb : Nat) (R : List Nat) (σ : DSt) (s : ByteArray) (pv : Value) (ps : List Nat) (i : Nat) (w : World) (h : RK w c R nb bb σ) (hn : nb ≤ 1000000000) (hf : fndA σ.A s.data.toList = some i) (hpr : Rd w pv ps) (hb : bb + ps.length ≤ 140737488350000) :
    Calls Try.prog 81 #[.pointer (some ⟨c, 0, none⟩), .int .i64 2, .string s, pv] w fun e w' => e = .returned (.tuple #[]) ∧ ∃ R', RK w' c R' nb (bb + ps.length) ⟨σ.sec, σ.cr, σ.op, σ.off, σ.ft, upA σ.A s fun f => { f with bs := f.bs ++ ps }⟩ ∧ Ev w w' R R' := by
  obtain ⟨pa, pl, pc, hpv⟩ : ∃ a l c, pv = .slice a l c := by obtain ⟨a, l, c, h1, _⟩ := hpr; exact ⟨a, l, c, h1⟩
  subst hpv
  obtain ⟨fsv, ts, fav, fl, hp, rfl⟩ := h.parts
  obtain ⟨a3, c3, hv3, hg3⟩ := hp.own.shapeL
  subst hv3
  have hl := hp.len
  have hll := h.len
  obtain ⟨hi, hup, hnm⟩ := upA_set h.dist hf (fun f => { f with bs := f.bs ++ ps })
  have hit : i < ts.length := by omega
  obtain ⟨g, rfl⟩ := hg3 (by omega)
  have q1 := cell_of_row _ _ 1 _ _ _ hp.row
  simp [rkC] at q1
  obtain ⟨p0, p1, p2, p3⟩ := rdFl_at hp.own.rd hit
  have hx := fst_at hp.fst hit hi
  have hrd := hp.own.rd.2 ts[i] (List.getElem_mem hit)
  obtain ⟨xa, xl, xc, hxv, hxl, _⟩ := id hrd
  have hfi : fndI σ.A s.data.toList = (i : Int) := by unfold fndI; rw [hf]
  have HFI := hide (fun W (k : Kept [] w W) => by have h9 := rfind_any c nb bb _ σ s W (h.old k) hn; rw [hfi] at h9; exact h9)
  rw [hxv] at p1
  have z1 := hp.own.frz (i * 4 + 1)
  have HZ := hide (fun (W : World) (k : Kept [] w W) => (hp.old k).own.frz (i * 4 + 1))
  have HP := hide hp
  have H := hide h
  have hib : (i : Int) < ts.length := by omega
  have HUP := hide hup
  have HX := hide hx
  have HXV := hide hxv
  have HRD := hide hrd
  have HXL := hide hxl
  have HPR := hide hpr
  have HBL := hide (by rw [hx]; exact h.byt _ (List.getElem_mem hi) : ts[i].1.bs.length ≤ bb)
  clear hp h hl hll hg3 hf hup hnm hx hfi hrd hxl hxv z1 p0 p2 p3 hpr
  go_enter Try.func81, Try.ntmps81
  go_wp2_with fail
  refine Calls.mono (unhide HFI _ (Kept.refl _ _)) ?_
  rintro e w1 ⟨rfl, hw1⟩
  rw [hw1]
  clear hw1 w1
  go_upto_region 5 with fail
  refine wp_rc18 (by kernel_rfl) (by kernel_rfl) (by kernel_rfl) (by kernel_rfl) (by kernel_rfl) (by kernel_rfl) (by kernel_rfl) (by kernel_rfl) (by kernel_rfl) (by kernel_rfl) (by kernel_rfl) (by kernel_rfl) (by kernel_rfl) (by kernel_rfl) (by kernel_rfl) (by kernel_rfl) (by kernel_rfl) (by kernel_rfl) (by kernel_rfl) (by kernel_rfl) (by kernel_rfl) (by kernel_rfl) (by kernel_rfl) (by kernel_rfl) (by kernel_rfl) (by kernel_rfl) (by kernel_rfl) (by kernel_rfl) (by kernel_rfl) (by kernel_rfl) (by kernel_rfl) (by kernel_rfl) (by kernel_rfl) (by kernel_rfl) (by kernel_rfl) (by kernel_rfl) (by kernel_rfl) (by kernel_rfl) (by kernel_rfl) (by kernel_rfl) (by kernel_rfl) (by kernel_rfl) (by kernel_rfl) (by kernel_rfl) (by kernel_rfl) rfl (by kernel_rfl) rfl (by kernel_rfl) rfl (by kernel_rfl) rfl (by kernel_rfl)
    (.pointer (some ⟨c, 0, none⟩)) (.pointer (some ⟨c, 0, none⟩)) (.pointer (some ⟨c, 1, none⟩)) (.slice (some ⟨g, 0, none⟩) ts.length c3) (.int .i64 (i : Int)) (.pointer (some ⟨c, 0, none⟩)) (.pointer (some ⟨c, 0, none⟩)) (.pointer (some ⟨c, 1, none⟩)) (.slice (some ⟨g, 0, none⟩) ts.length c3) (.int .i64 (i : Int)) (.pointer (some ⟨g, i * 4, none⟩)) (.pointer (some ⟨g, i * 4 + 1, none⟩)) (.slice xa xl xc) (.slice pa pl pc) _ _ _ _ _ _ _ _ _ _ _ _ _ _
    (fun w' => Kept [] w w')
    (fun w' => Kept [] w w')
    (fun u0 w' => (w'.ownsRow w.heap.size 5 1 u0 (ts[i].1.bs ++ ps).length ((ts[i].1.bs ++ ps).map u8) ∧ ∃ aa nn cc, u0 = .slice aa nn cc) ∧ Kept [] w w')
    (fun u0 u1 w' => u1 = .pointer (some ⟨g, i * 4, none⟩) ∧ (w'.ownsRow w.heap.size 5 1 u0 (ts[i].1.bs ++ ps).length ((ts[i].1.bs ++ ps).map u8) ∧ ∃ aa nn cc, u0 = .slice aa nn cc) ∧ Kept [] w w')
    (fun u0 u1 u2 w' => u2 = .pointer (some ⟨g, i * 4 + 1, none⟩) ∧ (w'.ownsRow w.heap.size 5 1 u0 (ts[i].1.bs ++ ps).length ((ts[i].1.bs ++ ps).map u8) ∧ ∃ aa nn cc, u0 = .slice aa nn cc) ∧ Kept [] w w')
    (fun u0 u1 u2 w' => ∃ R', RK w' c R' nb (bb + ps.length) ⟨σ.sec, σ.cr, σ.op, σ.off, σ.ft, upA σ.A s fun f => { f with bs := f.bs ++ ps }⟩ ∧ Ev w w' (rkB c (.slice (some ⟨g, 0, none⟩) ts.length c3) ts fav fl) R')
    (by simp only [Act.put, List.setIfInBounds_toArray, List.set_cons_zero, List.set_cons_succ]; rfl) (by exact Or.inl ⟨by rfl, fun W' hW' => by  go_simp⟩)
    (by simp only [Act.put, List.setIfInBounds_toArray, List.set_cons_zero, List.set_cons_succ]; rfl) (by exact Or.inl ⟨by rfl, fun W' hW' => by  go_simp⟩)
    (by simp only [Act.put, List.setIfInBounds_toArray, List.set_cons_zero, List.set_cons_succ]; rfl) (by exact Or.inl ⟨by rfl, fun W' hW' => by  go_simp⟩)
    (by simp only [Act.put, List.setIfInBounds_toArray, List.set_cons_zero, List.set_cons_succ]; rfl) (by exact Or.inl ⟨by rfl, fun W' hW' => by have h90 := hW'.cell q1 (by simp); go_simp⟩)
    (by simp only [Act.put, List.setIfInBounds_toArray, List.set_cons_zero, List.set_cons_succ]; rfl) (by exact Or.inl ⟨by rfl, fun W' hW' => by  go_simp⟩)
    (by simp only [Act.put, List.setIfInBounds_toArray, List.set_cons_zero, List.set_cons_succ]; rfl) (by exact Or.inl ⟨by rfl, fun W' hW' => by  go_simp⟩)
    (by simp only [Act.put, List.setIfInBounds_toArray, List.set_cons_zero, List.set_cons_succ]; rfl) (by exact Or.inl ⟨by rfl, fun W' hW' => by  go_simp⟩)
    (by simp only [Act.put, List.setIfInBounds_toArray, List.set_cons_zero, List.set_cons_succ]; rfl) (by exact Or.inl ⟨by rfl, fun W' hW' => by  go_simp⟩)
    (by simp only [Act.put, List.setIfInBounds_toArray, List.set_cons_zero, List.set_cons_succ]; rfl) (by exact Or.inl ⟨by rfl, fun W' hW' => by have h90 := hW'.cell q1 (by simp); go_simp⟩)
    (by simp only [Act.put, List.setIfInBounds_toArray, List.set_cons_zero, List.set_cons_succ]; rfl) (by exact Or.inl ⟨by rfl, fun W' hW' => by  go_simp⟩)
    (by simp only [Act.put, List.setIfInBounds_toArray, List.set_cons_zero, List.set_cons_succ]; rfl) (by exact Or.inl ⟨by rfl, fun W' hW' => by  go_simp⟩)
    (by simp only [Act.put, List.setIfInBounds_toArray, List.set_cons_zero, List.set_cons_succ]; rfl) (by exact Or.inl ⟨by rfl, fun W' hW' => by  go_simp⟩)
    (by simp only [Act.put, List.setIfInBounds_toArray, List.set_cons_zero, List.set_cons_succ]; rfl) (by exact Or.inl ⟨by rfl, fun W' hW' => by have h90 := hW'.cell p1 (by simp); go_simp⟩)
    (by simp only [Act.put, List.setIfInBounds_toArray, List.set_cons_zero, List.set_cons_succ]; rfl) (by exact Or.inl ⟨by rfl, fun W' hW' => by  go_simp⟩)
    (Kept.refl [] w).drew
    ⟨fun w' h => h, fun u0 w' h => h.2, fun u0 u1 w' h => h.2.2, fun u0 u1 u2 w' h => h.2.2⟩
    (by
      intro w' k K hK
      refine wp_callN rfl Try.call86 [.slice xa xl xc, .slice pa pl pc] rfl (joinO_any (.slice xa xl xc) (.slice pa pl pc) ts[i].1.bs ps w' (by have h9 := (unhide HRD).kept k (by simp); rw [unhide HXV] at h9; exact h9) ((unhide HPR).kept k (by simp)) (by have := unhide HBL; omega)) ?_
      rintro e w2 ⟨lv, rfl, ho, k2⟩
      obtain ⟨a9, c9, h9⟩ := owns_shape ho
      exact ⟨_, rfl, hK _ _ ⟨⟨ownsB k.size ho, a9, _, c9, h9⟩, k.trans k2 (by simp)⟩⟩)
    (by rintro u0 w' ⟨⟨ho, aa, nn, cc, rfl⟩, k⟩ K hK; unfold Oper.wp execOp; go_simp; exact hK _ _ ⟨rfl, ⟨ho, _, _, _, rfl⟩, k⟩)
    (by rintro u0 u1 w' ⟨rfl, ⟨ho, aa, nn, cc, rfl⟩, k⟩ K hK; unfold Oper.wp execOp; go_simp; exact hK _ _ ⟨rfl, ⟨ho, _, _, _, rfl⟩, k⟩)
    (by
      rintro u0 u1 u2 w' ⟨rfl, ⟨ho, aa, nn, cc, rfl⟩, k⟩ K hK
      have hw9 := k.cell p1 (by simp)
      have hz9 := unhide HZ w' k
      unfold Oper.wp execOp
      go_simp
      refine hK _ ?_
      have h0 := unhide H
      have hbyte : ∀ x ∈ ts[i].1.bs ++ ps, x < 256 := by
        intro x hx
        rcases List.mem_append.1 hx with h1 | h1
        · exact (unhide HRD).byte x h1
        · exact (unhide HPR).byte x h1
      have hlen : (ts[i].1.bs ++ ps).length ≤ bb + ps.length := by rw [List.length_append]; have := unhide HBL; omega
      have hfin := (unhide HP).setf k hit (j := 1) (by omega) (t := (⟨ts[i].1.nm, ts[i].1.bs ++ ps, ts[i].1.sy, ts[i].1.nd⟩, .slice aa nn cc)) (u := .slice aa nn cc) rfl ⟨owns_zero ho, hbyte, by show (ts[i].1.bs ++ ps).length ≤ _; omega⟩ (fun x hx => .inr (ho.lt x (blk_own ho hx)).1)
      rw [unhide HUP]
      have hsx : σ.A.set i ⟨ts[i].1.nm, ts[i].1.bs ++ ps, ts[i].1.sy, ts[i].1.nd⟩ = σ.A.set i { σ.A[i] with bs := σ.A[i].bs ++ ps } := by rw [unhide HX]
      rw [← hsx]
      refine ⟨_, ?_, hfin.2⟩
      refine RP.rk hfin.1 h0.opb (by show (σ.A.set i _).length ≤ nb; rw [List.length_set]; exact h0.len) ?_ h0.secb ?_ ?_
      · intro f hf
        rcases List.mem_or_eq_of_mem_set hf with h1 | rfl
        · have := h0.byt f h1; omega
        · exact hlen
      · intro f hf
        rcases List.mem_or_eq_of_mem_set hf with h1 | rfl
        · exact h0.syl f h1
        · have h8 : ts[i].1.sy ≤ ts[i].1.bs.length := by rw [unhide HX]; exact h0.syl _ (List.getElem_mem _)
          show ts[i].1.sy ≤ (ts[i].1.bs ++ ps).length
          rw [List.length_append]; omega
      · show Dist (σ.A.set i _)
        rw [hsx, ← unhide HUP]
        exact dist_up (fun x => rfl) h0.dist)
    ?_
  rintro u0 u1 u2 w9 ⟨R', h9⟩
  simp only [Act.put, List.setIfInBounds_toArray, List.set_cons_zero, List.set_cons_succ]
  have HF := hide h9
  clear h9 q1 p1
  go_wp2_with fail
  refine bodyPost_end (v := .tuple #[]) (results_none rfl _ _ _) rfl ⟨rfl, R', unhide HF⟩

set_option maxRecDepth 100000 in
set_option maxHeartbeats 2000000 in
theorem carry3_any (c nb bb : Nat) (R : List Nat) (σ : DSt) (s : ByteArray) (pv : Value) (i : Nat) (w : World) (h : RK w c R nb bb σ) (hn : nb ≤ 1000000000) (hf : fndA σ.A s.data.toList = some i) :
    Calls Try.prog 81 #[.pointer (some ⟨c, 0, none⟩), .int .i64 3, .string s, pv] w fun e w' => e = .returned (.tuple #[]) ∧ ∃ R', RK w' c R' nb bb ⟨σ.sec, σ.cr, σ.op, σ.off, σ.ft, upA σ.A s fun f => { f with sy := f.bs.length }⟩ ∧ Ev w w' R R' := by
  obtain ⟨fsv, ts, fav, fl, hp, rfl⟩ := h.parts
  obtain ⟨a3, c3, hv3, hg3⟩ := hp.own.shapeL
  subst hv3
  have hl := hp.len
  have hll := h.len
  obtain ⟨hi, hup, hnm⟩ := upA_set h.dist hf (fun f => { f with sy := f.bs.length })
  have hit : i < ts.length := by omega
  obtain ⟨g, rfl⟩ := hg3 (by omega)
  have q1 := cell_of_row _ _ 1 _ _ _ hp.row
  simp [rkC] at q1
  obtain ⟨p0, p1, p2, p3⟩ := rdFl_at hp.own.rd hit
  have hx := fst_at hp.fst hit hi
  have hrd := hp.own.rd.2 ts[i] (List.getElem_mem hit)
  obtain ⟨xa, xl, xc, hxv, hxl, _⟩ := id hrd
  have hfi : fndI σ.A s.data.toList = (i : Int) := by unfold fndI; rw [hf]
  have HFI := hide (fun W (k : Kept [] w W) => by have h9 := rfind_any c nb bb _ σ s W (h.old k) hn; rw [hfi] at h9; exact h9)
  rw [hxv] at p1
  have z1 := hp.own.frz (i * 4 + 2)
  have HZ := hide (fun (W : World) (k : Kept [] w W) => (hp.old k).own.frz (i * 4 + 2))
  have HP := hide hp
  have H := hide h
  have hib : (i : Int) < ts.length := by omega
  have HUP := hide hup
  have HX := hide hx
  have HXV := hide hxv
  have HRD := hide hrd
  have HXL := hide hxl
  have HP2 := hide p2
  clear hp h hl hll hg3 hf hup hnm hx hfi hrd hxl hxv z1 p0 p2 p3
  go_enter Try.func81, Try.ntmps81
  go_wp2_with fail
  refine Calls.mono (unhide HFI _ (Kept.refl _ _)) ?_
  rintro e w1 ⟨rfl, hw1⟩
  rw [hw1]
  clear hw1 w1
  go_upto_region 8 with fail
  refine wp_rc17 (by kernel_rfl) (by kernel_rfl) (by kernel_rfl) (by kernel_rfl) (by kernel_rfl) (by kernel_rfl) (by kernel_rfl) (by kernel_rfl) (by kernel_rfl) (by kernel_rfl) (by kernel_rfl) (by kernel_rfl) (by kernel_rfl) (by kernel_rfl) (by kernel_rfl) (by kernel_rfl) (by kernel_rfl) (by kernel_rfl) (by kernel_rfl) (by kernel_rfl) (by kernel_rfl) (by kernel_rfl) (by kernel_rfl) (by kernel_rfl) (by kernel_rfl) (by kernel_rfl) (by kernel_rfl) (by kernel_rfl) (by kernel_rfl) (by kernel_rfl) (by kernel_rfl) (by kernel_rfl) (by kernel_rfl) (by kernel_rfl) (by kernel_rfl) (by kernel_rfl) (by kernel_rfl) (by kernel_rfl) (by kernel_rfl) (by kernel_rfl) (by kernel_rfl) (by kernel_rfl) (by kernel_rfl) (by kernel_rfl) (by kernel_rfl) rfl (by kernel_rfl) rfl (by kernel_rfl) rfl (by kernel_rfl)
    (.pointer (some ⟨c, 0, none⟩)) (.pointer (some ⟨c, 0, none⟩)) (.pointer (some ⟨c, 1, none⟩)) (.slice (some ⟨g, 0, none⟩) ts.length c3) (.int .i64 (i : Int)) (.pointer (some ⟨c, 0, none⟩)) (.pointer (some ⟨c, 0, none⟩)) (.pointer (some ⟨c, 1, none⟩)) (.slice (some ⟨g, 0, none⟩) ts.length c3) (.int .i64 (i : Int)) (.pointer (some ⟨g, i * 4, none⟩)) (.pointer (some ⟨g, i * 4 + 1, none⟩)) (.slice xa xl xc) (.int .i64 (xl : Int)) _ _ _ _ _ _ _ _ _ _ _ _ _ _
    (fun w' => Kept [] w w')
    (fun w' => Kept [] w w')
    (fun u0 w' => u0 = .pointer (some ⟨g, i * 4, none⟩) ∧ Kept [] w w')
    (fun u0 u1 w' => u1 = .pointer (some ⟨g, i * 4 + 2, none⟩) ∧ Kept [] w w')
    (fun u0 u1 w' => ∃ R', RK w' c R' nb bb ⟨σ.sec, σ.cr, σ.op, σ.off, σ.ft, upA σ.A s fun f => { f with sy := f.bs.length }⟩ ∧ Ev w w' (rkB c (.slice (some ⟨g, 0, none⟩) ts.length c3) ts fav fl) R')
    (by simp only [Act.put, List.setIfInBounds_toArray, List.set_cons_zero, List.set_cons_succ]; rfl) (by exact Or.inl ⟨by rfl, fun W' hW' => by  go_simp⟩)
    (by simp only [Act.put, List.setIfInBounds_toArray, List.set_cons_zero, List.set_cons_succ]; rfl) (by exact Or.inl ⟨by rfl, fun W' hW' => by  go_simp⟩)
    (by simp only [Act.put, List.setIfInBounds_toArray, List.set_cons_zero, List.set_cons_succ]; rfl) (by exact Or.inl ⟨by rfl, fun W' hW' => by  go_simp⟩)
    (by simp only [Act.put, List.setIfInBounds_toArray, List.set_cons_zero, List.set_cons_succ]; rfl) (by exact Or.inl ⟨by rfl, fun W' hW' => by have h90 := hW'.cell q1 (by simp); go_simp⟩)
    (by simp only [Act.put, List.setIfInBounds_toArray, List.set_cons_zero, List.set_cons_succ]; rfl) (by exact Or.inl ⟨by rfl, fun W' hW' => by  go_simp⟩)
    (by simp only [Act.put, List.setIfInBounds_toArray, List.set_cons_zero, List.set_cons_succ]; rfl) (by exact Or.inl ⟨by rfl, fun W' hW' => by  go_simp⟩)
    (by simp only [Act.put, List.setIfInBounds_toArray, List.set_cons_zero, List.set_cons_succ]; rfl) (by exact Or.inl ⟨by rfl, fun W' hW' => by  go_simp⟩)
    (by simp only [Act.put, List.setIfInBounds_toArray, List.set_cons_zero, List.set_cons_succ]; rfl) (by exact Or.inl ⟨by rfl, fun W' hW' => by  go_simp⟩)
    (by simp only [Act.put, List.setIfInBounds_toArray, List.set_cons_zero, List.set_cons_succ]; rfl) (by exact Or.inl ⟨by rfl, fun W' hW' => by have h90 := hW'.cell q1 (by simp); go_simp⟩)
    (by simp only [Act.put, List.setIfInBounds_toArray, List.set_cons_zero, List.set_cons_succ]; rfl) (by exact Or.inl ⟨by rfl, fun W' hW' => by  go_simp⟩)
    (by simp only [Act.put, List.setIfInBounds_toArray, List.set_cons_zero, List.set_cons_succ]; rfl) (by exact Or.inl ⟨by rfl, fun W' hW' => by  go_simp⟩)
    (by simp only [Act.put, List.setIfInBounds_toArray, List.set_cons_zero, List.set_cons_succ]; rfl) (by exact Or.inl ⟨by rfl, fun W' hW' => by  go_simp⟩)
    (by simp only [Act.put, List.setIfInBounds_toArray, List.set_cons_zero, List.set_cons_succ]; rfl) (by exact Or.inl ⟨by rfl, fun W' hW' => by have h90 := hW'.cell p1 (by simp); go_simp⟩)
    (by simp only [Act.put, List.setIfInBounds_toArray, List.set_cons_zero, List.set_cons_succ]; rfl) (by exact Or.inl ⟨by rfl, fun W' hW' => by  go_simp⟩)
    (Kept.refl [] w).drew
    ⟨fun w' h => h, fun u0 w' h => h.2, fun u0 u1 w' h => h.2⟩
    (by rintro w' k K hK; unfold Oper.wp execOp; go_simp; exact hK _ _ ⟨rfl, k⟩)
    (by rintro u0 w' ⟨rfl, k⟩ K hK; unfold Oper.wp execOp; go_simp; exact hK _ _ ⟨rfl, k⟩)
    (by
      rintro u0 u1 w' ⟨rfl, k⟩ K hK
      have hw9 := k.cell (unhide HP2) (by simp)
      have hz9 := unhide HZ w' k
      unfold Oper.wp execOp
      go_simp
      refine hK _ ?_
      have h0 := unhide H
      have hel := (unhide HP).own.el ts[i] (List.getElem_mem hit)
      have hfin := (unhide HP).setf k hit (j := 2) (by omega) (t := (⟨ts[i].1.nm, ts[i].1.bs, xl, ts[i].1.nd⟩, ts[i].2)) (u := .int .i64 (xl : Int)) rfl ⟨k.owns hel.1 (by simp), hel.2⟩ (fun x hx => .inl hx)
      rw [unhide HUP]
      have hsx : σ.A.set i ⟨ts[i].1.nm, ts[i].1.bs, xl, ts[i].1.nd⟩ = σ.A.set i { σ.A[i] with sy := σ.A[i].bs.length } := by rw [← unhide HX, unhide HXL]
      rw [← hsx]
      refine ⟨_, ?_, hfin.2⟩
      refine RP.rk hfin.1 h0.opb (by show (σ.A.set i _).length ≤ nb; rw [List.length_set]; exact h0.len) ?_ h0.secb ?_ ?_
      · intro f hf
        rcases List.mem_or_eq_of_mem_set hf with h1 | rfl
        · exact h0.byt f h1
        · show ts[i].1.bs.length ≤ bb
          rw [unhide HX]; exact h0.byt _ (List.getElem_mem _)
      · intro f hf
        rcases List.mem_or_eq_of_mem_set hf with h1 | rfl
        · exact h0.syl f h1
        · show xl ≤ ts[i].1.bs.length
          rw [unhide HXL]; exact Nat.le_refl _
      · show Dist (σ.A.set i _)
        rw [hsx, ← unhide HUP]
        exact dist_up (fun x => rfl) h0.dist)
    ?_
  rintro u0 u1 w9 ⟨R', h9⟩
  simp only [Act.put, List.setIfInBounds_toArray, List.set_cons_zero, List.set_cons_succ]
  have HF := hide h9
  clear h9 q1 p1
  go_wp2_with fail
  refine bodyPost_end (v := .tuple #[]) (results_none rfl _ _ _) rfl ⟨rfl, R', unhide HF⟩
end Go.Proofs.Ytlopdlcepmmjdaa
namespace Go.Proofs.Ytlopdlcepmmjdaa
open Go.RowKit Go.BigFrame Go.Maps Go.Sort
set_option linter.unusedVariables false
set_option linter.unusedSimpArgs false
/-- The first k names are durable. -/
def ndQ (k : Nat) (A : List DF) : List DF := (A.take k).map (fun f => { f with nd := true }) ++ A.drop k
theorem ndQ_zero (A : List DF) : ndQ 0 A = A := by simp [ndQ]
theorem ndQ_all (A : List DF) : ndQ A.length A = ndA A := by simp [ndQ, ndA]
theorem ndQ_len (k : Nat) (A : List DF) : (ndQ k A).length = A.length := by simp [ndQ]; omega
theorem ndQ_get {k : Nat} {A : List DF} (h : k < A.length) (h2 : k < (ndQ k A).length) : (ndQ k A)[k] = A[k] := by
  have e : ((A.take k).map (fun f : DF => ({ f with nd := true } : DF))).length = k := by simp; omega
  simp only [ndQ]
  rw [List.getElem_append_right (by omega)]
  have h9 : min k A.length = k := by omega
  simp [h9]
theorem ndQ_step {k : Nat} {A : List DF} (h : k < A.length) : (ndQ k A).set k { A[k] with nd := true } = ndQ (k + 1) A := by
  have e : ((A.take k).map (fun f : DF => ({ f with nd := true } : DF))).length = k := by simp; omega
  unfold ndQ
  rw [List.set_append_right _ _ (by omega), e, Nat.sub_self, List.drop_eq_getElem_cons h, List.set_cons_zero, List.take_succ_eq_append_getElem h, List.map_append, List.append_assoc]
  rfl
theorem ndA_mem {A : List DF} {f : DF} (h : f ∈ ndA A) : ∃ a ∈ A, f.nm = a.nm ∧ f.bs = a.bs ∧ f.sy = a.sy := by
  obtain ⟨a, ha, rfl⟩ := List.mem_map.1 h
  exact ⟨a, ha, rfl, rfl, rfl⟩
theorem ndA_dist {A : List DF} (h : Dist A) : Dist (ndA A) := by
  rw [dist_iff] at h ⊢
  have : (ndA A).map DF.nm = A.map DF.nm := by unfold ndA; rw [List.map_map]; rfl
  rw [this]
  exact h

set_option maxRecDepth 100000 in
set_option maxHeartbeats 2000000 in
theorem carry4_any (c nb bb : Nat) (R : List Nat) (σ : DSt) (s : ByteArray) (pv : Value) (w : World) (h : RK w c R nb bb σ) (hn : nb ≤ 1000000000) :
    Calls Try.prog 81 #[.pointer (some ⟨c, 0, none⟩), .int .i64 4, .string s, pv] w fun e w' => e = .returned (.tuple #[]) ∧ ∃ R', RK w' c R' nb bb ⟨σ.sec, σ.cr, σ.op, σ.off, σ.ft, ndA σ.A⟩ ∧ Ev w w' R R' := by
  obtain ⟨fsv, ts, fav, fl, hp, rfl⟩ := h.parts
  obtain ⟨a3, c3, hv3, hg3⟩ := hp.own.shapeL
  subst hv3
  have hl := hp.len
  have hll := h.len
  have q1 := cell_of_row _ _ 1 _ _ _ hp.row
  simp [rkC] at q1
  have HP := hide hp
  have H := hide h
  have HG := hide hg3
  have HL := hide hl
  have hlb : ts.length ≤ 1000000000 := by omega
  clear hp h hl hll hg3
  go_enter Try.func81, Try.ntmps81
  go_wp2_with fail
  go_loopw [75] (fun t75 wr => ∃ (k : Nat) (tk : List (DF × Value)), k ≤ ts.length ∧ t75 = .int .i64 k ∧ Hid (tk.length = ts.length) ∧ Hid (RP wr c ⟨σ.sec, σ.cr, σ.op, σ.off, σ.ft, ndQ k σ.A⟩ (.slice a3 ts.length c3) tk fav fl nb) ∧ Hid (Ev w wr (rkB c (.slice a3 ts.length c3) ts fav fl) (rkB c (.slice a3 ts.length c3) tk fav fl))) (fun t _ => ts.length - (intOf t).toNat)
  case atStart => exact ⟨0, ts, Nat.zero_le _, rfl, hide rfl, hide (by rw [ndQ_zero]; exact unhide HP), hide (Ev.refl _ _)⟩
  case round =>
    obtain ⟨k, tk, hk, rfl, HTL, HPK, HE⟩ := hrel
    have q1 := cell_of_row _ _ 1 _ _ _ (unhide HPK).row
    simp [rkC] at q1
    by_cases hlt : k < ts.length
    · have hlt' : (k : Int) < ts.length := by omega
      obtain ⟨g, rfl⟩ := unhide HG (by omega)
      have hkt : k < tk.length := by rw [unhide HTL]; exact hlt
      have hka : k < σ.A.length := by rw [← unhide HL]; exact hlt
      have hkn : k < (ndQ k σ.A).length := by rw [ndQ_len]; exact hka
      obtain ⟨_, _, _, p3⟩ := rdFl_at (unhide HPK).own.rd hkt
      have z3 := (unhide HPK).own.frz (k * 4 + 3)
      have hx := fst_at (unhide HPK).fst hkt hkn
      rw [ndQ_get hka] at hx
      have HX := hide hx
      have hel := (unhide HPK).own.el tk[k] (List.getElem_mem hkt)
      have HFIN := hide (by
        have h7 := unhide HPK
        rw [← unhide HTL] at h7
        have h9 := h7.setf (Kept.refl [] wr) hkt (j := 3) (by omega) (t := ({ tk[k].1 with nd := true }, tk[k].2)) (u := .bool true) rfl hel (fun x hx => .inl hx)
        dsimp only at h9
        rw [hx, ndQ_step hka, unhide HTL] at h9
        exact h9)
      clear hx hel
      go_wp2_with fail
      refine ⟨⟨k + 1, _, by omega, by simp, hide ?_, hide (unhide HFIN).1, hide ((unhide HE).trans (unhide HFIN).2)⟩, ?_⟩
      · rw [List.length_set]; exact unhide HTL
      · simp [intOf]; omega
    · have hlt' : ¬ (k : Int) < ts.length := by omega
      have hke : k = ts.length := by omega
      subst hke
      have h0 := unhide H
      have HFIN := hide (by
        have h7 := unhide HPK
        rw [unhide HL, ndQ_all] at h7
        exact RP.rk (bb := bb) h7 h0.opb (by show (ndA σ.A).length ≤ nb; unfold ndA; rw [List.length_map]; exact h0.len) (fun f hf => by obtain ⟨a, ha, e1, e2, e3⟩ := ndA_mem hf; rw [e2]; exact h0.byt a ha) h0.secb (fun f hf => by obtain ⟨a, ha, e1, e2, e3⟩ := ndA_mem hf; rw [e2, e3]; exact h0.syl a ha) (ndA_dist h0.dist))
      have HFE := hide (by have h7 := unhide HE; rw [unhide HL] at h7; exact h7)
      clear h0
      go_wp2_with fail
      exact bodyPost_end (v := .tuple #[]) (results_none rfl _ _ _) rfl ⟨rfl, _, unhide HFIN, by rw [unhide HL]; exact unhide HFE⟩
end Go.Proofs.Ytlopdlcepmmjdaa
namespace Go.Proofs.Ytlopdlcepmmjdaa
open Go.RowKit Go.BigFrame Go.Maps Go.Sort
set_option linter.unusedVariables false
set_option linter.unusedSimpArgs false
theorem rows_flat {w : World} {b s : Nat} : ∀ {rows : List (List Value)} {off : Nat} (hc : ∀ i (h : i < rows.length), w.rangeAt b (off + i * s) rows[i]) (hs : ∀ r ∈ rows, r.length = s) (j : Nat) (u : Value), rows.flatten[j]? = some u → w.cell? ⟨b, off + j, none⟩ = some u
  | [], off, hc, hs, j, u, hj => by simp at hj
  | r :: rs, off, hc, hs, j, u, hj => by
    have hr : r.length = s := hs r (by simp)
    rw [List.flatten_cons] at hj
    by_cases h : j < s
    · rw [List.getElem?_append_left (by omega)] at hj
      have h9 := hc 0 (by simp) j u (by simpa using hj)
      simpa using h9
    · rw [List.getElem?_append_right (by omega), hr] at hj
      have ih := rows_flat (rows := rs) (off := off + s) (fun i hi => by
        have h9 := hc (i + 1) (by simpa using hi)
        simp only [List.getElem_cons_succ] at h9
        rw [show off + s + i * s = off + (i + 1) * s by rw [Nat.add_mul]; omega]
        exact h9) (fun r hr => hs r (by simp [hr])) (j - s) u hj
      rw [show off + j = off + s + (j - s) by omega]
      exact ih
theorem owns_formC {w : World} {base e s n : Nat} {v : Value} {xs : List Value} (h : w.ownsRow base e s v n xs) : ∃ ao cap, v = .slice ao n cap := by
  rcases h.2 with ⟨rfl, rfl⟩ | ⟨g, cap, cur, rfl, _⟩
  · exact ⟨_, _, rfl⟩
  · exact ⟨_, _, rfl⟩
theorem flat_len {s : Nat} : ∀ {rows : List (List Value)}, (∀ r ∈ rows, r.length = s) → rows.flatten.length = rows.length * s
  | [], _ => by simp
  | r :: rs, h => by
    have ih := flat_len (rows := rs) (fun r hr => h r (by simp [hr]))
    rw [List.flatten_cons, List.length_append, ih, h r (by simp), List.length_cons, Nat.add_mul]
    omega
theorem flat_get {s : Nat} : ∀ {rows : List (List Value)} (hs : ∀ r ∈ rows, r.length = s) {i j : Nat} (hi : i < rows.length) {u : Value}, rows[i][j]? = some u → rows.flatten[i * s + j]? = some u
  | r :: rs, hs, 0, j, hi, u, hu => by
    have hj := (List.getElem?_eq_some_iff.1 hu).1
    rw [List.flatten_cons, Nat.zero_mul, Nat.zero_add, List.getElem?_append_left (by simpa using hj)]
    simpa using hu
  | r :: rs, hs, i + 1, j, hi, u, hu => by
    have hr : r.length = s := hs r (by simp)
    have ih := flat_get (rows := rs) (fun r hr => hs r (by simp [hr])) (i := i) (j := j) (by simpa using hi) (u := u) (by simpa using hu)
    rw [List.flatten_cons, List.getElem?_append_right (by rw [hr, Nat.add_mul]; omega), hr, show (i + 1) * s + j - s = i * s + j by rw [Nat.add_mul]; omega]
    exact ih
/-- An owned row of rows reads as they do. -/
theorem rdC_owns {w : World} {base e s : Nat} {v : Value} {rows : List (List Value)} (h : w.ownsRow base e s v rows.length rows.flatten) (hs : ∀ r ∈ rows, r.length = s) : RdC s w v rows := by
  rcases h.2 with ⟨rfl, h0⟩ | ⟨g, cap, cur, rfl, _, hg, hc, hm, hsz, ht⟩
  · have : rows = [] := List.eq_nil_of_length_eq_zero h0
    subst this
    exact RdC.nil s w
  · refine ⟨_, _, _, rfl, rfl, hc, by unfold maxLen at hm; omega, fun _ => ⟨g, 0, rfl, fun i hi j u hu => ?_⟩⟩
    have h9 := h.cells (g := g) rfl (i * s + j) u (flat_get hs hi hu)
    rw [Addr.add_lit, Nat.zero_add] at h9
    rw [Nat.zero_add]
    exact h9
theorem append_noneC {P : Program} {w : World} (base : Nat) (t ty e : TypeId) (i : TypeInfo) (size c : Nat) (ht : P.underlying t = some (.slice e)) (hi : P.info? e = some i)
    (v : Value) (n : Nat) (xs : List Value) (hown : w.ownsRow base e size v n xs) :
    (Builtin.append_ #[t, t] ty #[v, .slice none 0 c]).run P w = .ok v w := by
  rcases hown.2 with ⟨rfl, rfl⟩ | ⟨g, cap, cur, rfl, _, _, hnc, _⟩
  · simp [Builtin.append_, run_underlying ht, sizeOf, typeInfo, hi, Builtin.lenOf, Builtin.firstCells]
  · simp [Builtin.append_, run_underlying ht, sizeOf, typeInfo, hi, Builtin.lenOf, Builtin.firstCells, hnc, storeCells]
theorem appendC (w : World) (base T e : Nat) (z : Value) (s bytes : Nat) (hu : Try.prog.underlying T = some (.slice e)) (hinf : (Try.prog.info? e).map (fun i => (i.zero, i.size, i.bytes)) = some (some z, s, bytes)) (hzs : z.cells.size = s) (hs0 : 0 < s)
    (v : Value) (n : Nat) (xs : List Value) (h : w.ownsRow base e s v n xs) (ao : Option Addr) (m c : Nat) (rows : List (List Value)) (hr : RdC s w (.slice ao m c) rows) (hs : ∀ r ∈ rows, r.length = s) (hone : ∀ r ∈ rows, ∀ u ∈ r, u.oneCell' = true)
    (hl : (n + m) * bytes ≤ 140737488355328) (hl2 : n + m ≤ 1000000000000) (hb : base ≤ w.heap.size) :
    ∃ ao' cap' w1, (Builtin.append_ #[T, T] T #[v, .slice ao m c]).run Try.prog w = .ok (.slice ao' (n + m) cap') w1 ∧ w1.ownsRow base e s (.slice ao' (n + m) cap') (n + m) (xs ++ rows.flatten) ∧ w.grownBy w1 v.ownBlock ∧ ((Value.slice ao' (n + m) cap').ownBlock = v.ownBlock ∨ (Value.slice ao' (n + m) cap').ownBlock = some w.heap.size) := by
  obtain ⟨i0, hi, hz0, hz1, hz2⟩ := info_parts hinf
  obtain ⟨ao1, n1, c1, he, h1, h2, h3, h4⟩ := hr
  cases he
  have hf1 : ∀ u ∈ rows.flatten, u.oneCell' = true := by
    intro u hu
    obtain ⟨r, hr, hur⟩ := List.mem_flatten.1 hu
    exact hone r hr u hur
  have hfl : rows.flatten.length = m * s := by rw [flat_len hs, h1]
  cases ao with
  | none =>
    have hm : m = 0 := by
      rcases Nat.eq_zero_or_pos m with h9 | h9
      · exact h9
      · obtain ⟨b, off, e9, _⟩ := h4 h9; cases e9
    subst hm
    have hp : rows = [] := List.eq_nil_of_length_eq_zero h1
    subst hp
    have hrun := append_noneC (P := Try.prog) (w := w) base T T e i0 s c hu hi v n xs h
    obtain ⟨ao', cap', rfl⟩ := owns_formC h
    exact ⟨ao', cap', w, hrun, by simpa using h, World.grownBy.refl _ _, .inl rfl⟩
  | some ad =>
    have hnews : ∀ j u, rows.flatten[j]? = some u → w.cell? (ad.add j) = some u := by
      intro j u hj
      have hm : 0 < m := by
        have := (List.getElem?_eq_some_iff.1 hj).1
        rw [hfl] at this
        rcases Nat.eq_zero_or_pos m with h9 | h9
        · subst h9; omega
        · exact h9
      obtain ⟨b, off, e9, hc⟩ := h4 hm
      cases e9
      rw [Addr.add_mid]
      exact rows_flat hc hs j u hj
    obtain ⟨v', w1, hrun, hown, hgrow, _, hat⟩ := run_append_own_at (P := Try.prog) w base T T e i0 z s bytes hu hi hz0 hz1 hz2 hzs hs0 v n xs h ad m c rows.flatten hfl hnews hf1 (by unfold maxLen; omega) hl hb
    obtain ⟨ao', cap', rfl⟩ := owns_formC hown
    exact ⟨ao', cap', w1, hrun, hown, hgrow, hat⟩

theorem Try.infoA : (Try.prog.info? 104).map (fun i => (i.zero, i.size, i.bytes)) = some (some (.agg #[.int .i64 0, .int .i64 0]), 2, 16) := by kernel_rfl
theorem wpList_appendC {ops : Array Oper} {rest : List Oper} {o : Oper} {a : Act} {Q : Exit → Act → World → Prop} (hgd : o.guard = none) (T e : Nat) (s x : Operand)
    (ho : o.op = .call { callee := .builtin .append, args := #[s, x], argTypes := #[T, T] }) (hty : o.type = T)
    (w : World) (base : Nat) (z : Value) (sz bytes : Nat) (hu : Try.prog.underlying T = some (.slice e)) (hinf : (Try.prog.info? e).map (fun i => (i.zero, i.size, i.bytes)) = some (some z, sz, bytes)) (hzs : z.cells.size = sz) (hs0 : 0 < sz)
    (v : Value) (n : Nat) (xs : List Value) (h : w.ownsRow base e sz v n xs) (ao : Option Addr) (m c : Nat) (rows : List (List Value)) (hr : RdC sz w (.slice ao m c) rows) (hs : ∀ r ∈ rows, r.length = sz) (hone : ∀ r ∈ rows, ∀ u ∈ r, u.oneCell' = true)
    (hl : (n + m) * bytes ≤ 140737488355328) (hl2 : n + m ≤ 1000000000000) (hb : base ≤ w.heap.size) (he : a.eval s = v) (hx : a.eval x = .slice ao m c)
    (hK : ∀ ao' cap' w1, Hid (w1.ownsRow base e sz (.slice ao' (n + m) cap') (n + m) (xs ++ rows.flatten)) → Hid (w.grownBy w1 v.ownBlock) → Hid ((Value.slice ao' (n + m) cap').ownBlock = v.ownBlock ∨ (Value.slice ao' (n + m) cap').ownBlock = some w.heap.size) →
      wpList Try.prog ops Q rest (a.put o.dst (.slice ao' (n + m) cap')) w1) :
    wpList Try.prog ops Q (o :: rest) a w := by
  obtain ⟨ao', cap', w1, hrun, h2, h3, h4⟩ := appendC w base T e z sz bytes hu hinf hzs hs0 v n xs h ao m c rows hr hs hone hl hl2 hb
  refine wpList_plain hgd fun K hK' => ?_
  unfold Oper.wp execOp
  simp only [ho, hty, resolve, invoke, builtin, Sem.run_bind, Sem.run_pure, Result.andThen_ok, List.map_toArray, List.map_cons, List.map_nil, he, hx, hrun]
  exact hK' _ _ (hK ao' cap' w1 h2 h3 h4)
theorem faC_len (fl : List (Int × Int)) : ∀ r ∈ fl.map faC, r.length = 2 := by
  intro r hr
  obtain ⟨a, _, rfl⟩ := List.mem_map.1 hr
  rfl
theorem faC_one (fl : List (Int × Int)) : ∀ r ∈ fl.map faC, ∀ u ∈ r, u.oneCell' = true := by
  intro r hr u hu
  obtain ⟨a, _, rfl⟩ := List.mem_map.1 hr
  simp only [faC, List.mem_cons, List.not_mem_nil, or_false] at hu
  rcases hu with rfl | rfl <;> rfl

set_option maxRecDepth 100000 in
set_option maxHeartbeats 1000000 in
theorem rplan_any (c nb bb : Nat) (R : List Nat) (σ : DSt) (lv : Value) (fl2 : List (Int × Int)) (cr : Int) (w : World) (h : RK w c R nb bb σ) (hfl : RdC 2 w lv (fl2.map faC)) (hll : fl2.length ≤ 1048576) :
    Calls Try.prog 49 #[.pointer (some ⟨c, 0, none⟩), lv, .int .i64 cr] w fun e w' => e = .returned (.tuple #[]) ∧ ∃ R', RK w' c R' (nb + fl2.length) bb (stPlan σ fl2 cr) ∧ Ev w w' R R' := by
  obtain ⟨fsv, ts, fav, fl, hp, rfl⟩ := h.parts
  obtain ⟨la, ll, lc, hlv⟩ : ∃ a l c, lv = .slice a l c := by obtain ⟨a, l, c, h1, _⟩ := hfl; exact ⟨a, l, c, h1⟩
  subst hlv
  have hl1 : ll = fl2.length := by obtain ⟨a, l, c, e, h1, _⟩ := hfl; cases e; rw [List.length_map] at h1; exact h1.symm
  subst hl1
  have k0 := (Kept.refl [] w).alloc (.cells #[] 104 (0, 0))
  have HO := hide (World.ownsRow_made (base := w.heap.size) (e := 104) (size := 2) w #[] 0 (Nat.le_refl _) (by unfold maxLen; omega) (by simp))
  have HP := hide hp
  have H := hide h
  have HK0 := hide k0
  have HF := hide (hfl.keptZ k0 (by simp))
  clear hp h k0 hfl
  go_enter Try.func49, Try.ntmps49
  go_wp2_with (at_builtin; refine wpList_appendC rfl 37 104 (.tmp 9) (.tmp 10) rfl rfl _ w.heap.size (.agg #[.int .i64 0, .int .i64 0]) 2 16 Try.underlying37 Try.infoA rfl (by decide) (.slice (some ⟨w.heap.size, 0, none⟩) 0 0) 0 [] (unhide HO) la fl2.length lc (fl2.map faC) (unhide HF) (faC_len _) (faC_one _) (by omega) (by omega) (by simp) rfl rfl ?_; intro a5 cap5 w5 HO5 HGR5 HA5; simp only [Nat.zero_add, List.nil_append] at HO5 HA5 ⊢; have HK5 := hide ((unhide HK0).grown (unhide HGR5) (by intro x hx; right; simp [Value.ownBlock] at hx; omega)); have HROW := hide ((unhide HK5).heap (unhide HP).row (by simp)); have r2 := cell_of_row _ _ 2 _ _ _ (unhide HROW); have r3 := cell_of_row _ _ 3 _ _ _ (unhide HROW); have r4 := cell_of_row _ _ 4 _ _ _ (unhide HROW); simp [rkC] at r2 r3 r4; have z2 := frozen_of_row _ _ 2 _ _ (unhide HROW); have z3 := frozen_of_row _ _ 3 _ _ (unhide HROW); have z4 := frozen_of_row _ _ 4 _ _ (unhide HROW))
  have h0 := unhide H
  have hp := (unhide HP).old (unhide HK5)
  have k9 : Kept [c] w5 (((w5.setCell ⟨c, 2, none⟩ (.slice a5 fl2.length cap5)).setCell ⟨c, 3, none⟩ (.int .i64 cr)).setCell ⟨c, 4, none⟩ (.int .i64 0)) := (((Kept.refl [c] w5).setCell (p := ⟨c, 2, none⟩) (.inl (by simp)) _).setCell (p := ⟨c, 3, none⟩) (.inl (by simp)) _).setCell (p := ⟨c, 4, none⟩) (.inl (by simp)) _
  have hrow9 : (((w5.setCell ⟨c, 2, none⟩ (.slice a5 fl2.length cap5)).setCell ⟨c, 3, none⟩ (.int .i64 cr)).setCell ⟨c, 4, none⟩ (.int .i64 0)).heap[c]? = some (.cells #[.int .i64 (σ.sec : Int), fsv, .slice a5 fl2.length cap5, .int .i64 cr, .int .i64 0, .bool σ.off] 88 (0, 0)) := by
    rw [heap_setCell_same _ c 4 _ _ _ (heap_setCell_same _ c 3 _ _ _ (heap_setCell_same _ c 2 _ _ _ (unhide HROW)))]
    rfl
  have hrd5 : RdC 2 w5 (.slice a5 fl2.length cap5) (fl2.map faC) := rdC_owns (by have h9 := unhide HO5; rw [List.length_map]; exact h9) (faC_len _)
  have hnew : ∀ x ∈ zblk (.slice a5 fl2.length cap5) (fl2.map faC), w.heap.size ≤ x ∧ x < w5.heap.size := by
    intro x hx
    have h9 := (mem_zblk hx).1
    exact (unhide HO5).lt x (blk_own (unhide HO5) h9)
  have hcw := lt_of_block (unhide HP).row
  refine bodyPost_end (v := .tuple #[]) (results_none rfl _ _ _) rfl ⟨rfl, _, RP.rk (fsv := fsv) (ts := ts) (fav := .slice a5 fl2.length cap5) (fl := fl2) ⟨hrow9, hp.own.keptF k9 (fun x hx => by simpa using rk_ne hp.row hp.own x hx), hp.fst, hrd5.keptZ k9 (fun x hx hm => by simp at hm; subst hm; have := (hnew _ hx).1; omega), by omega, rfl, fun hm => by have := (hnew _ hm).1; omega, fun x hx hm => by have := (hnew _ hm).1; have := ((unhide HP).own.ge x (by simp only [flB, List.mem_append]; exact .inl hx)).2; omega, fun x hx => Nat.lt_of_lt_of_le (hnew x hx).2 k9.size⟩ ⟨by simp [stPlan], by simp [stPlan]; omega⟩ (by have := h0.len; show σ.A.length ≤ _; omega) h0.byt h0.secb h0.syl h0.dist, ?_, ?_⟩
  · refine ((unhide HK5).mono (M := rkB c fsv ts fav fl) (by simp)).trans k9 ?_
    intro x hx
    simp only [List.mem_singleton] at hx
    subst hx
    exact .inl (by simp [rkB])
  · intro x hx
    simp only [rkB, List.mem_cons, List.mem_append] at hx ⊢
    rcases hx with rfl | hx | hx
    · exact .inl (.inl rfl)
    · exact .inl (.inr (.inl hx))
    · exact .inr (hnew x hx).1

set_option maxRecDepth 100000 in
set_option maxHeartbeats 1000000 in
theorem rcut_any (c nb bb : Nat) (R : List Nat) (σ : DSt) (w : World) (h : RK w c R nb bb σ) :
    Calls Try.prog 50 #[.pointer (some ⟨c, 0, none⟩)] w fun e w' => e = .returned (.tuple #[]) ∧ RK w' c R nb bb (stCut σ) ∧ Ev w w' R R := by
  obtain ⟨fsv, ts, fav, fl, hp, hR⟩ := h.parts
  have r5 := cell_of_row _ _ 5 _ _ _ hp.row
  simp [rkC] at r5
  have z5 := frozen_of_row _ _ 5 _ _ hp.row
  have HP := hide hp
  have H := hide h
  have HR := hide hR
  clear hp h hR
  go_enter Try.func50, Try.ntmps50
  go_wp2_with fail
  have k9 := (Kept.refl [c] w).setCell (p := ⟨c, 5, none⟩) (.inl (by simp)) (.bool true)
  refine bodyPost_end (v := .tuple #[]) (results_none rfl _ _ _) rfl ⟨rfl, ?_, k9.mono ?_, fun x hx => .inl hx⟩
  · have h9 := (unhide H).turn k9 σ.cr σ.op true (unhide H).opb (fun fsv fav hr => by rw [heap_setCell_same _ c 5 _ _ _ hr]; rfl)
    exact h9
  · intro x hx
    simp only [List.mem_singleton] at hx
    subst hx
    rw [unhide HR]
    simp [rkB]

set_option maxRecDepth 100000 in
set_option maxHeartbeats 1000000 in
theorem rread_any (c nb bb : Nat) (R : List Nat) (σ : DSt) (s : ByteArray) (w : World) (h : RK w c R nb bb σ) (hn : nb ≤ 1000000000) :
    Calls Try.prog 48 #[.pointer (some ⟨c, 0, none⟩), .string s] w fun e w' => ∃ v, e = .returned (.tuple #[v, .int .i64 ((stRead σ s).2 : Nat)]) ∧ Rd w' v (stRead σ s).1 ∧ Kept [] w w' := by
  obtain ⟨fsv, ts, fav, fl, hp, hR⟩ := h.parts
  obtain ⟨a3, c3, hv3, hg3⟩ := hp.own.shapeL
  subst hv3
  have r5 := cell_of_row _ _ 5 _ _ _ hp.row
  have r1 := cell_of_row _ _ 1 _ _ _ hp.row
  simp [rkC] at r5 r1
  have HF := hide (rfind_any c nb bb R σ s w h hn)
  have hl := hp.len
  have hll := h.len
  obtain ⟨rd, hrd⟩ : ∃ rd, stRead σ s = rd := ⟨_, rfl⟩
  rw [hrd]
  unfold stRead at hrd
  have HP := hide hp
  clear h hR
  cases ho : σ.off
  · rw [ho] at r5 hrd
    simp only [Bool.false_eq_true, if_false] at hrd
    cases hf : fndA σ.A s.data.toList with
    | none =>
      have hq : findA σ.A s.data.toList = none := by have := fndA_isSome σ.A s.data.toList; rw [hf] at this; simpa using this
      rw [hq] at hrd
      subst hrd
      have hfi : fndI σ.A s.data.toList = -1 := by unfold fndI; rw [hf]
      rw [hfi] at HF
      clear ho hf hq hfi hl hll hp hg3
      go_enter Try.func48, Try.ntmps48
      go_wp2_with fail
      refine Calls.mono (unhide HF) ?_
      rintro e w1 ⟨rfl, hw1⟩
      rw [hw1]
      clear hw1 w1
      go_wp2_with fail
      go_ret2
      exact ⟨_, rfl, Rd.nil _, Kept.refl _ _⟩
    | some i =>
      obtain ⟨hi, h1, h2⟩ := fndA_get hf
      rw [h2] at hrd
      subst hrd
      dsimp only
      have hfi : fndI σ.A s.data.toList = (i : Int) := by unfold fndI; rw [hf]
      rw [hfi] at HF
      have hit : i < ts.length := by omega
      have hib : (i : Int) < ts.length := by omega
      obtain ⟨g, rfl⟩ := hg3 (by omega)
      obtain ⟨_, p1, _, _⟩ := rdFl_at hp.own.rd hit
      have hx := fst_at hp.fst hit hi
      have hrd := hp.own.rd.2 ts[i] (List.getElem_mem hit)
      rw [hx] at hrd
      obtain ⟨xa, xl, xc, hxv, hxl, _⟩ := id hrd
      rw [hxv] at p1 hrd
      have HRD := hide hrd
      have HTW := hide (twin_any (.slice xa xl xc) σ.A[i].bs w hrd)
      have HLN := hide (by obtain ⟨_, _, _, _, h9, _, h8, _⟩ := hrd; omega : σ.A[i].bs.length ≤ 140737488355328)
      clear ho hf h1 h2 hfi hl hll hp hg3 hx hrd hxv hxl
      generalize σ.A[i].bs = B at HRD HTW HLN ⊢
      go_enter Try.func48, Try.ntmps48
      go_wp2_with fail
      refine Calls.mono (unhide HF) ?_
      rintro e w1 ⟨rfl, hw1⟩
      rw [hw1]
      clear hw1 w1
      go_wp2_with fail
      refine Calls.mono (unhide HTW) ?_
      rintro e w2 ⟨rfl, k2, hh2⟩
      have HH := hide (rd_fresh hh2 (unhide HRD).byte (unhide HLN))
      have HK2 := hide k2
      clear k2 hh2
      go_wp2_with fail
      go_ret2
      exact ⟨_, rfl, unhide HH, unhide HK2⟩
  · rw [ho] at r5 hrd
    simp only [if_true] at hrd
    subst hrd
    clear ho hl hll hp hg3
    go_enter Try.func48, Try.ntmps48
    go_wp2_with fail
    go_ret2
    exact ⟨_, rfl, Rd.nil _, Kept.refl _ _⟩
end Go.Proofs.Ytlopdlcepmmjdaa
namespace Go.Proofs.Ytlopdlcepmmjdaa
open Go.RowKit Go.BigFrame Go.Maps Go.Sort
set_option linter.unusedVariables false
set_option linter.unusedSimpArgs false
/-- What an operation of the document's disk leaves of the files. -/
def oA (σ : DSt) (kd E0 : Nat) (car : List Nat → List DF) (ps : List Nat) : List DF :=
  if E0 = 0 then (if σ.op + 1 = σ.cr then (if kd = 1 ∨ kd = 2 then car ps else σ.A) else if (σ.ft (σ.op + 1)).isSome then (if kd = 2 then car (ps.take (wtn ((σ.ft (σ.op + 1)).getD 0) ps.length).toNat) else σ.A) else car ps) else σ.A
/-- Its count turns. -/
theorem RK.count {w : World} {c nb bb : Nat} {R : List Nat} {σ : DSt} (h : RK w c R nb bb σ) : RK (w.setCell ⟨c, 4, none⟩ (.int .i64 (σ.op + 1))) c R (nb + 1) bb ⟨σ.sec, σ.cr, σ.op + 1, σ.off, σ.ft, σ.A⟩ ∧ Ev w (w.setCell ⟨c, 4, none⟩ (.int .i64 (σ.op + 1))) R R := by
  have k9 := (Kept.refl [c] w).setCell (p := ⟨c, 4, none⟩) (.inl (by simp)) (.int .i64 (σ.op + 1))
  refine ⟨(h.more (nb' := nb + 1) (bb' := bb) (by omega) (Nat.le_refl _)).turn k9 σ.cr (σ.op + 1) σ.off (by have := h.opb; constructor <;> omega) (fun fsv fav hr => by rw [heap_setCell_same _ c 4 _ _ _ hr]; rfl), k9.mono ?_, fun x hx => .inl hx⟩
  intro x hx
  simp only [List.mem_singleton] at hx
  subst hx
  obtain ⟨fsv, ts, fav, fl, hp, hR⟩ := h.parts
  rw [hR]
  simp [rkB]
/-- The power goes off. -/
theorem RK.gone {w : World} {c nb bb : Nat} {R : List Nat} {σ : DSt} (h : RK w c R nb bb σ) : RK (w.setCell ⟨c, 5, none⟩ (.bool true)) c R nb bb ⟨σ.sec, σ.cr, σ.op, true, σ.ft, σ.A⟩ ∧ Ev w (w.setCell ⟨c, 5, none⟩ (.bool true)) R R := by
  have k9 := (Kept.refl [c] w).setCell (p := ⟨c, 5, none⟩) (.inl (by simp)) (.bool true)
  refine ⟨h.turn k9 σ.cr σ.op true h.opb (fun fsv fav hr => by rw [heap_setCell_same _ c 5 _ _ _ hr]; rfl), k9.mono ?_, fun x hx => .inl hx⟩
  intro x hx
  simp only [List.mem_singleton] at hx
  subst hx
  obtain ⟨fsv, ts, fav, fl, hp, hR⟩ := h.parts
  rw [hR]
  simp [rkB]
theorem RK.cells {w : World} {c nb bb : Nat} {R : List Nat} {σ : DSt} (h : RK w c R nb bb σ) : w.cell? ⟨c, 3, none⟩ = some (.int .i64 σ.cr) ∧ w.cell? ⟨c, 4, none⟩ = some (.int .i64 σ.op) ∧ w.cell? ⟨c, 5, none⟩ = some (.bool σ.off) ∧ w.frozen? ⟨c, 4, none⟩ = false ∧ w.frozen? ⟨c, 5, none⟩ = false := by
  obtain ⟨fsv, ts, fav, fl, hp, hR⟩ := h.parts
  have r3 := cell_of_row _ _ 3 _ _ _ hp.row
  have r4 := cell_of_row _ _ 4 _ _ _ hp.row
  have r5 := cell_of_row _ _ 5 _ _ _ hp.row
  simp [rkC] at r3 r4 r5
  exact ⟨r3, r4, r5, frozen_of_row _ _ 4 _ _ hp.row, frozen_of_row _ _ 5 _ _ hp.row⟩

set_option maxRecDepth 100000 in
set_option maxHeartbeats 4000000 in
theorem operate_any (kd : Nat) (c nb bb : Nat) (R : List Nat) (σ : DSt) (s : ByteArray) (pv : Value) (ps : List Nat) (w : World) (h : RK w c R nb bb σ) (hn : nb ≤ 800000000) (hpr : Rd w pv ps) (hpd : ∀ x ∈ zblk pv ps, x ∉ R) (E0 : Nat) (hE0 : E0 ≤ 20)
    (hown : ∀ W σ1, RK W c R (nb + 1) bb σ1 → σ1.A = σ.A → Calls Try.prog 80 #[.pointer (some ⟨c, 0, none⟩), .int .i64 kd, .string s] W (fun e w' => e = .returned (.int .i64 (E0 : Nat)) ∧ w' = W))
    (car : List Nat → List DF)
    (hcar : E0 = 0 → ∀ W σ1 pv' ps', RK W c R (nb + 1) bb σ1 → σ1.A = σ.A → Rd W pv' ps' → ps'.length ≤ ps.length → Calls Try.prog 81 #[.pointer (some ⟨c, 0, none⟩), .int .i64 kd, .string s, pv'] W (fun e w' => e = .returned (.tuple #[]) ∧ ∃ R', RK w' c R' (nb + 2) (bb + ps.length) ⟨σ1.sec, σ1.cr, σ1.op, σ1.off, σ1.ft, car ps'⟩ ∧ Ev W w' R R')) :
    Calls Try.prog 69 #[.pointer (some ⟨c, 0, none⟩), .int .i64 kd, .string s, pv] w fun e w' => e = .returned (.int .i64 ((if σ.off then 12 else opE σ.ft σ.cr σ.op E0 : Nat) : Nat)) ∧ ∃ R', RK w' c R' (nb + 2) (bb + ps.length) (if σ.off then σ else tick σ (oA σ kd E0 car ps)) ∧ Ev w w' R R' := by
  obtain ⟨pa, pl, pc, hpv, hpl, hplc, _⟩ := id hpr
  subst hpv
  obtain ⟨r3, r4, r5, z4, z5⟩ := h.cells
  cases hoff : σ.off
  · simp only [Bool.false_eq_true, if_false]
    rw [hoff] at r5
    obtain ⟨c1, e1⟩ := h.count
    have hopb := h.opb
    have HN1 := hide hn
    have HW1 := hide (fun W σ1 h1 h2 => hown W σ1 h1 h2)
    have HCA := hide hcar
    have HPR := hide (hpr.keptZ e1.1 hpd)
    have HPD := hide hpd
    have H := hide h
    have HC1 := hide c1
    have HE1 := hide e1
    obtain ⟨W1, hW1⟩ : ∃ W, w.setCell ⟨c, 4, none⟩ (.int .i64 (σ.op + 1)) = W := ⟨_, rfl⟩
    rw [hW1] at HPR HC1 HE1
    have HW := hide hW1
    have hop1 : -9223372036854775808 ≤ σ.op + 1 ∧ σ.op + 1 ≤ 9223372036854775807 := by omega
    obtain ⟨s3, s4, s5, y4, y5⟩ := (unhide HC1).cells
    dsimp only at s3 s4 s5
    rw [hoff] at s5
    obtain ⟨P1, hP1⟩ : ∃ P, σ.op + 1 = P := ⟨_, rfl⟩
    rw [hP1] at hop1 s4 HW HC1
    have HP1 := hide hP1
    have HOF := hide hoff
    clear h hown hcar hpr c1 e1 hW1
    have hr1 : RK W1 c R (nb + 1) bb ⟨σ.sec, σ.cr, P1, σ.off, σ.ft, σ.A⟩ := unhide HC1
    have HREF := hide (fun W (k : Kept [] W1 W) => refused_any c (nb + 1) bb R ⟨σ.sec, σ.cr, P1, σ.off, σ.ft, σ.A⟩ P1 W (hr1.old k) (by omega))
    clear hr1
    go_enter Try.func69, Try.ntmps69
    go_upto_region 6 with (first | (rw [unhide HW]) | fail)
    go_wp2_with fail
    refine Calls.mono (unhide HW1 _ _ (unhide HC1) rfl) ?_
    rintro e w1 ⟨rfl, hw1⟩
    rw [hw1]
    clear hw1 w1
    go_upto_region 7 with fail
    by_cases hcr : P1 = σ.cr
    · have hcb : (P1 == σ.cr) = true := by simp [hcr]
      have HOPE := hide (by unfold opE; rw [hP1, if_pos hcr] : opE σ.ft σ.cr σ.op E0 = 12)
      have HTK := hide (by intro A; unfold tick; rw [hP1, decide_eq_true hcr] : ∀ A, tick σ A = ⟨σ.sec, σ.cr, P1, true, σ.ft, A⟩)
      have HCRR := hide hcr
      clear hcr hP1
      refine wp_region_quiet_lit (by kernel_rfl) (by kernel_rfl) ?_
      repeat (go_big_quiet_step (fail))
      refine wpQuiet_nil ?_
      rintro _ ⟨m5, rfl⟩
      have HK2 := hide ((Kept.refl [] W1).drewN m5)
      obtain ⟨W2, hW2⟩ : ∃ W, W1.drewN m5 = W := ⟨_, rfl⟩
      rw [hW2] at HK2 ⊢
      clear hW2
      have s5 := (unhide HK2).cell s5 (by simp)
      have HC2 := hide ((unhide HC1).old (unhide HK2))
      have HEV2 := hide ((unhide HE1).trans (⟨(unhide HK2).mono (by simp), fun x hx => .inl hx⟩ : Ev W1 W2 R R))
      have HPR2 := hide ((unhide HPR).keptZ (unhide HK2) (by simp))
      by_cases hE : E0 = 0
      · have hEb : ((E0 : Int) == 0) = true := by simp; omega
        by_cases hk : kd = 1 ∨ kd = 2
        · have HOA := hide (by unfold oA; rw [if_pos hE, unhide HP1, if_pos (unhide HCRR), if_pos hk] : oA σ kd E0 car ps = car ps)
          have HCAR := hide (unhide HCA hE W2 _ (.slice pa pl pc) ps (unhide HC2) rfl (unhide HPR2) (Nat.le_refl _))
          rcases hk with hk | hk
          case' inl =>
            have hk1 : ((kd : Int) == 1) = true := by simp; omega
            clear hk hE
            go_wp2_with fail
          case' inr =>
            have hk1 : ((kd : Int) == 1) = false := by simp; omega
            have hk2 : ((kd : Int) == 2) = true := by simp; omega
            clear hk hE
            go_wp2_with fail
          all_goals
            refine Calls.mono (unhide HCAR) ?_
            rintro e w3 ⟨rfl, R3, h3, ev3⟩
            obtain ⟨_, _, t5, _, y5⟩ := h3.cells
            have HG := hide h3.gone
            have HEV3 := hide ((unhide HEV2).trans ev3)
            clear h3 ev3 s5
            go_wp2_with fail
            go_ret
            exact ⟨by rw [unhide HOPE]; rfl, R3, by rw [unhide HTK, unhide HOA]; exact (unhide HG).1, (unhide HEV3).trans (unhide HG).2⟩
        · have HOA := hide (by unfold oA; rw [if_pos hE, unhide HP1, if_pos (unhide HCRR), if_neg hk] : oA σ kd E0 car ps = σ.A)
          have hk1 : ((kd : Int) == 1) = false := by simp; omega
          have hk2 : ((kd : Int) == 2) = false := by simp; omega
          obtain ⟨_, _, t5, _, y5⟩ := (unhide HC2).cells
          have HG := hide (unhide HC2).gone
          clear hk hE s5
          go_wp2_with fail
          go_ret
          exact ⟨by rw [unhide HOPE]; rfl, R, by rw [unhide HTK, unhide HOA]; exact (unhide HG).1.more (by omega) (by omega), (unhide HEV2).trans (unhide HG).2⟩
      · have hEb : ((E0 : Int) == 0) = false := by simp; omega
        have HOA := hide (by unfold oA; rw [if_neg hE] : oA σ kd E0 car ps = σ.A)
        obtain ⟨_, _, t5, _, y5⟩ := (unhide HC2).cells
        have HG := hide (unhide HC2).gone
        clear hE s5
        go_wp2_with fail
        go_ret
        exact ⟨by rw [unhide HOPE]; rfl, R, by rw [unhide HTK, unhide HOA]; exact (unhide HG).1.more (by omega) (by omega), (unhide HEV2).trans (unhide HG).2⟩
    · have hcb : (P1 == σ.cr) = false := by simp [hcr]
      have HTK := hide (by intro A; unfold tick; rw [hP1, decide_eq_false hcr, unhide HOF] : ∀ A, tick σ A = ⟨σ.sec, σ.cr, P1, σ.off, σ.ft, A⟩)
      have HCRR := hide hcr
      clear hcr hP1
      refine wp_region_quiet_lit (by kernel_rfl) (by kernel_rfl) ?_
      repeat (go_big_quiet_step (fail))
      refine wpQuiet_nil ?_
      rintro _ ⟨m5, rfl⟩
      have HK2 := hide ((Kept.refl [] W1).drewN m5)
      obtain ⟨W2, hW2⟩ : ∃ W, W1.drewN m5 = W := ⟨_, rfl⟩
      rw [hW2] at HK2 ⊢
      clear hW2
      have s5 := (unhide HK2).cell s5 (by simp)
      have HC2 := hide ((unhide HC1).old (unhide HK2))
      have HEV2 := hide ((unhide HE1).trans (⟨(unhide HK2).mono (by simp), fun x hx => .inl hx⟩ : Ev W1 W2 R R))
      have HPR2 := hide ((unhide HPR).keptZ (unhide HK2) (by simp))
      by_cases hE : E0 = 0
      · have hEb : ((E0 : Int) != 0) = false := by simp; omega
        obtain ⟨fo, hfo⟩ : ∃ fo, σ.ft P1 = fo := ⟨_, rfl⟩
        have HREF2 := hide (unhide HREF W2 (unhide HK2))
        try dsimp only at HREF2
        rw [hfo] at HREF2
        obtain ⟨_, u4, _, _, _⟩ := (unhide HC2).cells
        dsimp only at u4
        go_wp2_with fail
        refine Calls.mono (unhide HREF2) ?_
        rintro e w3 ⟨b3, rfl, k3⟩
        have HC3 := hide ((unhide HC2).old k3)
        have HEV3 := hide ((unhide HEV2).trans (⟨k3.mono (by simp), fun x hx => .inl hx⟩ : Ev W2 w3 R R))
        have HPR3 := hide ((unhide HPR2).keptZ k3 (by simp))
        clear k3 u4 s5
        cases fo with
        | none =>
          have HOPE := hide (by unfold opE; rw [unhide HP1, if_neg (unhide HCRR), if_neg (by simpa using hE), hfo]; rfl : opE σ.ft σ.cr σ.op E0 = 0)
          have HOA := hide (by unfold oA; rw [if_pos hE, unhide HP1, if_neg (unhide HCRR), hfo]; rfl : oA σ kd E0 car ps = car ps)
          have k4 := (Kept.refl [] w3).alloc (.cells #[.int .i64 b3, .int .i64 0] 104 (0, 0))
          have HCAR := hide (unhide HCA hE _ _ (.slice pa pl pc) ps ((unhide HC3).old k4) rfl ((unhide HPR3).keptZ k4 (by simp)) (Nat.le_refl _))
          have HEV4 := hide ((unhide HEV3).trans (⟨k4.mono (by simp), fun x hx => .inl hx⟩ : Ev w3 _ R R))
          simp only [Option.getD_none, Option.isSome_none]
          clear hE hfo k4
          go_wp2_with fail
          refine Calls.mono (unhide HCAR) ?_
          rintro e w5 ⟨rfl, R5, h5, ev5⟩
          have H5 := hide h5
          have HEV5 := hide ((unhide HEV4).trans ev5)
          clear h5 ev5
          go_wp2_with fail
          go_ret
          exact ⟨by rw [unhide HOPE]; rfl, R5, by rw [unhide HTK, unhide HOA]; exact unhide H5, unhide HEV5⟩
        | some kp =>
          have HOPE := hide (by unfold opE; rw [unhide HP1, if_neg (unhide HCRR), if_neg (by simpa using hE), hfo]; rfl : opE σ.ft σ.cr σ.op E0 = 7)
          simp only [Option.getD_some, Option.isSome_some]
          have k4 := (Kept.refl [] w3).alloc (.cells #[.int .i64 b3, .int .i64 kp] 104 (0, 0))
          have g4 := heap_alloc_new w3 (.cells #[.int .i64 b3, .int .i64 kp] 104 (0, 0))
          by_cases hk : kd = 2
          · have hk2 : ((kd : Int) == 2) = true := by simp; omega
            have HOA := hide (by unfold oA; rw [if_pos hE, unhide HP1, if_neg (unhide HCRR), hfo, if_pos (by rfl), if_pos hk]; rfl : oA σ kd E0 car ps = car (ps.take (wtn kp ps.length).toNat))
            have hq0 : 0 ≤ wtn kp ps.length ∧ wtn kp ps.length ≤ ps.length := by unfold wtn; omega
            obtain ⟨q, hq⟩ : ∃ q : Nat, wtn kp ps.length = q := ⟨(wtn kp ps.length).toNat, by omega⟩
            have HWI := hide (fun W => by have h9 := rwithin_any kp ps.length W (by omega); rw [hq] at h9; exact h9)
            rw [hq] at HOA
            have hqp : q ≤ pc := by omega
            have HCAR := hide (unhide HCA hE _ _ (.slice pa q pc) (ps.take q) ((unhide HC3).old k4) rfl (Rd.take0 (by rw [hpl]; exact (unhide HPR3).keptZ k4 (by simp)) (by omega)) (by rw [List.length_take]; omega))
            have HEV4 := hide ((unhide HEV3).trans (⟨k4.mono (by simp), fun x hx => .inl hx⟩ : Ev w3 _ R R))
            have f1 := cell_of_row _ _ 1 _ _ _ g4
            simp at f1
            have HPL := hide hpl
            rw [← hpl] at *
            clear hE hfo k4 g4 hk hq hq0
            go_wp2_with fail
            refine Calls.mono (unhide HWI _) ?_
            rintro e w5 ⟨rfl, hw5⟩
            rw [hw5]
            clear hw5 w5
            go_wp2_with fail
            refine Calls.mono (unhide HCAR) ?_
            rintro e w5 ⟨rfl, R5, h5, ev5⟩
            have H5 := hide h5
            have HEV5 := hide ((unhide HEV4).trans ev5)
            clear h5 ev5
            go_wp2_with fail
            go_ret
            exact ⟨by rw [unhide HOPE]; rfl, R5, by rw [unhide HTK, unhide HOA]; exact unhide H5, unhide HEV5⟩
          · have hk2 : ((kd : Int) == 2) = false := by simp; omega
            have HOA := hide (by unfold oA; rw [if_pos hE, unhide HP1, if_neg (unhide HCRR), hfo, if_pos (by rfl), if_neg hk] : oA σ kd E0 car ps = σ.A)
            have HC4 := hide ((unhide HC3).old k4)
            have HEV4 := hide ((unhide HEV3).trans (⟨k4.mono (by simp), fun x hx => .inl hx⟩ : Ev w3 _ R R))
            clear hE hfo k4 g4 hk
            go_wp2_with fail
            go_ret
            exact ⟨by rw [unhide HOPE]; rfl, R, by rw [unhide HTK, unhide HOA]; exact (unhide HC4).more (by omega) (by omega), unhide HEV4⟩
      · have hEb : ((E0 : Int) != 0) = true := by simp; omega
        have HOPE := hide (by unfold opE; rw [unhide HP1, if_neg (unhide HCRR), if_pos hE] : opE σ.ft σ.cr σ.op E0 = E0)
        have HOA := hide (by unfold oA; rw [if_neg hE] : oA σ kd E0 car ps = σ.A)
        clear hE s5
        go_wp2_with fail
        go_ret
        exact ⟨by rw [unhide HOPE]; rfl, R, by rw [unhide HTK, unhide HOA]; exact (unhide HC2).more (by omega) (by omega), unhide HEV2⟩
  · simp only [if_true]
    rw [hoff] at r5
    have H := hide (h.more (nb' := nb + 2) (bb' := bb + ps.length) (by omega) (by omega))
    clear h hown hcar hoff
    go_enter Try.func69, Try.ntmps69
    go_wp2_with fail
    go_ret
    exact ⟨rfl, R, unhide H, Ev.refl _ _⟩
end Go.Proofs.Ytlopdlcepmmjdaa
