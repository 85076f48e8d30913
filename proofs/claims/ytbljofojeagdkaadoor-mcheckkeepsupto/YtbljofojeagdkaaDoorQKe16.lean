/-
  Laws for drawn regions, by genreg.py. No program.
-/
import Derived.Test.YtbljofojeagdkaaDoorRowz
import Derived.Deep.RegionHeld3
namespace Go.Proofs.YtbljofojeagdkaaDoor
open Go Go.RowKit Go.BigFrame
set_option linter.unusedVariables false
set_option linter.unusedSimpArgs false
section
variable {P : Program} {Q : Exit → Act → World → Prop}
theorem wp_ke16 {id : Nat} {o0 o1 o2 o3 o4 o5 o6 o7 o8 o9 o10 o11 o12 o13 o14 o15 : Oper} {a : Act} {w : World} (hm : P.follows .mixedOrders = true) (hs : Region.noSelect #[o0, o1, o2, o3, o4, o5, o6, o7, o8, o9, o10, o11, o12, o13, o14, o15] = true)
    (f0 : Region.free .any #[o0, o1, o2, o3, o4, o5, o6, o7, o8, o9, o10, o11, o12, o13, o14, o15] #[false, false, false, false, false, false, false, false, false, false, false, false, false, false, false, false] 0 = true) (r0 : (Region.ready .any #[o0, o1, o2, o3, o4, o5, o6, o7, o8, o9, o10, o11, o12, o13, o14, o15] #[false, false, false, false, false, false, false, false, false, false, false, false, false, false, false, false]).contains 0 = true)
    (f1 : Region.free .any #[o0, o1, o2, o3, o4, o5, o6, o7, o8, o9, o10, o11, o12, o13, o14, o15] #[true, false, false, false, false, false, false, false, false, false, false, false, false, false, false, false] 1 = true) (r1 : (Region.ready .any #[o0, o1, o2, o3, o4, o5, o6, o7, o8, o9, o10, o11, o12, o13, o14, o15] #[true, false, false, false, false, false, false, false, false, false, false, false, false, false, false, false]).contains 1 = true)
    (f2 : Region.free .any #[o0, o1, o2, o3, o4, o5, o6, o7, o8, o9, o10, o11, o12, o13, o14, o15] #[true, true, false, false, false, false, false, false, false, false, false, false, false, false, false, false] 2 = true) (r2 : (Region.ready .any #[o0, o1, o2, o3, o4, o5, o6, o7, o8, o9, o10, o11, o12, o13, o14, o15] #[true, true, false, false, false, false, false, false, false, false, false, false, false, false, false, false]).contains 2 = true)
    (f3 : Region.free .any #[o0, o1, o2, o3, o4, o5, o6, o7, o8, o9, o10, o11, o12, o13, o14, o15] #[true, true, true, false, false, false, false, false, false, false, false, false, false, false, false, false] 3 = true) (r3 : (Region.ready .any #[o0, o1, o2, o3, o4, o5, o6, o7, o8, o9, o10, o11, o12, o13, o14, o15] #[true, true, true, false, false, false, false, false, false, false, false, false, false, false, false, false]).contains 3 = true)
    (f4 : Region.free .any #[o0, o1, o2, o3, o4, o5, o6, o7, o8, o9, o10, o11, o12, o13, o14, o15] #[true, true, true, true, false, false, false, false, false, false, false, false, false, false, false, false] 4 = true) (r4 : (Region.ready .any #[o0, o1, o2, o3, o4, o5, o6, o7, o8, o9, o10, o11, o12, o13, o14, o15] #[true, true, true, true, false, false, false, false, false, false, false, false, false, false, false, false]).contains 4 = true)
    (f5 : Region.free .any #[o0, o1, o2, o3, o4, o5, o6, o7, o8, o9, o10, o11, o12, o13, o14, o15] #[true, true, true, true, true, false, false, false, false, false, false, false, false, false, false, false] 5 = true) (r5 : (Region.ready .any #[o0, o1, o2, o3, o4, o5, o6, o7, o8, o9, o10, o11, o12, o13, o14, o15] #[true, true, true, true, true, false, false, false, false, false, false, false, false, false, false, false]).contains 5 = true)
    (f6 : Region.free .any #[o0, o1, o2, o3, o4, o5, o6, o7, o8, o9, o10, o11, o12, o13, o14, o15] #[true, true, true, true, true, true, false, false, false, false, false, false, false, false, false, false] 6 = true) (r6 : (Region.ready .any #[o0, o1, o2, o3, o4, o5, o6, o7, o8, o9, o10, o11, o12, o13, o14, o15] #[true, true, true, true, true, true, false, false, false, false, false, false, false, false, false, false]).contains 6 = true)
    (f7 : Region.free .any #[o0, o1, o2, o3, o4, o5, o6, o7, o8, o9, o10, o11, o12, o13, o14, o15] #[true, true, true, true, true, true, true, false, false, false, false, false, false, false, false, false] 7 = true) (r7 : (Region.ready .any #[o0, o1, o2, o3, o4, o5, o6, o7, o8, o9, o10, o11, o12, o13, o14, o15] #[true, true, true, true, true, true, true, false, false, false, false, false, false, false, false, false]).contains 7 = true)
    (f8 : Region.free .any #[o0, o1, o2, o3, o4, o5, o6, o7, o8, o9, o10, o11, o12, o13, o14, o15] #[true, true, true, true, true, true, true, true, false, false, false, false, false, false, false, false] 8 = true) (r8 : (Region.ready .any #[o0, o1, o2, o3, o4, o5, o6, o7, o8, o9, o10, o11, o12, o13, o14, o15] #[true, true, true, true, true, true, true, true, false, false, false, false, false, false, false, false]).contains 8 = true)
    (f9 : Region.free .any #[o0, o1, o2, o3, o4, o5, o6, o7, o8, o9, o10, o11, o12, o13, o14, o15] #[true, true, true, true, true, true, true, true, true, false, false, false, false, false, false, false] 9 = true) (r9 : (Region.ready .any #[o0, o1, o2, o3, o4, o5, o6, o7, o8, o9, o10, o11, o12, o13, o14, o15] #[true, true, true, true, true, true, true, true, true, false, false, false, false, false, false, false]).contains 9 = true)
    (f10 : Region.free .any #[o0, o1, o2, o3, o4, o5, o6, o7, o8, o9, o10, o11, o12, o13, o14, o15] #[true, true, true, true, true, true, true, true, true, true, false, false, false, false, false, false] 10 = true) (r10 : (Region.ready .any #[o0, o1, o2, o3, o4, o5, o6, o7, o8, o9, o10, o11, o12, o13, o14, o15] #[true, true, true, true, true, true, true, true, true, true, false, false, false, false, false, false]).contains 10 = true)
    (q_ : Region.ready .any #[o0, o1, o2, o3, o4, o5, o6, o7, o8, o9, o10, o11, o12, o13, o14, o15] #[true, true, true, true, true, true, true, true, true, true, true, false, false, false, false, false] = [11, 14])
    (f_11_12 : Region.free .any #[o0, o1, o2, o3, o4, o5, o6, o7, o8, o9, o10, o11, o12, o13, o14, o15] #[true, true, true, true, true, true, true, true, true, true, true, true, false, false, false, false] 12 = true) (r_11_12 : (Region.ready .any #[o0, o1, o2, o3, o4, o5, o6, o7, o8, o9, o10, o11, o12, o13, o14, o15] #[true, true, true, true, true, true, true, true, true, true, true, true, false, false, false, false]).contains 12 = true)
    (f_11_13 : Region.free .any #[o0, o1, o2, o3, o4, o5, o6, o7, o8, o9, o10, o11, o12, o13, o14, o15] #[true, true, true, true, true, true, true, true, true, true, true, true, true, false, false, false] 13 = true) (r_11_13 : (Region.ready .any #[o0, o1, o2, o3, o4, o5, o6, o7, o8, o9, o10, o11, o12, o13, o14, o15] #[true, true, true, true, true, true, true, true, true, true, true, true, true, false, false, false]).contains 13 = true)
    (q11_ : Region.ready .any #[o0, o1, o2, o3, o4, o5, o6, o7, o8, o9, o10, o11, o12, o13, o14, o15] #[true, true, true, true, true, true, true, true, true, true, true, true, true, true, false, false] = [14])
    (q14_ : Region.ready .any #[o0, o1, o2, o3, o4, o5, o6, o7, o8, o9, o10, o11, o12, o13, o14, o15] #[true, true, true, true, true, true, true, true, true, true, true, false, false, false, true, false] = [11])
    (f14_11_12 : Region.free .any #[o0, o1, o2, o3, o4, o5, o6, o7, o8, o9, o10, o11, o12, o13, o14, o15] #[true, true, true, true, true, true, true, true, true, true, true, true, false, false, true, false] 12 = true) (r14_11_12 : (Region.ready .any #[o0, o1, o2, o3, o4, o5, o6, o7, o8, o9, o10, o11, o12, o13, o14, o15] #[true, true, true, true, true, true, true, true, true, true, true, true, false, false, true, false]).contains 12 = true)
    (f14_11_13 : Region.free .any #[o0, o1, o2, o3, o4, o5, o6, o7, o8, o9, o10, o11, o12, o13, o14, o15] #[true, true, true, true, true, true, true, true, true, true, true, true, true, false, true, false] 13 = true) (r14_11_13 : (Region.ready .any #[o0, o1, o2, o3, o4, o5, o6, o7, o8, o9, o10, o11, o12, o13, o14, o15] #[true, true, true, true, true, true, true, true, true, true, true, true, true, false, true, false]).contains 13 = true)
    (q11_14_ : Region.ready .any #[o0, o1, o2, o3, o4, o5, o6, o7, o8, o9, o10, o11, o12, o13, o14, o15] #[true, true, true, true, true, true, true, true, true, true, true, true, true, true, true, false] = [15])
    (q11_14_15_ : Region.ready .any #[o0, o1, o2, o3, o4, o5, o6, o7, o8, o9, o10, o11, o12, o13, o14, o15] #[true, true, true, true, true, true, true, true, true, true, true, true, true, true, true, true] = [])
    (g11 : o11.guard = none)    (g14 : o14.guard = none)    (g15 : o15.guard = none)
    (ne14_11 : ∀ d, o14.dst = some d → o11.dst ≠ some d)
    (ne14_12 : ∀ d, o14.dst = some d → o12.dst ≠ some d)
    (ne14_13 : ∀ d, o14.dst = some d → o13.dst ≠ some d)
    (v0 v1 v2 v3 v4 v5 v6 v7 v8 v9 v10 : Value) (A0 A1 A2 A3 A4 A5 A6 A7 A8 A9 A10 : Act)
    (S : World → Prop)
    (I_ : World → Prop)
    (I11_ : Value → World → Prop)
    (I14_ : Value → World → Prop)
    (I11_14_ : Value → Value → World → Prop)
    (I11_14_15_ : Value → Value → Value → World → Prop)
    (v12 : Value → Value)
    (v13 : Value → Value)
    (p0 : a.put o0.dst v0 = A0) (hy0 : YieldsIf P #[o0, o1, o2, o3, o4, o5, o6, o7, o8, o9, o10, o11, o12, o13, o14, o15] S o0 v0 a)
    (p1 : A0.put o1.dst v1 = A1) (hy1 : YieldsIf P #[o0, o1, o2, o3, o4, o5, o6, o7, o8, o9, o10, o11, o12, o13, o14, o15] S o1 v1 A0)
    (p2 : A1.put o2.dst v2 = A2) (hy2 : YieldsIf P #[o0, o1, o2, o3, o4, o5, o6, o7, o8, o9, o10, o11, o12, o13, o14, o15] S o2 v2 A1)
    (p3 : A2.put o3.dst v3 = A3) (hy3 : YieldsIf P #[o0, o1, o2, o3, o4, o5, o6, o7, o8, o9, o10, o11, o12, o13, o14, o15] S o3 v3 A2)
    (p4 : A3.put o4.dst v4 = A4) (hy4 : YieldsIf P #[o0, o1, o2, o3, o4, o5, o6, o7, o8, o9, o10, o11, o12, o13, o14, o15] S o4 v4 A3)
    (p5 : A4.put o5.dst v5 = A5) (hy5 : YieldsIf P #[o0, o1, o2, o3, o4, o5, o6, o7, o8, o9, o10, o11, o12, o13, o14, o15] S o5 v5 A4)
    (p6 : A5.put o6.dst v6 = A6) (hy6 : YieldsIf P #[o0, o1, o2, o3, o4, o5, o6, o7, o8, o9, o10, o11, o12, o13, o14, o15] S o6 v6 A5)
    (p7 : A6.put o7.dst v7 = A7) (hy7 : YieldsIf P #[o0, o1, o2, o3, o4, o5, o6, o7, o8, o9, o10, o11, o12, o13, o14, o15] S o7 v7 A6)
    (p8 : A7.put o8.dst v8 = A8) (hy8 : YieldsIf P #[o0, o1, o2, o3, o4, o5, o6, o7, o8, o9, o10, o11, o12, o13, o14, o15] S o8 v8 A7)
    (p9 : A8.put o9.dst v9 = A9) (hy9 : YieldsIf P #[o0, o1, o2, o3, o4, o5, o6, o7, o8, o9, o10, o11, o12, o13, o14, o15] S o9 v9 A8)
    (p10 : A9.put o10.dst v10 = A10) (hy10 : YieldsIf P #[o0, o1, o2, o3, o4, o5, o6, o7, o8, o9, o10, o11, o12, o13, o14, o15] S o10 v10 A9)
    (i0 : I_ w.drew)
    (hIS : (∀ w', I_  w' → S w') ∧ (∀ (u11 : Value) w', I11_ u11 w' → S w') ∧ (∀ (u14 : Value) w', I14_ u14 w' → S w') ∧ (∀ (u11 u14 : Value) w', I11_14_ u11 u14 w' → S w') ∧ (∀ (u11 u14 u15 : Value) w', I11_14_15_ u11 u14 u15 w' → S w'))
    (s_11 : ∀ w', I_  w' → ∀ K : Act → World → Prop, (∀ (u11 : Value) w2, I11_ u11 w2 → K (A10.put o11.dst u11) w2) → o11.wp P A10 w' K (NoPanic Q))
    (s_14 : ∀ w', I_  w' → ∀ K : Act → World → Prop, (∀ (u14 : Value) w2, I14_ u14 w2 → K (A10.put o14.dst u14) w2) → o14.wp P A10 w' K (NoPanic Q))
    (s11_14 : ∀ (u11 : Value) w', I11_ u11 w' → ∀ K : Act → World → Prop, (∀ (u14 : Value) w2, I11_14_ u11 u14 w2 → K ((((A10.put o11.dst u11).put o12.dst (v12 u11)).put o13.dst (v13 u11)).put o14.dst u14) w2) → o14.wp P (((A10.put o11.dst u11).put o12.dst (v12 u11)).put o13.dst (v13 u11)) w' K (NoPanic Q))
    (s14_11 : ∀ (u14 : Value) w', I14_ u14 w' → ∀ K : Act → World → Prop, (∀ (u11 : Value) w2, I11_14_ u11 u14 w2 → K ((A10.put o14.dst u14).put o11.dst u11) w2) → o11.wp P (A10.put o14.dst u14) w' K (NoPanic Q))
    (s11_14_15 : ∀ (u11 u14 : Value) w', I11_14_ u11 u14 w' → ∀ K : Act → World → Prop, (∀ (u15 : Value) w2, I11_14_15_ u11 u14 u15 w2 → K (((((A10.put o11.dst u11).put o12.dst (v12 u11)).put o13.dst (v13 u11)).put o14.dst u14).put o15.dst u15) w2) → o15.wp P ((((A10.put o11.dst u11).put o12.dst (v12 u11)).put o13.dst (v13 u11)).put o14.dst u14) w' K (NoPanic Q))
    (y_11_12 : ∀ (u11 : Value) w', I11_ u11 w' → YieldsIf P #[o0, o1, o2, o3, o4, o5, o6, o7, o8, o9, o10, o11, o12, o13, o14, o15] S o12 (v12 u11) (A10.put o11.dst u11))
    (y_11_13 : ∀ (u11 : Value) w', I11_ u11 w' → YieldsIf P #[o0, o1, o2, o3, o4, o5, o6, o7, o8, o9, o10, o11, o12, o13, o14, o15] S o13 (v13 u11) ((A10.put o11.dst u11).put o12.dst (v12 u11)))
    (y14_11_12 : ∀ (u11 u14 : Value) w', I11_14_ u11 u14 w' → YieldsIf P #[o0, o1, o2, o3, o4, o5, o6, o7, o8, o9, o10, o11, o12, o13, o14, o15] S o12 (v12 u11) ((A10.put o11.dst u11).put o14.dst u14))
    (y14_11_13 : ∀ (u11 u14 : Value) w', I11_14_ u11 u14 w' → YieldsIf P #[o0, o1, o2, o3, o4, o5, o6, o7, o8, o9, o10, o11, o12, o13, o14, o15] S o13 (v13 u11) (((A10.put o11.dst u11).put o12.dst (v12 u11)).put o14.dst u14))
    (h : ∀ (u11 u14 u15 : Value) w', I11_14_15_ u11 u14 u15 w' → Q .normal (((((A10.put o11.dst u11).put o12.dst (v12 u11)).put o13.dst (v13 u11)).put o14.dst u14).put o15.dst u15) w') :
    (Code.region id #[o0, o1, o2, o3, o4, o5, o6, o7, o8, o9, o10, o11, o12, o13, o14, o15] true).wp P Q a w := by
  subst p0 p1 p2 p3 p4 p5 p6 p7 p8 p9 p10
  obtain ⟨z_, z11_, z14_, z11_14_, z11_14_15_⟩ := hIS
  refine wp_region_noPanic ?_
  refine wp_region_held_drew (S := S) hm (z_ _ i0) (fun hH => ?_)
  show wpAnyH P .any #[o0, o1, o2, o3, o4, o5, o6, o7, o8, o9, o10, o11, o12, o13, o14, o15] (NoPanic Q) S 16 #[false, false, false, false, false, false, false, false, false, false, false, false, false, false, false, false] a w.drew
  refine wpAnyH_take (i := 0) (oi := o0) rfl hs f0 r0 (fun _ _ _ h => h) hy0 hH ?_
  refine wpAnyH_take (i := 1) (oi := o1) rfl hs f1 r1 (fun _ _ _ h => h) hy1 hH ?_
  refine wpAnyH_take (i := 2) (oi := o2) rfl hs f2 r2 (fun _ _ _ h => h) hy2 hH ?_
  refine wpAnyH_take (i := 3) (oi := o3) rfl hs f3 r3 (fun _ _ _ h => h) hy3 hH ?_
  refine wpAnyH_take (i := 4) (oi := o4) rfl hs f4 r4 (fun _ _ _ h => h) hy4 hH ?_
  refine wpAnyH_take (i := 5) (oi := o5) rfl hs f5 r5 (fun _ _ _ h => h) hy5 hH ?_
  refine wpAnyH_take (i := 6) (oi := o6) rfl hs f6 r6 (fun _ _ _ h => h) hy6 hH ?_
  refine wpAnyH_take (i := 7) (oi := o7) rfl hs f7 r7 (fun _ _ _ h => h) hy7 hH ?_
  refine wpAnyH_take (i := 8) (oi := o8) rfl hs f8 r8 (fun _ _ _ h => h) hy8 hH ?_
  refine wpAnyH_take (i := 9) (oi := o9) rfl hs f9 r9 (fun _ _ _ h => h) hy9 hH ?_
  refine wpAnyH_take (i := 10) (oi := o10) rfl hs f10 r10 (fun _ _ _ h => h) hy10 hH ?_
  generalize (((((((((((a.put o0.dst v0).put o1.dst v1).put o2.dst v2).put o3.dst v3).put o4.dst v4).put o5.dst v5).put o6.dst v6).put o7.dst v7).put o8.dst v8).put o9.dst v9).put o10.dst v10) = B at *
  have wa11 : ∀ y, Region.wanted o11 y = true := fun y => by unfold Region.wanted; rw [g11]
  have wa14 : ∀ y, Region.wanted o14 y = true := fun y => by unfold Region.wanted; rw [g14]
  have wa15 : ∀ y, Region.wanted o15 y = true := fun y => by unfold Region.wanted; rw [g15]
  have t11_14_15_ : ∀ (u11 u14 u15 : Value) w', I11_14_15_ u11 u14 u15 w' → wpAnyH P .any #[o0, o1, o2, o3, o4, o5, o6, o7, o8, o9, o10, o11, o12, o13, o14, o15] (NoPanic Q) S 0 #[true, true, true, true, true, true, true, true, true, true, true, true, true, true, true, true] (((((B.put o11.dst u11).put o12.dst (v12 u11)).put o13.dst (v13 u11)).put o14.dst u14).put o15.dst u15) w' := by
    intro u11 u14 u15 w0 i0
    exact ⟨q11_14_15_, NoPanic.normal (h u11 u14 u15 w0 i0)⟩
  have t11_14_ : ∀ (u11 u14 : Value) w', I11_14_ u11 u14 w' → wpAnyH P .any #[o0, o1, o2, o3, o4, o5, o6, o7, o8, o9, o10, o11, o12, o13, o14, o15] (NoPanic Q) S 1 #[true, true, true, true, true, true, true, true, true, true, true, true, true, true, true, false] ((((B.put o11.dst u11).put o12.dst (v12 u11)).put o13.dst (v13 u11)).put o14.dst u14) w' := by
    intro u11 u14 w0 i0
    refine wpAnyH_ready (rs := [15]) q11_14_ (by simp) (AllReadyH.cons (o := o15) rfl (fun K hK => ?_) AllReadyH.nil)
    · rw [if_pos (wa15 _)]
      refine s11_14_15 u11 u14 w0 i0 K (fun u15 w1 i1 => hK.out _ _ (z11_14_15_ u11 u14 u15 w1 i1) (fun _ => ?_))
      clear hK
      exact t11_14_15_ u11 u14 u15 w1 i1
  have t14_ : ∀ (u14 : Value) w', I14_ u14 w' → wpAnyH P .any #[o0, o1, o2, o3, o4, o5, o6, o7, o8, o9, o10, o11, o12, o13, o14, o15] (NoPanic Q) S 4 #[true, true, true, true, true, true, true, true, true, true, true, false, false, false, true, false] (B.put o14.dst u14) w' := by
    intro u14 w0 i0
    refine wpAnyH_ready (rs := [11]) q14_ (by simp) (AllReadyH.cons (o := o11) rfl (fun K hK => ?_) AllReadyH.nil)
    · rw [if_pos (wa11 _)]
      refine s14_11 u14 w0 i0 K (fun u11 w1 i1 => hK.out _ _ (z11_14_ u11 u14 w1 i1) (fun _ => ?_))
      clear hK
      rw [Act.put_comm _ _ _ ne14_11]
      refine wpAnyH_take (i := 12) (oi := o12) rfl hs f14_11_12 r14_11_12 (fun _ _ _ h => h) (y14_11_12 u11 u14 w1 i1) (z11_14_ u11 u14 w1 i1) ?_
      rw [Act.put_comm _ _ _ ne14_12]
      refine wpAnyH_take (i := 13) (oi := o13) rfl hs f14_11_13 r14_11_13 (fun _ _ _ h => h) (y14_11_13 u11 u14 w1 i1) (z11_14_ u11 u14 w1 i1) ?_
      rw [Act.put_comm _ _ _ ne14_13]
      exact t11_14_ u11 u14 w1 i1
  have t11_ : ∀ (u11 : Value) w', I11_ u11 w' → wpAnyH P .any #[o0, o1, o2, o3, o4, o5, o6, o7, o8, o9, o10, o11, o12, o13, o14, o15] (NoPanic Q) S 2 #[true, true, true, true, true, true, true, true, true, true, true, true, true, true, false, false] (((B.put o11.dst u11).put o12.dst (v12 u11)).put o13.dst (v13 u11)) w' := by
    intro u11 w0 i0
    refine wpAnyH_ready (rs := [14]) q11_ (by simp) (AllReadyH.cons (o := o14) rfl (fun K hK => ?_) AllReadyH.nil)
    · rw [if_pos (wa14 _)]
      refine s11_14 u11 w0 i0 K (fun u14 w1 i1 => hK.out _ _ (z11_14_ u11 u14 w1 i1) (fun _ => ?_))
      clear hK
      exact t11_14_ u11 u14 w1 i1
  have t_ : ∀ w', I_  w' → wpAnyH P .any #[o0, o1, o2, o3, o4, o5, o6, o7, o8, o9, o10, o11, o12, o13, o14, o15] (NoPanic Q) S 5 #[true, true, true, true, true, true, true, true, true, true, true, false, false, false, false, false] B w' := by
    intro w0 i0
    refine wpAnyH_ready (rs := [11, 14]) q_ (by simp) (AllReadyH.cons (o := o11) rfl (fun K hK => ?_) (AllReadyH.cons (o := o14) rfl (fun K hK => ?_) AllReadyH.nil))
    · rw [if_pos (wa11 _)]
      refine s_11  w0 i0 K (fun u11 w1 i1 => hK.out _ _ (z11_ u11 w1 i1) (fun _ => ?_))
      clear hK
      refine wpAnyH_take (i := 12) (oi := o12) rfl hs f_11_12 r_11_12 (fun _ _ _ h => h) (y_11_12 u11 w1 i1) (z11_ u11 w1 i1) ?_
      refine wpAnyH_take (i := 13) (oi := o13) rfl hs f_11_13 r_11_13 (fun _ _ _ h => h) (y_11_13 u11 w1 i1) (z11_ u11 w1 i1) ?_
      exact t11_ u11 w1 i1
    · rw [if_pos (wa14 _)]
      refine s_14  w0 i0 K (fun u14 w1 i1 => hK.out _ _ (z14_ u14 w1 i1) (fun _ => ?_))
      clear hK
      exact t14_ u14 w1 i1
  exact t_ w.drew i0

end
end Go.Proofs.YtbljofojeagdkaaDoor
