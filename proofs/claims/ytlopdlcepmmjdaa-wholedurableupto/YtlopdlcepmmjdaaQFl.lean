/-
  Laws for drawn regions, by genreg.py. No program.
-/
import Derived.Test.YtlopdlcepmmjdaaRowz
import Derived.Deep.RegionHeld3
namespace Go.Proofs.Ytlopdlcepmmjdaa
open Go Go.RowKit Go.BigFrame
set_option linter.unusedVariables false
set_option linter.unusedSimpArgs false
section
variable {P : Program} {Q : Exit → Act → World → Prop}
theorem wp_fl19 {id : Nat} {o0 o1 o2 o3 o4 o5 o6 o7 o8 o9 o10 o11 o12 o13 o14 o15 o16 o17 o18 : Oper} {a : Act} {w : World} (hm : P.follows .mixedOrders = true) (hs : Region.noSelect #[o0, o1, o2, o3, o4, o5, o6, o7, o8, o9, o10, o11, o12, o13, o14, o15, o16, o17, o18] = true)
    (f0 : Region.free .any #[o0, o1, o2, o3, o4, o5, o6, o7, o8, o9, o10, o11, o12, o13, o14, o15, o16, o17, o18] #[false, false, false, false, false, false, false, false, false, false, false, false, false, false, false, false, false, false, false] 0 = true) (r0 : (Region.ready .any #[o0, o1, o2, o3, o4, o5, o6, o7, o8, o9, o10, o11, o12, o13, o14, o15, o16, o17, o18] #[false, false, false, false, false, false, false, false, false, false, false, false, false, false, false, false, false, false, false]).contains 0 = true)
    (f1 : Region.free .any #[o0, o1, o2, o3, o4, o5, o6, o7, o8, o9, o10, o11, o12, o13, o14, o15, o16, o17, o18] #[true, false, false, false, false, false, false, false, false, false, false, false, false, false, false, false, false, false, false] 1 = true) (r1 : (Region.ready .any #[o0, o1, o2, o3, o4, o5, o6, o7, o8, o9, o10, o11, o12, o13, o14, o15, o16, o17, o18] #[true, false, false, false, false, false, false, false, false, false, false, false, false, false, false, false, false, false, false]).contains 1 = true)
    (f2 : Region.free .any #[o0, o1, o2, o3, o4, o5, o6, o7, o8, o9, o10, o11, o12, o13, o14, o15, o16, o17, o18] #[true, true, false, false, false, false, false, false, false, false, false, false, false, false, false, false, false, false, false] 2 = true) (r2 : (Region.ready .any #[o0, o1, o2, o3, o4, o5, o6, o7, o8, o9, o10, o11, o12, o13, o14, o15, o16, o17, o18] #[true, true, false, false, false, false, false, false, false, false, false, false, false, false, false, false, false, false, false]).contains 2 = true)
    (f3 : Region.free .any #[o0, o1, o2, o3, o4, o5, o6, o7, o8, o9, o10, o11, o12, o13, o14, o15, o16, o17, o18] #[true, true, true, false, false, false, false, false, false, false, false, false, false, false, false, false, false, false, false] 3 = true) (r3 : (Region.ready .any #[o0, o1, o2, o3, o4, o5, o6, o7, o8, o9, o10, o11, o12, o13, o14, o15, o16, o17, o18] #[true, true, true, false, false, false, false, false, false, false, false, false, false, false, false, false, false, false, false]).contains 3 = true)
    (f4 : Region.free .any #[o0, o1, o2, o3, o4, o5, o6, o7, o8, o9, o10, o11, o12, o13, o14, o15, o16, o17, o18] #[true, true, true, true, false, false, false, false, false, false, false, false, false, false, false, false, false, false, false] 4 = true) (r4 : (Region.ready .any #[o0, o1, o2, o3, o4, o5, o6, o7, o8, o9, o10, o11, o12, o13, o14, o15, o16, o17, o18] #[true, true, true, true, false, false, false, false, false, false, false, false, false, false, false, false, false, false, false]).contains 4 = true)
    (f5 : Region.free .any #[o0, o1, o2, o3, o4, o5, o6, o7, o8, o9, o10, o11, o12, o13, o14, o15, o16, o17, o18] #[true, true, true, true, true, false, false, false, false, false, false, false, false, false, false, false, false, false, false] 5 = true) (r5 : (Region.ready .any #[o0, o1, o2, o3, o4, o5, o6, o7, o8, o9, o10, o11, o12, o13, o14, o15, o16, o17, o18] #[true, true, true, true, true, false, false, false, false, false, false, false, false, false, false, false, false, false, false]).contains 5 = true)
    (f7 : Region.free .any #[o0, o1, o2, o3, o4, o5, o6, o7, o8, o9, o10, o11, o12, o13, o14, o15, o16, o17, o18] #[true, true, true, true, true, true, false, false, false, false, false, false, false, false, false, false, false, false, false] 7 = true) (r7 : (Region.ready .any #[o0, o1, o2, o3, o4, o5, o6, o7, o8, o9, o10, o11, o12, o13, o14, o15, o16, o17, o18] #[true, true, true, true, true, true, false, false, false, false, false, false, false, false, false, false, false, false, false]).contains 7 = true)
    (f8 : Region.free .any #[o0, o1, o2, o3, o4, o5, o6, o7, o8, o9, o10, o11, o12, o13, o14, o15, o16, o17, o18] #[true, true, true, true, true, true, false, true, false, false, false, false, false, false, false, false, false, false, false] 8 = true) (r8 : (Region.ready .any #[o0, o1, o2, o3, o4, o5, o6, o7, o8, o9, o10, o11, o12, o13, o14, o15, o16, o17, o18] #[true, true, true, true, true, true, false, true, false, false, false, false, false, false, false, false, false, false, false]).contains 8 = true)
    (f9 : Region.free .any #[o0, o1, o2, o3, o4, o5, o6, o7, o8, o9, o10, o11, o12, o13, o14, o15, o16, o17, o18] #[true, true, true, true, true, true, false, true, true, false, false, false, false, false, false, false, false, false, false] 9 = true) (r9 : (Region.ready .any #[o0, o1, o2, o3, o4, o5, o6, o7, o8, o9, o10, o11, o12, o13, o14, o15, o16, o17, o18] #[true, true, true, true, true, true, false, true, true, false, false, false, false, false, false, false, false, false, false]).contains 9 = true)
    (f10 : Region.free .any #[o0, o1, o2, o3, o4, o5, o6, o7, o8, o9, o10, o11, o12, o13, o14, o15, o16, o17, o18] #[true, true, true, true, true, true, false, true, true, true, false, false, false, false, false, false, false, false, false] 10 = true) (r10 : (Region.ready .any #[o0, o1, o2, o3, o4, o5, o6, o7, o8, o9, o10, o11, o12, o13, o14, o15, o16, o17, o18] #[true, true, true, true, true, true, false, true, true, true, false, false, false, false, false, false, false, false, false]).contains 10 = true)
    (f11 : Region.free .any #[o0, o1, o2, o3, o4, o5, o6, o7, o8, o9, o10, o11, o12, o13, o14, o15, o16, o17, o18] #[true, true, true, true, true, true, false, true, true, true, true, false, false, false, false, false, false, false, false] 11 = true) (r11 : (Region.ready .any #[o0, o1, o2, o3, o4, o5, o6, o7, o8, o9, o10, o11, o12, o13, o14, o15, o16, o17, o18] #[true, true, true, true, true, true, false, true, true, true, true, false, false, false, false, false, false, false, false]).contains 11 = true)
    (f12 : Region.free .any #[o0, o1, o2, o3, o4, o5, o6, o7, o8, o9, o10, o11, o12, o13, o14, o15, o16, o17, o18] #[true, true, true, true, true, true, false, true, true, true, true, true, false, false, false, false, false, false, false] 12 = true) (r12 : (Region.ready .any #[o0, o1, o2, o3, o4, o5, o6, o7, o8, o9, o10, o11, o12, o13, o14, o15, o16, o17, o18] #[true, true, true, true, true, true, false, true, true, true, true, true, false, false, false, false, false, false, false]).contains 12 = true)
    (f13 : Region.free .any #[o0, o1, o2, o3, o4, o5, o6, o7, o8, o9, o10, o11, o12, o13, o14, o15, o16, o17, o18] #[true, true, true, true, true, true, false, true, true, true, true, true, true, false, false, false, false, false, false] 13 = true) (r13 : (Region.ready .any #[o0, o1, o2, o3, o4, o5, o6, o7, o8, o9, o10, o11, o12, o13, o14, o15, o16, o17, o18] #[true, true, true, true, true, true, false, true, true, true, true, true, true, false, false, false, false, false, false]).contains 13 = true)
    (f14 : Region.free .any #[o0, o1, o2, o3, o4, o5, o6, o7, o8, o9, o10, o11, o12, o13, o14, o15, o16, o17, o18] #[true, true, true, true, true, true, false, true, true, true, true, true, true, true, false, false, false, false, false] 14 = true) (r14 : (Region.ready .any #[o0, o1, o2, o3, o4, o5, o6, o7, o8, o9, o10, o11, o12, o13, o14, o15, o16, o17, o18] #[true, true, true, true, true, true, false, true, true, true, true, true, true, true, false, false, false, false, false]).contains 14 = true)
    (q_ : Region.ready .any #[o0, o1, o2, o3, o4, o5, o6, o7, o8, o9, o10, o11, o12, o13, o14, o15, o16, o17, o18] #[true, true, true, true, true, true, false, true, true, true, true, true, true, true, true, false, false, false, false] = [6])
    (f_6_15 : Region.free .any #[o0, o1, o2, o3, o4, o5, o6, o7, o8, o9, o10, o11, o12, o13, o14, o15, o16, o17, o18] #[true, true, true, true, true, true, true, true, true, true, true, true, true, true, true, false, false, false, false] 15 = true) (r_6_15 : (Region.ready .any #[o0, o1, o2, o3, o4, o5, o6, o7, o8, o9, o10, o11, o12, o13, o14, o15, o16, o17, o18] #[true, true, true, true, true, true, true, true, true, true, true, true, true, true, true, false, false, false, false]).contains 15 = true)
    (q6_ : Region.ready .any #[o0, o1, o2, o3, o4, o5, o6, o7, o8, o9, o10, o11, o12, o13, o14, o15, o16, o17, o18] #[true, true, true, true, true, true, true, true, true, true, true, true, true, true, true, true, false, false, false] = [16])
    (q6_16_ : Region.ready .any #[o0, o1, o2, o3, o4, o5, o6, o7, o8, o9, o10, o11, o12, o13, o14, o15, o16, o17, o18] #[true, true, true, true, true, true, true, true, true, true, true, true, true, true, true, true, true, false, false] = [17])
    (f6_16_17_18 : Region.free .any #[o0, o1, o2, o3, o4, o5, o6, o7, o8, o9, o10, o11, o12, o13, o14, o15, o16, o17, o18] #[true, true, true, true, true, true, true, true, true, true, true, true, true, true, true, true, true, true, false] 18 = true) (r6_16_17_18 : (Region.ready .any #[o0, o1, o2, o3, o4, o5, o6, o7, o8, o9, o10, o11, o12, o13, o14, o15, o16, o17, o18] #[true, true, true, true, true, true, true, true, true, true, true, true, true, true, true, true, true, true, false]).contains 18 = true)
    (q6_16_17_ : Region.ready .any #[o0, o1, o2, o3, o4, o5, o6, o7, o8, o9, o10, o11, o12, o13, o14, o15, o16, o17, o18] #[true, true, true, true, true, true, true, true, true, true, true, true, true, true, true, true, true, true, true] = [])
    (g6 : o6.guard = none)    (g16 : o16.guard = none)    (g17 : o17.guard = none)
    (v0 v1 v2 v3 v4 v5 v7 v8 v9 v10 v11 v12 v13 v14 : Value) (A0 A1 A2 A3 A4 A5 A6 A7 A8 A9 A10 A11 A12 A13 : Act)
    (S : World → Prop)
    (I_ : World → Prop)
    (I6_ : Value → World → Prop)
    (I6_16_ : Value → Value → World → Prop)
    (I6_16_17_ : Value → Value → Value → World → Prop)
    (v15 : Value → Value)
    (v18 : Value → Value → Value → Value)
    (p0 : a.put o0.dst v0 = A0) (hy0 : YieldsIf P #[o0, o1, o2, o3, o4, o5, o6, o7, o8, o9, o10, o11, o12, o13, o14, o15, o16, o17, o18] S o0 v0 a)
    (p1 : A0.put o1.dst v1 = A1) (hy1 : YieldsIf P #[o0, o1, o2, o3, o4, o5, o6, o7, o8, o9, o10, o11, o12, o13, o14, o15, o16, o17, o18] S o1 v1 A0)
    (p2 : A1.put o2.dst v2 = A2) (hy2 : YieldsIf P #[o0, o1, o2, o3, o4, o5, o6, o7, o8, o9, o10, o11, o12, o13, o14, o15, o16, o17, o18] S o2 v2 A1)
    (p3 : A2.put o3.dst v3 = A3) (hy3 : YieldsIf P #[o0, o1, o2, o3, o4, o5, o6, o7, o8, o9, o10, o11, o12, o13, o14, o15, o16, o17, o18] S o3 v3 A2)
    (p4 : A3.put o4.dst v4 = A4) (hy4 : YieldsIf P #[o0, o1, o2, o3, o4, o5, o6, o7, o8, o9, o10, o11, o12, o13, o14, o15, o16, o17, o18] S o4 v4 A3)
    (p5 : A4.put o5.dst v5 = A5) (hy5 : YieldsIf P #[o0, o1, o2, o3, o4, o5, o6, o7, o8, o9, o10, o11, o12, o13, o14, o15, o16, o17, o18] S o5 v5 A4)
    (p7 : A5.put o7.dst v7 = A6) (hy7 : YieldsIf P #[o0, o1, o2, o3, o4, o5, o6, o7, o8, o9, o10, o11, o12, o13, o14, o15, o16, o17, o18] S o7 v7 A5)
    (p8 : A6.put o8.dst v8 = A7) (hy8 : YieldsIf P #[o0, o1, o2, o3, o4, o5, o6, o7, o8, o9, o10, o11, o12, o13, o14, o15, o16, o17, o18] S o8 v8 A6)
    (p9 : A7.put o9.dst v9 = A8) (hy9 : YieldsIf P #[o0, o1, o2, o3, o4, o5, o6, o7, o8, o9, o10, o11, o12, o13, o14, o15, o16, o17, o18] S o9 v9 A7)
    (p10 : A8.put o10.dst v10 = A9) (hy10 : YieldsIf P #[o0, o1, o2, o3, o4, o5, o6, o7, o8, o9, o10, o11, o12, o13, o14, o15, o16, o17, o18] S o10 v10 A8)
    (p11 : A9.put o11.dst v11 = A10) (hy11 : YieldsIf P #[o0, o1, o2, o3, o4, o5, o6, o7, o8, o9, o10, o11, o12, o13, o14, o15, o16, o17, o18] S o11 v11 A9)
    (p12 : A10.put o12.dst v12 = A11) (hy12 : YieldsIf P #[o0, o1, o2, o3, o4, o5, o6, o7, o8, o9, o10, o11, o12, o13, o14, o15, o16, o17, o18] S o12 v12 A10)
    (p13 : A11.put o13.dst v13 = A12) (hy13 : YieldsIf P #[o0, o1, o2, o3, o4, o5, o6, o7, o8, o9, o10, o11, o12, o13, o14, o15, o16, o17, o18] S o13 v13 A11)
    (p14 : A12.put o14.dst v14 = A13) (hy14 : YieldsIf P #[o0, o1, o2, o3, o4, o5, o6, o7, o8, o9, o10, o11, o12, o13, o14, o15, o16, o17, o18] S o14 v14 A12)
    (i0 : I_ w.drew)
    (hIS : (∀ w', I_  w' → S w') ∧ (∀ (u6 : Value) w', I6_ u6 w' → S w') ∧ (∀ (u6 u16 : Value) w', I6_16_ u6 u16 w' → S w') ∧ (∀ (u6 u16 u17 : Value) w', I6_16_17_ u6 u16 u17 w' → S w'))
    (s_6 : ∀ w', I_  w' → ∀ K : Act → World → Prop, (∀ (u6 : Value) w2, I6_ u6 w2 → K (A13.put o6.dst u6) w2) → o6.wp P A13 w' K (NoPanic Q))
    (s6_16 : ∀ (u6 : Value) w', I6_ u6 w' → ∀ K : Act → World → Prop, (∀ (u16 : Value) w2, I6_16_ u6 u16 w2 → K (((A13.put o6.dst u6).put o15.dst (v15 u6)).put o16.dst u16) w2) → o16.wp P ((A13.put o6.dst u6).put o15.dst (v15 u6)) w' K (NoPanic Q))
    (s6_16_17 : ∀ (u6 u16 : Value) w', I6_16_ u6 u16 w' → ∀ K : Act → World → Prop, (∀ (u17 : Value) w2, I6_16_17_ u6 u16 u17 w2 → K ((((A13.put o6.dst u6).put o15.dst (v15 u6)).put o16.dst u16).put o17.dst u17) w2) → o17.wp P (((A13.put o6.dst u6).put o15.dst (v15 u6)).put o16.dst u16) w' K (NoPanic Q))
    (y_6_15 : ∀ (u6 : Value) w', I6_ u6 w' → YieldsIf P #[o0, o1, o2, o3, o4, o5, o6, o7, o8, o9, o10, o11, o12, o13, o14, o15, o16, o17, o18] S o15 (v15 u6) (A13.put o6.dst u6))
    (y6_16_17_18 : ∀ (u6 u16 u17 : Value) w', I6_16_17_ u6 u16 u17 w' → YieldsIf P #[o0, o1, o2, o3, o4, o5, o6, o7, o8, o9, o10, o11, o12, o13, o14, o15, o16, o17, o18] S o18 (v18 u6 u16 u17) ((((A13.put o6.dst u6).put o15.dst (v15 u6)).put o16.dst u16).put o17.dst u17))
    (h : ∀ (u6 u16 u17 : Value) w', I6_16_17_ u6 u16 u17 w' → Q .normal (((((A13.put o6.dst u6).put o15.dst (v15 u6)).put o16.dst u16).put o17.dst u17).put o18.dst (v18 u6 u16 u17)) w') :
    (Code.region id #[o0, o1, o2, o3, o4, o5, o6, o7, o8, o9, o10, o11, o12, o13, o14, o15, o16, o17, o18] true).wp P Q a w := by
  subst p0 p1 p2 p3 p4 p5 p7 p8 p9 p10 p11 p12 p13 p14
  obtain ⟨z_, z6_, z6_16_, z6_16_17_⟩ := hIS
  refine wp_region_noPanic ?_
  refine wp_region_held_drew (S := S) hm (z_ _ i0) (fun hH => ?_)
  show wpAnyH P .any #[o0, o1, o2, o3, o4, o5, o6, o7, o8, o9, o10, o11, o12, o13, o14, o15, o16, o17, o18] (NoPanic Q) S 19 #[false, false, false, false, false, false, false, false, false, false, false, false, false, false, false, false, false, false, false] a w.drew
  refine wpAnyH_take (i := 0) (oi := o0) rfl hs f0 r0 (fun _ _ _ h => h) hy0 hH ?_
  refine wpAnyH_take (i := 1) (oi := o1) rfl hs f1 r1 (fun _ _ _ h => h) hy1 hH ?_
  refine wpAnyH_take (i := 2) (oi := o2) rfl hs f2 r2 (fun _ _ _ h => h) hy2 hH ?_
  refine wpAnyH_take (i := 3) (oi := o3) rfl hs f3 r3 (fun _ _ _ h => h) hy3 hH ?_
  refine wpAnyH_take (i := 4) (oi := o4) rfl hs f4 r4 (fun _ _ _ h => h) hy4 hH ?_
  refine wpAnyH_take (i := 5) (oi := o5) rfl hs f5 r5 (fun _ _ _ h => h) hy5 hH ?_
  refine wpAnyH_take (i := 7) (oi := o7) rfl hs f7 r7 (fun _ _ _ h => h) hy7 hH ?_
  refine wpAnyH_take (i := 8) (oi := o8) rfl hs f8 r8 (fun _ _ _ h => h) hy8 hH ?_
  refine wpAnyH_take (i := 9) (oi := o9) rfl hs f9 r9 (fun _ _ _ h => h) hy9 hH ?_
  refine wpAnyH_take (i := 10) (oi := o10) rfl hs f10 r10 (fun _ _ _ h => h) hy10 hH ?_
  refine wpAnyH_take (i := 11) (oi := o11) rfl hs f11 r11 (fun _ _ _ h => h) hy11 hH ?_
  refine wpAnyH_take (i := 12) (oi := o12) rfl hs f12 r12 (fun _ _ _ h => h) hy12 hH ?_
  refine wpAnyH_take (i := 13) (oi := o13) rfl hs f13 r13 (fun _ _ _ h => h) hy13 hH ?_
  refine wpAnyH_take (i := 14) (oi := o14) rfl hs f14 r14 (fun _ _ _ h => h) hy14 hH ?_
  generalize ((((((((((((((a.put o0.dst v0).put o1.dst v1).put o2.dst v2).put o3.dst v3).put o4.dst v4).put o5.dst v5).put o7.dst v7).put o8.dst v8).put o9.dst v9).put o10.dst v10).put o11.dst v11).put o12.dst v12).put o13.dst v13).put o14.dst v14) = B at *
  have wa6 : ∀ y, Region.wanted o6 y = true := fun y => by unfold Region.wanted; rw [g6]
  have wa16 : ∀ y, Region.wanted o16 y = true := fun y => by unfold Region.wanted; rw [g16]
  have wa17 : ∀ y, Region.wanted o17 y = true := fun y => by unfold Region.wanted; rw [g17]
  have t6_16_17_ : ∀ (u6 u16 u17 : Value) w', I6_16_17_ u6 u16 u17 w' → wpAnyH P .any #[o0, o1, o2, o3, o4, o5, o6, o7, o8, o9, o10, o11, o12, o13, o14, o15, o16, o17, o18] (NoPanic Q) S 0 #[true, true, true, true, true, true, true, true, true, true, true, true, true, true, true, true, true, true, true] (((((B.put o6.dst u6).put o15.dst (v15 u6)).put o16.dst u16).put o17.dst u17).put o18.dst (v18 u6 u16 u17)) w' := by
    intro u6 u16 u17 w0 i0
    exact ⟨q6_16_17_, NoPanic.normal (h u6 u16 u17 w0 i0)⟩
  have t6_16_ : ∀ (u6 u16 : Value) w', I6_16_ u6 u16 w' → wpAnyH P .any #[o0, o1, o2, o3, o4, o5, o6, o7, o8, o9, o10, o11, o12, o13, o14, o15, o16, o17, o18] (NoPanic Q) S 2 #[true, true, true, true, true, true, true, true, true, true, true, true, true, true, true, true, true, false, false] (((B.put o6.dst u6).put o15.dst (v15 u6)).put o16.dst u16) w' := by
    intro u6 u16 w0 i0
    refine wpAnyH_ready (rs := [17]) q6_16_ (by simp) (AllReadyH.cons (o := o17) rfl (fun K hK => ?_) AllReadyH.nil)
    · rw [if_pos (wa17 _)]
      refine s6_16_17 u6 u16 w0 i0 K (fun u17 w1 i1 => hK.out _ _ (z6_16_17_ u6 u16 u17 w1 i1) (fun _ => ?_))
      clear hK
      refine wpAnyH_take (i := 18) (oi := o18) rfl hs f6_16_17_18 r6_16_17_18 (fun _ _ _ h => h) (y6_16_17_18 u6 u16 u17 w1 i1) (z6_16_17_ u6 u16 u17 w1 i1) ?_
      exact t6_16_17_ u6 u16 u17 w1 i1
  have t6_ : ∀ (u6 : Value) w', I6_ u6 w' → wpAnyH P .any #[o0, o1, o2, o3, o4, o5, o6, o7, o8, o9, o10, o11, o12, o13, o14, o15, o16, o17, o18] (NoPanic Q) S 3 #[true, true, true, true, true, true, true, true, true, true, true, true, true, true, true, true, false, false, false] ((B.put o6.dst u6).put o15.dst (v15 u6)) w' := by
    intro u6 w0 i0
    refine wpAnyH_ready (rs := [16]) q6_ (by simp) (AllReadyH.cons (o := o16) rfl (fun K hK => ?_) AllReadyH.nil)
    · rw [if_pos (wa16 _)]
      refine s6_16 u6 w0 i0 K (fun u16 w1 i1 => hK.out _ _ (z6_16_ u6 u16 w1 i1) (fun _ => ?_))
      clear hK
      exact t6_16_ u6 u16 w1 i1
  have t_ : ∀ w', I_  w' → wpAnyH P .any #[o0, o1, o2, o3, o4, o5, o6, o7, o8, o9, o10, o11, o12, o13, o14, o15, o16, o17, o18] (NoPanic Q) S 5 #[true, true, true, true, true, true, false, true, true, true, true, true, true, true, true, false, false, false, false] B w' := by
    intro w0 i0
    refine wpAnyH_ready (rs := [6]) q_ (by simp) (AllReadyH.cons (o := o6) rfl (fun K hK => ?_) AllReadyH.nil)
    · rw [if_pos (wa6 _)]
      refine s_6  w0 i0 K (fun u6 w1 i1 => hK.out _ _ (z6_ u6 w1 i1) (fun _ => ?_))
      clear hK
      refine wpAnyH_take (i := 15) (oi := o15) rfl hs f_6_15 r_6_15 (fun _ _ _ h => h) (y_6_15 u6 w1 i1) (z6_ u6 w1 i1) ?_
      exact t6_ u6 w1 i1
  exact t_ w.drew i0

theorem wp_fr13 {id : Nat} {o0 o1 o2 o3 o4 o5 o6 o7 o8 o9 o10 o11 o12 : Oper} {a : Act} {w : World} (hm : P.follows .mixedOrders = true) (hs : Region.noSelect #[o0, o1, o2, o3, o4, o5, o6, o7, o8, o9, o10, o11, o12] = true)
    (f0 : Region.free .any #[o0, o1, o2, o3, o4, o5, o6, o7, o8, o9, o10, o11, o12] #[false, false, false, false, false, false, false, false, false, false, false, false, false] 0 = true) (r0 : (Region.ready .any #[o0, o1, o2, o3, o4, o5, o6, o7, o8, o9, o10, o11, o12] #[false, false, false, false, false, false, false, false, false, false, false, false, false]).contains 0 = true)
    (f1 : Region.free .any #[o0, o1, o2, o3, o4, o5, o6, o7, o8, o9, o10, o11, o12] #[true, false, false, false, false, false, false, false, false, false, false, false, false] 1 = true) (r1 : (Region.ready .any #[o0, o1, o2, o3, o4, o5, o6, o7, o8, o9, o10, o11, o12] #[true, false, false, false, false, false, false, false, false, false, false, false, false]).contains 1 = true)
    (f2 : Region.free .any #[o0, o1, o2, o3, o4, o5, o6, o7, o8, o9, o10, o11, o12] #[true, true, false, false, false, false, false, false, false, false, false, false, false] 2 = true) (r2 : (Region.ready .any #[o0, o1, o2, o3, o4, o5, o6, o7, o8, o9, o10, o11, o12] #[true, true, false, false, false, false, false, false, false, false, false, false, false]).contains 2 = true)
    (f3 : Region.free .any #[o0, o1, o2, o3, o4, o5, o6, o7, o8, o9, o10, o11, o12] #[true, true, true, false, false, false, false, false, false, false, false, false, false] 3 = true) (r3 : (Region.ready .any #[o0, o1, o2, o3, o4, o5, o6, o7, o8, o9, o10, o11, o12] #[true, true, true, false, false, false, false, false, false, false, false, false, false]).contains 3 = true)
    (f4 : Region.free .any #[o0, o1, o2, o3, o4, o5, o6, o7, o8, o9, o10, o11, o12] #[true, true, true, true, false, false, false, false, false, false, false, false, false] 4 = true) (r4 : (Region.ready .any #[o0, o1, o2, o3, o4, o5, o6, o7, o8, o9, o10, o11, o12] #[true, true, true, true, false, false, false, false, false, false, false, false, false]).contains 4 = true)
    (f6 : Region.free .any #[o0, o1, o2, o3, o4, o5, o6, o7, o8, o9, o10, o11, o12] #[true, true, true, true, true, false, false, false, false, false, false, false, false] 6 = true) (r6 : (Region.ready .any #[o0, o1, o2, o3, o4, o5, o6, o7, o8, o9, o10, o11, o12] #[true, true, true, true, true, false, false, false, false, false, false, false, false]).contains 6 = true)
    (f7 : Region.free .any #[o0, o1, o2, o3, o4, o5, o6, o7, o8, o9, o10, o11, o12] #[true, true, true, true, true, false, true, false, false, false, false, false, false] 7 = true) (r7 : (Region.ready .any #[o0, o1, o2, o3, o4, o5, o6, o7, o8, o9, o10, o11, o12] #[true, true, true, true, true, false, true, false, false, false, false, false, false]).contains 7 = true)
    (f8 : Region.free .any #[o0, o1, o2, o3, o4, o5, o6, o7, o8, o9, o10, o11, o12] #[true, true, true, true, true, false, true, true, false, false, false, false, false] 8 = true) (r8 : (Region.ready .any #[o0, o1, o2, o3, o4, o5, o6, o7, o8, o9, o10, o11, o12] #[true, true, true, true, true, false, true, true, false, false, false, false, false]).contains 8 = true)
    (f9 : Region.free .any #[o0, o1, o2, o3, o4, o5, o6, o7, o8, o9, o10, o11, o12] #[true, true, true, true, true, false, true, true, true, false, false, false, false] 9 = true) (r9 : (Region.ready .any #[o0, o1, o2, o3, o4, o5, o6, o7, o8, o9, o10, o11, o12] #[true, true, true, true, true, false, true, true, true, false, false, false, false]).contains 9 = true)
    (q_ : Region.ready .any #[o0, o1, o2, o3, o4, o5, o6, o7, o8, o9, o10, o11, o12] #[true, true, true, true, true, false, true, true, true, true, false, false, false] = [5])
    (f_5_10 : Region.free .any #[o0, o1, o2, o3, o4, o5, o6, o7, o8, o9, o10, o11, o12] #[true, true, true, true, true, true, true, true, true, true, false, false, false] 10 = true) (r_5_10 : (Region.ready .any #[o0, o1, o2, o3, o4, o5, o6, o7, o8, o9, o10, o11, o12] #[true, true, true, true, true, true, true, true, true, true, false, false, false]).contains 10 = true)
    (q5_ : Region.ready .any #[o0, o1, o2, o3, o4, o5, o6, o7, o8, o9, o10, o11, o12] #[true, true, true, true, true, true, true, true, true, true, true, false, false] = [11])
    (q5_11_ : Region.ready .any #[o0, o1, o2, o3, o4, o5, o6, o7, o8, o9, o10, o11, o12] #[true, true, true, true, true, true, true, true, true, true, true, true, false] = [12])
    (q5_11_12_ : Region.ready .any #[o0, o1, o2, o3, o4, o5, o6, o7, o8, o9, o10, o11, o12] #[true, true, true, true, true, true, true, true, true, true, true, true, true] = [])
    (g5 : o5.guard = none)    (g11 : o11.guard = none)    (g12 : o12.guard = none)
    (v0 v1 v2 v3 v4 v6 v7 v8 v9 : Value) (A0 A1 A2 A3 A4 A5 A6 A7 A8 : Act)
    (S : World → Prop)
    (I_ : World → Prop)
    (I5_ : Value → World → Prop)
    (I5_11_ : Value → Value → World → Prop)
    (I5_11_12_ : Value → Value → Value → World → Prop)
    (v10 : Value → Value)
    (p0 : a.put o0.dst v0 = A0) (hy0 : YieldsIf P #[o0, o1, o2, o3, o4, o5, o6, o7, o8, o9, o10, o11, o12] S o0 v0 a)
    (p1 : A0.put o1.dst v1 = A1) (hy1 : YieldsIf P #[o0, o1, o2, o3, o4, o5, o6, o7, o8, o9, o10, o11, o12] S o1 v1 A0)
    (p2 : A1.put o2.dst v2 = A2) (hy2 : YieldsIf P #[o0, o1, o2, o3, o4, o5, o6, o7, o8, o9, o10, o11, o12] S o2 v2 A1)
    (p3 : A2.put o3.dst v3 = A3) (hy3 : YieldsIf P #[o0, o1, o2, o3, o4, o5, o6, o7, o8, o9, o10, o11, o12] S o3 v3 A2)
    (p4 : A3.put o4.dst v4 = A4) (hy4 : YieldsIf P #[o0, o1, o2, o3, o4, o5, o6, o7, o8, o9, o10, o11, o12] S o4 v4 A3)
    (p6 : A4.put o6.dst v6 = A5) (hy6 : YieldsIf P #[o0, o1, o2, o3, o4, o5, o6, o7, o8, o9, o10, o11, o12] S o6 v6 A4)
    (p7 : A5.put o7.dst v7 = A6) (hy7 : YieldsIf P #[o0, o1, o2, o3, o4, o5, o6, o7, o8, o9, o10, o11, o12] S o7 v7 A5)
    (p8 : A6.put o8.dst v8 = A7) (hy8 : YieldsIf P #[o0, o1, o2, o3, o4, o5, o6, o7, o8, o9, o10, o11, o12] S o8 v8 A6)
    (p9 : A7.put o9.dst v9 = A8) (hy9 : YieldsIf P #[o0, o1, o2, o3, o4, o5, o6, o7, o8, o9, o10, o11, o12] S o9 v9 A7)
    (i0 : I_ w.drew)
    (hIS : (∀ w', I_  w' → S w') ∧ (∀ (u5 : Value) w', I5_ u5 w' → S w') ∧ (∀ (u5 u11 : Value) w', I5_11_ u5 u11 w' → S w') ∧ (∀ (u5 u11 u12 : Value) w', I5_11_12_ u5 u11 u12 w' → S w'))
    (s_5 : ∀ w', I_  w' → ∀ K : Act → World → Prop, (∀ (u5 : Value) w2, I5_ u5 w2 → K (A8.put o5.dst u5) w2) → o5.wp P A8 w' K (NoPanic Q))
    (s5_11 : ∀ (u5 : Value) w', I5_ u5 w' → ∀ K : Act → World → Prop, (∀ (u11 : Value) w2, I5_11_ u5 u11 w2 → K (((A8.put o5.dst u5).put o10.dst (v10 u5)).put o11.dst u11) w2) → o11.wp P ((A8.put o5.dst u5).put o10.dst (v10 u5)) w' K (NoPanic Q))
    (s5_11_12 : ∀ (u5 u11 : Value) w', I5_11_ u5 u11 w' → ∀ K : Act → World → Prop, (∀ (u12 : Value) w2, I5_11_12_ u5 u11 u12 w2 → K ((((A8.put o5.dst u5).put o10.dst (v10 u5)).put o11.dst u11).put o12.dst u12) w2) → o12.wp P (((A8.put o5.dst u5).put o10.dst (v10 u5)).put o11.dst u11) w' K (NoPanic Q))
    (y_5_10 : ∀ (u5 : Value) w', I5_ u5 w' → YieldsIf P #[o0, o1, o2, o3, o4, o5, o6, o7, o8, o9, o10, o11, o12] S o10 (v10 u5) (A8.put o5.dst u5))
    (h : ∀ (u5 u11 u12 : Value) w', I5_11_12_ u5 u11 u12 w' → Q .normal ((((A8.put o5.dst u5).put o10.dst (v10 u5)).put o11.dst u11).put o12.dst u12) w') :
    (Code.region id #[o0, o1, o2, o3, o4, o5, o6, o7, o8, o9, o10, o11, o12] true).wp P Q a w := by
  subst p0 p1 p2 p3 p4 p6 p7 p8 p9
  obtain ⟨z_, z5_, z5_11_, z5_11_12_⟩ := hIS
  refine wp_region_noPanic ?_
  refine wp_region_held_drew (S := S) hm (z_ _ i0) (fun hH => ?_)
  show wpAnyH P .any #[o0, o1, o2, o3, o4, o5, o6, o7, o8, o9, o10, o11, o12] (NoPanic Q) S 13 #[false, false, false, false, false, false, false, false, false, false, false, false, false] a w.drew
  refine wpAnyH_take (i := 0) (oi := o0) rfl hs f0 r0 (fun _ _ _ h => h) hy0 hH ?_
  refine wpAnyH_take (i := 1) (oi := o1) rfl hs f1 r1 (fun _ _ _ h => h) hy1 hH ?_
  refine wpAnyH_take (i := 2) (oi := o2) rfl hs f2 r2 (fun _ _ _ h => h) hy2 hH ?_
  refine wpAnyH_take (i := 3) (oi := o3) rfl hs f3 r3 (fun _ _ _ h => h) hy3 hH ?_
  refine wpAnyH_take (i := 4) (oi := o4) rfl hs f4 r4 (fun _ _ _ h => h) hy4 hH ?_
  refine wpAnyH_take (i := 6) (oi := o6) rfl hs f6 r6 (fun _ _ _ h => h) hy6 hH ?_
  refine wpAnyH_take (i := 7) (oi := o7) rfl hs f7 r7 (fun _ _ _ h => h) hy7 hH ?_
  refine wpAnyH_take (i := 8) (oi := o8) rfl hs f8 r8 (fun _ _ _ h => h) hy8 hH ?_
  refine wpAnyH_take (i := 9) (oi := o9) rfl hs f9 r9 (fun _ _ _ h => h) hy9 hH ?_
  generalize (((((((((a.put o0.dst v0).put o1.dst v1).put o2.dst v2).put o3.dst v3).put o4.dst v4).put o6.dst v6).put o7.dst v7).put o8.dst v8).put o9.dst v9) = B at *
  have wa5 : ∀ y, Region.wanted o5 y = true := fun y => by unfold Region.wanted; rw [g5]
  have wa11 : ∀ y, Region.wanted o11 y = true := fun y => by unfold Region.wanted; rw [g11]
  have wa12 : ∀ y, Region.wanted o12 y = true := fun y => by unfold Region.wanted; rw [g12]
  have t5_11_12_ : ∀ (u5 u11 u12 : Value) w', I5_11_12_ u5 u11 u12 w' → wpAnyH P .any #[o0, o1, o2, o3, o4, o5, o6, o7, o8, o9, o10, o11, o12] (NoPanic Q) S 0 #[true, true, true, true, true, true, true, true, true, true, true, true, true] ((((B.put o5.dst u5).put o10.dst (v10 u5)).put o11.dst u11).put o12.dst u12) w' := by
    intro u5 u11 u12 w0 i0
    exact ⟨q5_11_12_, NoPanic.normal (h u5 u11 u12 w0 i0)⟩
  have t5_11_ : ∀ (u5 u11 : Value) w', I5_11_ u5 u11 w' → wpAnyH P .any #[o0, o1, o2, o3, o4, o5, o6, o7, o8, o9, o10, o11, o12] (NoPanic Q) S 1 #[true, true, true, true, true, true, true, true, true, true, true, true, false] (((B.put o5.dst u5).put o10.dst (v10 u5)).put o11.dst u11) w' := by
    intro u5 u11 w0 i0
    refine wpAnyH_ready (rs := [12]) q5_11_ (by simp) (AllReadyH.cons (o := o12) rfl (fun K hK => ?_) AllReadyH.nil)
    · rw [if_pos (wa12 _)]
      refine s5_11_12 u5 u11 w0 i0 K (fun u12 w1 i1 => hK.out _ _ (z5_11_12_ u5 u11 u12 w1 i1) (fun _ => ?_))
      clear hK
      exact t5_11_12_ u5 u11 u12 w1 i1
  have t5_ : ∀ (u5 : Value) w', I5_ u5 w' → wpAnyH P .any #[o0, o1, o2, o3, o4, o5, o6, o7, o8, o9, o10, o11, o12] (NoPanic Q) S 2 #[true, true, true, true, true, true, true, true, true, true, true, false, false] ((B.put o5.dst u5).put o10.dst (v10 u5)) w' := by
    intro u5 w0 i0
    refine wpAnyH_ready (rs := [11]) q5_ (by simp) (AllReadyH.cons (o := o11) rfl (fun K hK => ?_) AllReadyH.nil)
    · rw [if_pos (wa11 _)]
      refine s5_11 u5 w0 i0 K (fun u11 w1 i1 => hK.out _ _ (z5_11_ u5 u11 w1 i1) (fun _ => ?_))
      clear hK
      exact t5_11_ u5 u11 w1 i1
  have t_ : ∀ w', I_  w' → wpAnyH P .any #[o0, o1, o2, o3, o4, o5, o6, o7, o8, o9, o10, o11, o12] (NoPanic Q) S 4 #[true, true, true, true, true, false, true, true, true, true, false, false, false] B w' := by
    intro w0 i0
    refine wpAnyH_ready (rs := [5]) q_ (by simp) (AllReadyH.cons (o := o5) rfl (fun K hK => ?_) AllReadyH.nil)
    · rw [if_pos (wa5 _)]
      refine s_5  w0 i0 K (fun u5 w1 i1 => hK.out _ _ (z5_ u5 w1 i1) (fun _ => ?_))
      clear hK
      refine wpAnyH_take (i := 10) (oi := o10) rfl hs f_5_10 r_5_10 (fun _ _ _ h => h) (y_5_10 u5 w1 i1) (z5_ u5 w1 i1) ?_
      exact t5_ u5 w1 i1
  exact t_ w.drew i0

end
end Go.Proofs.Ytlopdlcepmmjdaa
