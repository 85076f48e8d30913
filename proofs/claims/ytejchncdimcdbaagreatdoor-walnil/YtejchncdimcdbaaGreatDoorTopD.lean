import Derived.Test.YtejchncdimcdbaaGreatDoorTopA
import Derived.Deep.RegionHeld3
import Derived.Test.YtejchncdimcdbaaGreatDoorTopC
import Derived.Test.YtejchncdimcdbaaGreatDoorQLate
/-
  Laws for drawn regions, by genreg.py. No program.
-/
namespace Go.Proofs.YtejchncdimcdbaaGreatDoor
open Go Go.RowKit Go.BigFrame
set_option linter.unusedVariables false
set_option linter.unusedSimpArgs false
section
variable {P : Program} {Q : Exit → Act → World → Prop}
theorem wp_w8 {id : Nat} {o0 o1 o2 o3 o4 o5 o6 o7 : Oper} {a : Act} {w : World} (hm : P.follows .mixedOrders = true) (hs : Region.noSelect #[o0, o1, o2, o3, o4, o5, o6, o7] = true)
    (f0 : Region.free .any #[o0, o1, o2, o3, o4, o5, o6, o7] #[false, false, false, false, false, false, false, false] 0 = true) (r0 : (Region.ready .any #[o0, o1, o2, o3, o4, o5, o6, o7] #[false, false, false, false, false, false, false, false]).contains 0 = true)
    (f1 : Region.free .any #[o0, o1, o2, o3, o4, o5, o6, o7] #[true, false, false, false, false, false, false, false] 1 = true) (r1 : (Region.ready .any #[o0, o1, o2, o3, o4, o5, o6, o7] #[true, false, false, false, false, false, false, false]).contains 1 = true)
    (f2 : Region.free .any #[o0, o1, o2, o3, o4, o5, o6, o7] #[true, true, false, false, false, false, false, false] 2 = true) (r2 : (Region.ready .any #[o0, o1, o2, o3, o4, o5, o6, o7] #[true, true, false, false, false, false, false, false]).contains 2 = true)
    (f3 : Region.free .any #[o0, o1, o2, o3, o4, o5, o6, o7] #[true, true, true, false, false, false, false, false] 3 = true) (r3 : (Region.ready .any #[o0, o1, o2, o3, o4, o5, o6, o7] #[true, true, true, false, false, false, false, false]).contains 3 = true)
    (f4 : Region.free .any #[o0, o1, o2, o3, o4, o5, o6, o7] #[true, true, true, true, false, false, false, false] 4 = true) (r4 : (Region.ready .any #[o0, o1, o2, o3, o4, o5, o6, o7] #[true, true, true, true, false, false, false, false]).contains 4 = true)
    (q_ : Region.ready .any #[o0, o1, o2, o3, o4, o5, o6, o7] #[true, true, true, true, true, false, false, false] = [5])
    (q5_ : Region.ready .any #[o0, o1, o2, o3, o4, o5, o6, o7] #[true, true, true, true, true, true, false, false] = [6])
    (f5_6_7 : Region.free .any #[o0, o1, o2, o3, o4, o5, o6, o7] #[true, true, true, true, true, true, true, false] 7 = true) (r5_6_7 : (Region.ready .any #[o0, o1, o2, o3, o4, o5, o6, o7] #[true, true, true, true, true, true, true, false]).contains 7 = true)
    (q5_6_ : Region.ready .any #[o0, o1, o2, o3, o4, o5, o6, o7] #[true, true, true, true, true, true, true, true] = [])
    (g5 : o5.guard = none)    (g6 : o6.guard = none)
    (v0 v1 v2 v3 v4 : Value) (A0 A1 A2 A3 A4 : Act)
    (S : World → Prop)
    (I_ : World → Prop)
    (I5_ : Value → World → Prop)
    (I5_6_ : Value → Value → World → Prop)
    (v7 : Value → Value)
    (p0 : a.put o0.dst v0 = A0) (hy0 : YieldsIf P #[o0, o1, o2, o3, o4, o5, o6, o7] S o0 v0 a)
    (p1 : A0.put o1.dst v1 = A1) (hy1 : YieldsIf P #[o0, o1, o2, o3, o4, o5, o6, o7] S o1 v1 A0)
    (p2 : A1.put o2.dst v2 = A2) (hy2 : YieldsIf P #[o0, o1, o2, o3, o4, o5, o6, o7] S o2 v2 A1)
    (p3 : A2.put o3.dst v3 = A3) (hy3 : YieldsIf P #[o0, o1, o2, o3, o4, o5, o6, o7] S o3 v3 A2)
    (p4 : A3.put o4.dst v4 = A4) (hy4 : YieldsIf P #[o0, o1, o2, o3, o4, o5, o6, o7] S o4 v4 A3)
    (i0 : I_ w.drew)
    (hIS : (∀ w', I_  w' → S w') ∧ (∀ (u5 : Value) w', I5_ u5 w' → S w') ∧ (∀ (u5 u6 : Value) w', I5_6_ u5 u6 w' → S w'))
    (s_5 : ∀ w', I_  w' → ∀ K : Act → World → Prop, (∀ (u5 : Value) w2, I5_ u5 w2 → K (A4.put o5.dst u5) w2) → o5.wp P A4 w' K (NoPanic Q))
    (s5_6 : ∀ (u5 : Value) w', I5_ u5 w' → ∀ K : Act → World → Prop, (∀ (u6 : Value) w2, I5_6_ u5 u6 w2 → K ((A4.put o5.dst u5).put o6.dst u6) w2) → o6.wp P (A4.put o5.dst u5) w' K (NoPanic Q))
    (y5_6_7 : ∀ (u5 u6 : Value) w', I5_6_ u5 u6 w' → YieldsIf P #[o0, o1, o2, o3, o4, o5, o6, o7] S o7 (v7 u6) ((A4.put o5.dst u5).put o6.dst u6))
    (h : ∀ (u5 u6 : Value) w', I5_6_ u5 u6 w' → Q .normal (((A4.put o5.dst u5).put o6.dst u6).put o7.dst (v7 u6)) w') :
    (Code.region id #[o0, o1, o2, o3, o4, o5, o6, o7] true).wp P Q a w := by
  subst p0 p1 p2 p3 p4
  obtain ⟨z_, z5_, z5_6_⟩ := hIS
  refine wp_region_noPanic ?_
  refine wp_region_held_drew (S := S) hm (z_ _ i0) (fun hH => ?_)
  show wpAnyH P .any #[o0, o1, o2, o3, o4, o5, o6, o7] (NoPanic Q) S 8 #[false, false, false, false, false, false, false, false] a w.drew
  refine wpAnyH_take (i := 0) (oi := o0) rfl hs f0 r0 (fun _ _ _ h => h) hy0 hH ?_
  refine wpAnyH_take (i := 1) (oi := o1) rfl hs f1 r1 (fun _ _ _ h => h) hy1 hH ?_
  refine wpAnyH_take (i := 2) (oi := o2) rfl hs f2 r2 (fun _ _ _ h => h) hy2 hH ?_
  refine wpAnyH_take (i := 3) (oi := o3) rfl hs f3 r3 (fun _ _ _ h => h) hy3 hH ?_
  refine wpAnyH_take (i := 4) (oi := o4) rfl hs f4 r4 (fun _ _ _ h => h) hy4 hH ?_
  generalize (((((a.put o0.dst v0).put o1.dst v1).put o2.dst v2).put o3.dst v3).put o4.dst v4) = B at *
  have wa5 : ∀ y, Region.wanted o5 y = true := fun y => by unfold Region.wanted; rw [g5]
  have wa6 : ∀ y, Region.wanted o6 y = true := fun y => by unfold Region.wanted; rw [g6]
  have t5_6_ : ∀ (u5 u6 : Value) w', I5_6_ u5 u6 w' → wpAnyH P .any #[o0, o1, o2, o3, o4, o5, o6, o7] (NoPanic Q) S 0 #[true, true, true, true, true, true, true, true] (((B.put o5.dst u5).put o6.dst u6).put o7.dst (v7 u6)) w' := by
    intro u5 u6 w0 i0
    exact ⟨q5_6_, NoPanic.normal (h u5 u6 w0 i0)⟩
  have t5_ : ∀ (u5 : Value) w', I5_ u5 w' → wpAnyH P .any #[o0, o1, o2, o3, o4, o5, o6, o7] (NoPanic Q) S 2 #[true, true, true, true, true, true, false, false] (B.put o5.dst u5) w' := by
    intro u5 w0 i0
    refine wpAnyH_ready (rs := [6]) q5_ (by simp) (AllReadyH.cons (o := o6) rfl (fun K hK => ?_) AllReadyH.nil)
    · rw [if_pos (wa6 _)]
      refine s5_6 u5 w0 i0 K (fun u6 w1 i1 => hK.out _ _ (z5_6_ u5 u6 w1 i1) (fun _ => ?_))
      clear hK
      refine wpAnyH_take (i := 7) (oi := o7) rfl hs f5_6_7 r5_6_7 (fun _ _ _ h => h) (y5_6_7 u5 u6 w1 i1) (z5_6_ u5 u6 w1 i1) ?_
      exact t5_6_ u5 u6 w1 i1
  have t_ : ∀ w', I_  w' → wpAnyH P .any #[o0, o1, o2, o3, o4, o5, o6, o7] (NoPanic Q) S 3 #[true, true, true, true, true, false, false, false] B w' := by
    intro w0 i0
    refine wpAnyH_ready (rs := [5]) q_ (by simp) (AllReadyH.cons (o := o5) rfl (fun K hK => ?_) AllReadyH.nil)
    · rw [if_pos (wa5 _)]
      refine s_5  w0 i0 K (fun u5 w1 i1 => hK.out _ _ (z5_ u5 w1 i1) (fun _ => ?_))
      clear hK
      exact t5_ u5 w1 i1
  exact t_ w.drew i0
theorem wp_w9 {id : Nat} {o0 o1 o2 o3 o4 o5 o6 o7 o8 : Oper} {a : Act} {w : World} (hm : P.follows .mixedOrders = true) (hs : Region.noSelect #[o0, o1, o2, o3, o4, o5, o6, o7, o8] = true)
    (f0 : Region.free .any #[o0, o1, o2, o3, o4, o5, o6, o7, o8] #[false, false, false, false, false, false, false, false, false] 0 = true) (r0 : (Region.ready .any #[o0, o1, o2, o3, o4, o5, o6, o7, o8] #[false, false, false, false, false, false, false, false, false]).contains 0 = true)
    (f1 : Region.free .any #[o0, o1, o2, o3, o4, o5, o6, o7, o8] #[true, false, false, false, false, false, false, false, false] 1 = true) (r1 : (Region.ready .any #[o0, o1, o2, o3, o4, o5, o6, o7, o8] #[true, false, false, false, false, false, false, false, false]).contains 1 = true)
    (f2 : Region.free .any #[o0, o1, o2, o3, o4, o5, o6, o7, o8] #[true, true, false, false, false, false, false, false, false] 2 = true) (r2 : (Region.ready .any #[o0, o1, o2, o3, o4, o5, o6, o7, o8] #[true, true, false, false, false, false, false, false, false]).contains 2 = true)
    (f3 : Region.free .any #[o0, o1, o2, o3, o4, o5, o6, o7, o8] #[true, true, true, false, false, false, false, false, false] 3 = true) (r3 : (Region.ready .any #[o0, o1, o2, o3, o4, o5, o6, o7, o8] #[true, true, true, false, false, false, false, false, false]).contains 3 = true)
    (f4 : Region.free .any #[o0, o1, o2, o3, o4, o5, o6, o7, o8] #[true, true, true, true, false, false, false, false, false] 4 = true) (r4 : (Region.ready .any #[o0, o1, o2, o3, o4, o5, o6, o7, o8] #[true, true, true, true, false, false, false, false, false]).contains 4 = true)
    (f6 : Region.free .any #[o0, o1, o2, o3, o4, o5, o6, o7, o8] #[true, true, true, true, true, false, false, false, false] 6 = true) (r6 : (Region.ready .any #[o0, o1, o2, o3, o4, o5, o6, o7, o8] #[true, true, true, true, true, false, false, false, false]).contains 6 = true)
    (q_ : Region.ready .any #[o0, o1, o2, o3, o4, o5, o6, o7, o8] #[true, true, true, true, true, false, true, false, false] = [5])
    (q5_ : Region.ready .any #[o0, o1, o2, o3, o4, o5, o6, o7, o8] #[true, true, true, true, true, true, true, false, false] = [7])
    (f5_7_8 : Region.free .any #[o0, o1, o2, o3, o4, o5, o6, o7, o8] #[true, true, true, true, true, true, true, true, false] 8 = true) (r5_7_8 : (Region.ready .any #[o0, o1, o2, o3, o4, o5, o6, o7, o8] #[true, true, true, true, true, true, true, true, false]).contains 8 = true)
    (q5_7_ : Region.ready .any #[o0, o1, o2, o3, o4, o5, o6, o7, o8] #[true, true, true, true, true, true, true, true, true] = [])
    (g5 : o5.guard = none)    (g7 : o7.guard = none)
    (v0 v1 v2 v3 v4 v6 : Value) (A0 A1 A2 A3 A4 A5 : Act)
    (S : World → Prop)
    (I_ : World → Prop)
    (I5_ : Value → World → Prop)
    (I5_7_ : Value → Value → World → Prop)
    (v8 : Value → Value)
    (p0 : a.put o0.dst v0 = A0) (hy0 : YieldsIf P #[o0, o1, o2, o3, o4, o5, o6, o7, o8] S o0 v0 a)
    (p1 : A0.put o1.dst v1 = A1) (hy1 : YieldsIf P #[o0, o1, o2, o3, o4, o5, o6, o7, o8] S o1 v1 A0)
    (p2 : A1.put o2.dst v2 = A2) (hy2 : YieldsIf P #[o0, o1, o2, o3, o4, o5, o6, o7, o8] S o2 v2 A1)
    (p3 : A2.put o3.dst v3 = A3) (hy3 : YieldsIf P #[o0, o1, o2, o3, o4, o5, o6, o7, o8] S o3 v3 A2)
    (p4 : A3.put o4.dst v4 = A4) (hy4 : YieldsIf P #[o0, o1, o2, o3, o4, o5, o6, o7, o8] S o4 v4 A3)
    (p6 : A4.put o6.dst v6 = A5) (hy6 : YieldsIf P #[o0, o1, o2, o3, o4, o5, o6, o7, o8] S o6 v6 A4)
    (i0 : I_ w.drew)
    (hIS : (∀ w', I_  w' → S w') ∧ (∀ (u5 : Value) w', I5_ u5 w' → S w') ∧ (∀ (u5 u7 : Value) w', I5_7_ u5 u7 w' → S w'))
    (s_5 : ∀ w', I_  w' → ∀ K : Act → World → Prop, (∀ (u5 : Value) w2, I5_ u5 w2 → K (A5.put o5.dst u5) w2) → o5.wp P A5 w' K (NoPanic Q))
    (s5_7 : ∀ (u5 : Value) w', I5_ u5 w' → ∀ K : Act → World → Prop, (∀ (u7 : Value) w2, I5_7_ u5 u7 w2 → K ((A5.put o5.dst u5).put o7.dst u7) w2) → o7.wp P (A5.put o5.dst u5) w' K (NoPanic Q))
    (y5_7_8 : ∀ (u5 u7 : Value) w', I5_7_ u5 u7 w' → YieldsIf P #[o0, o1, o2, o3, o4, o5, o6, o7, o8] S o8 (v8 u7) ((A5.put o5.dst u5).put o7.dst u7))
    (h : ∀ (u5 u7 : Value) w', I5_7_ u5 u7 w' → Q .normal (((A5.put o5.dst u5).put o7.dst u7).put o8.dst (v8 u7)) w') :
    (Code.region id #[o0, o1, o2, o3, o4, o5, o6, o7, o8] true).wp P Q a w := by
  subst p0 p1 p2 p3 p4 p6
  obtain ⟨z_, z5_, z5_7_⟩ := hIS
  refine wp_region_noPanic ?_
  refine wp_region_held_drew (S := S) hm (z_ _ i0) (fun hH => ?_)
  show wpAnyH P .any #[o0, o1, o2, o3, o4, o5, o6, o7, o8] (NoPanic Q) S 9 #[false, false, false, false, false, false, false, false, false] a w.drew
  refine wpAnyH_take (i := 0) (oi := o0) rfl hs f0 r0 (fun _ _ _ h => h) hy0 hH ?_
  refine wpAnyH_take (i := 1) (oi := o1) rfl hs f1 r1 (fun _ _ _ h => h) hy1 hH ?_
  refine wpAnyH_take (i := 2) (oi := o2) rfl hs f2 r2 (fun _ _ _ h => h) hy2 hH ?_
  refine wpAnyH_take (i := 3) (oi := o3) rfl hs f3 r3 (fun _ _ _ h => h) hy3 hH ?_
  refine wpAnyH_take (i := 4) (oi := o4) rfl hs f4 r4 (fun _ _ _ h => h) hy4 hH ?_
  refine wpAnyH_take (i := 6) (oi := o6) rfl hs f6 r6 (fun _ _ _ h => h) hy6 hH ?_
  generalize ((((((a.put o0.dst v0).put o1.dst v1).put o2.dst v2).put o3.dst v3).put o4.dst v4).put o6.dst v6) = B at *
  have wa5 : ∀ y, Region.wanted o5 y = true := fun y => by unfold Region.wanted; rw [g5]
  have wa7 : ∀ y, Region.wanted o7 y = true := fun y => by unfold Region.wanted; rw [g7]
  have t5_7_ : ∀ (u5 u7 : Value) w', I5_7_ u5 u7 w' → wpAnyH P .any #[o0, o1, o2, o3, o4, o5, o6, o7, o8] (NoPanic Q) S 0 #[true, true, true, true, true, true, true, true, true] (((B.put o5.dst u5).put o7.dst u7).put o8.dst (v8 u7)) w' := by
    intro u5 u7 w0 i0
    exact ⟨q5_7_, NoPanic.normal (h u5 u7 w0 i0)⟩
  have t5_ : ∀ (u5 : Value) w', I5_ u5 w' → wpAnyH P .any #[o0, o1, o2, o3, o4, o5, o6, o7, o8] (NoPanic Q) S 2 #[true, true, true, true, true, true, true, false, false] (B.put o5.dst u5) w' := by
    intro u5 w0 i0
    refine wpAnyH_ready (rs := [7]) q5_ (by simp) (AllReadyH.cons (o := o7) rfl (fun K hK => ?_) AllReadyH.nil)
    · rw [if_pos (wa7 _)]
      refine s5_7 u5 w0 i0 K (fun u7 w1 i1 => hK.out _ _ (z5_7_ u5 u7 w1 i1) (fun _ => ?_))
      clear hK
      refine wpAnyH_take (i := 8) (oi := o8) rfl hs f5_7_8 r5_7_8 (fun _ _ _ h => h) (y5_7_8 u5 u7 w1 i1) (z5_7_ u5 u7 w1 i1) ?_
      exact t5_7_ u5 u7 w1 i1
  have t_ : ∀ w', I_  w' → wpAnyH P .any #[o0, o1, o2, o3, o4, o5, o6, o7, o8] (NoPanic Q) S 3 #[true, true, true, true, true, false, true, false, false] B w' := by
    intro w0 i0
    refine wpAnyH_ready (rs := [5]) q_ (by simp) (AllReadyH.cons (o := o5) rfl (fun K hK => ?_) AllReadyH.nil)
    · rw [if_pos (wa5 _)]
      refine s_5  w0 i0 K (fun u5 w1 i1 => hK.out _ _ (z5_ u5 w1 i1) (fun _ => ?_))
      clear hK
      exact t5_ u5 w1 i1
  exact t_ w.drew i0
theorem wp_w10 {id : Nat} {o0 o1 o2 o3 o4 o5 o6 o7 o8 o9 : Oper} {a : Act} {w : World} (hm : P.follows .mixedOrders = true) (hs : Region.noSelect #[o0, o1, o2, o3, o4, o5, o6, o7, o8, o9] = true)
    (f0 : Region.free .any #[o0, o1, o2, o3, o4, o5, o6, o7, o8, o9] #[false, false, false, false, false, false, false, false, false, false] 0 = true) (r0 : (Region.ready .any #[o0, o1, o2, o3, o4, o5, o6, o7, o8, o9] #[false, false, false, false, false, false, false, false, false, false]).contains 0 = true)
    (f1 : Region.free .any #[o0, o1, o2, o3, o4, o5, o6, o7, o8, o9] #[true, false, false, false, false, false, false, false, false, false] 1 = true) (r1 : (Region.ready .any #[o0, o1, o2, o3, o4, o5, o6, o7, o8, o9] #[true, false, false, false, false, false, false, false, false, false]).contains 1 = true)
    (f2 : Region.free .any #[o0, o1, o2, o3, o4, o5, o6, o7, o8, o9] #[true, true, false, false, false, false, false, false, false, false] 2 = true) (r2 : (Region.ready .any #[o0, o1, o2, o3, o4, o5, o6, o7, o8, o9] #[true, true, false, false, false, false, false, false, false, false]).contains 2 = true)
    (f3 : Region.free .any #[o0, o1, o2, o3, o4, o5, o6, o7, o8, o9] #[true, true, true, false, false, false, false, false, false, false] 3 = true) (r3 : (Region.ready .any #[o0, o1, o2, o3, o4, o5, o6, o7, o8, o9] #[true, true, true, false, false, false, false, false, false, false]).contains 3 = true)
    (f4 : Region.free .any #[o0, o1, o2, o3, o4, o5, o6, o7, o8, o9] #[true, true, true, true, false, false, false, false, false, false] 4 = true) (r4 : (Region.ready .any #[o0, o1, o2, o3, o4, o5, o6, o7, o8, o9] #[true, true, true, true, false, false, false, false, false, false]).contains 4 = true)
    (f5 : Region.free .any #[o0, o1, o2, o3, o4, o5, o6, o7, o8, o9] #[true, true, true, true, true, false, false, false, false, false] 5 = true) (r5 : (Region.ready .any #[o0, o1, o2, o3, o4, o5, o6, o7, o8, o9] #[true, true, true, true, true, false, false, false, false, false]).contains 5 = true)
    (f6 : Region.free .any #[o0, o1, o2, o3, o4, o5, o6, o7, o8, o9] #[true, true, true, true, true, true, false, false, false, false] 6 = true) (r6 : (Region.ready .any #[o0, o1, o2, o3, o4, o5, o6, o7, o8, o9] #[true, true, true, true, true, true, false, false, false, false]).contains 6 = true)
    (q_ : Region.ready .any #[o0, o1, o2, o3, o4, o5, o6, o7, o8, o9] #[true, true, true, true, true, true, true, false, false, false] = [7, 8])
    (q7_ : Region.ready .any #[o0, o1, o2, o3, o4, o5, o6, o7, o8, o9] #[true, true, true, true, true, true, true, true, false, false] = [8])
    (q8_ : Region.ready .any #[o0, o1, o2, o3, o4, o5, o6, o7, o8, o9] #[true, true, true, true, true, true, true, false, true, false] = [7])
    (q7_8_ : Region.ready .any #[o0, o1, o2, o3, o4, o5, o6, o7, o8, o9] #[true, true, true, true, true, true, true, true, true, false] = [9])
    (q7_8_9_ : Region.ready .any #[o0, o1, o2, o3, o4, o5, o6, o7, o8, o9] #[true, true, true, true, true, true, true, true, true, true] = [])
    (g7 : o7.guard = none)    (g8 : o8.guard = none)    (g9 : o9.guard = none)
    (ne8_7 : ∀ d, o8.dst = some d → o7.dst ≠ some d)
    (v0 v1 v2 v3 v4 v5 v6 : Value) (A0 A1 A2 A3 A4 A5 A6 : Act)
    (S : World → Prop)
    (I_ : World → Prop)
    (I7_ : Value → World → Prop)
    (I8_ : Value → World → Prop)
    (I7_8_ : Value → Value → World → Prop)
    (I7_8_9_ : Value → Value → Value → World → Prop)
    (p0 : a.put o0.dst v0 = A0) (hy0 : YieldsIf P #[o0, o1, o2, o3, o4, o5, o6, o7, o8, o9] S o0 v0 a)
    (p1 : A0.put o1.dst v1 = A1) (hy1 : YieldsIf P #[o0, o1, o2, o3, o4, o5, o6, o7, o8, o9] S o1 v1 A0)
    (p2 : A1.put o2.dst v2 = A2) (hy2 : YieldsIf P #[o0, o1, o2, o3, o4, o5, o6, o7, o8, o9] S o2 v2 A1)
    (p3 : A2.put o3.dst v3 = A3) (hy3 : YieldsIf P #[o0, o1, o2, o3, o4, o5, o6, o7, o8, o9] S o3 v3 A2)
    (p4 : A3.put o4.dst v4 = A4) (hy4 : YieldsIf P #[o0, o1, o2, o3, o4, o5, o6, o7, o8, o9] S o4 v4 A3)
    (p5 : A4.put o5.dst v5 = A5) (hy5 : YieldsIf P #[o0, o1, o2, o3, o4, o5, o6, o7, o8, o9] S o5 v5 A4)
    (p6 : A5.put o6.dst v6 = A6) (hy6 : YieldsIf P #[o0, o1, o2, o3, o4, o5, o6, o7, o8, o9] S o6 v6 A5)
    (i0 : I_ w.drew)
    (hIS : (∀ w', I_  w' → S w') ∧ (∀ (u7 : Value) w', I7_ u7 w' → S w') ∧ (∀ (u8 : Value) w', I8_ u8 w' → S w') ∧ (∀ (u7 u8 : Value) w', I7_8_ u7 u8 w' → S w') ∧ (∀ (u7 u8 u9 : Value) w', I7_8_9_ u7 u8 u9 w' → S w'))
    (s_7 : ∀ w', I_  w' → ∀ K : Act → World → Prop, (∀ (u7 : Value) w2, I7_ u7 w2 → K (A6.put o7.dst u7) w2) → o7.wp P A6 w' K (NoPanic Q))
    (s_8 : ∀ w', I_  w' → ∀ K : Act → World → Prop, (∀ (u8 : Value) w2, I8_ u8 w2 → K (A6.put o8.dst u8) w2) → o8.wp P A6 w' K (NoPanic Q))
    (s7_8 : ∀ (u7 : Value) w', I7_ u7 w' → ∀ K : Act → World → Prop, (∀ (u8 : Value) w2, I7_8_ u7 u8 w2 → K ((A6.put o7.dst u7).put o8.dst u8) w2) → o8.wp P (A6.put o7.dst u7) w' K (NoPanic Q))
    (s8_7 : ∀ (u8 : Value) w', I8_ u8 w' → ∀ K : Act → World → Prop, (∀ (u7 : Value) w2, I7_8_ u7 u8 w2 → K ((A6.put o8.dst u8).put o7.dst u7) w2) → o7.wp P (A6.put o8.dst u8) w' K (NoPanic Q))
    (s7_8_9 : ∀ (u7 u8 : Value) w', I7_8_ u7 u8 w' → ∀ K : Act → World → Prop, (∀ (u9 : Value) w2, I7_8_9_ u7 u8 u9 w2 → K (((A6.put o7.dst u7).put o8.dst u8).put o9.dst u9) w2) → o9.wp P ((A6.put o7.dst u7).put o8.dst u8) w' K (NoPanic Q))
    (h : ∀ (u7 u8 u9 : Value) w', I7_8_9_ u7 u8 u9 w' → Q .normal (((A6.put o7.dst u7).put o8.dst u8).put o9.dst u9) w') :
    (Code.region id #[o0, o1, o2, o3, o4, o5, o6, o7, o8, o9] true).wp P Q a w := by
  subst p0 p1 p2 p3 p4 p5 p6
  obtain ⟨z_, z7_, z8_, z7_8_, z7_8_9_⟩ := hIS
  refine wp_region_noPanic ?_
  refine wp_region_held_drew (S := S) hm (z_ _ i0) (fun hH => ?_)
  show wpAnyH P .any #[o0, o1, o2, o3, o4, o5, o6, o7, o8, o9] (NoPanic Q) S 10 #[false, false, false, false, false, false, false, false, false, false] a w.drew
  refine wpAnyH_take (i := 0) (oi := o0) rfl hs f0 r0 (fun _ _ _ h => h) hy0 hH ?_
  refine wpAnyH_take (i := 1) (oi := o1) rfl hs f1 r1 (fun _ _ _ h => h) hy1 hH ?_
  refine wpAnyH_take (i := 2) (oi := o2) rfl hs f2 r2 (fun _ _ _ h => h) hy2 hH ?_
  refine wpAnyH_take (i := 3) (oi := o3) rfl hs f3 r3 (fun _ _ _ h => h) hy3 hH ?_
  refine wpAnyH_take (i := 4) (oi := o4) rfl hs f4 r4 (fun _ _ _ h => h) hy4 hH ?_
  refine wpAnyH_take (i := 5) (oi := o5) rfl hs f5 r5 (fun _ _ _ h => h) hy5 hH ?_
  refine wpAnyH_take (i := 6) (oi := o6) rfl hs f6 r6 (fun _ _ _ h => h) hy6 hH ?_
  generalize (((((((a.put o0.dst v0).put o1.dst v1).put o2.dst v2).put o3.dst v3).put o4.dst v4).put o5.dst v5).put o6.dst v6) = B at *
  have wa7 : ∀ y, Region.wanted o7 y = true := fun y => by unfold Region.wanted; rw [g7]
  have wa8 : ∀ y, Region.wanted o8 y = true := fun y => by unfold Region.wanted; rw [g8]
  have wa9 : ∀ y, Region.wanted o9 y = true := fun y => by unfold Region.wanted; rw [g9]
  have t7_8_9_ : ∀ (u7 u8 u9 : Value) w', I7_8_9_ u7 u8 u9 w' → wpAnyH P .any #[o0, o1, o2, o3, o4, o5, o6, o7, o8, o9] (NoPanic Q) S 0 #[true, true, true, true, true, true, true, true, true, true] (((B.put o7.dst u7).put o8.dst u8).put o9.dst u9) w' := by
    intro u7 u8 u9 w0 i0
    exact ⟨q7_8_9_, NoPanic.normal (h u7 u8 u9 w0 i0)⟩
  have t7_8_ : ∀ (u7 u8 : Value) w', I7_8_ u7 u8 w' → wpAnyH P .any #[o0, o1, o2, o3, o4, o5, o6, o7, o8, o9] (NoPanic Q) S 1 #[true, true, true, true, true, true, true, true, true, false] ((B.put o7.dst u7).put o8.dst u8) w' := by
    intro u7 u8 w0 i0
    refine wpAnyH_ready (rs := [9]) q7_8_ (by simp) (AllReadyH.cons (o := o9) rfl (fun K hK => ?_) AllReadyH.nil)
    · rw [if_pos (wa9 _)]
      refine s7_8_9 u7 u8 w0 i0 K (fun u9 w1 i1 => hK.out _ _ (z7_8_9_ u7 u8 u9 w1 i1) (fun _ => ?_))
      clear hK
      exact t7_8_9_ u7 u8 u9 w1 i1
  have t8_ : ∀ (u8 : Value) w', I8_ u8 w' → wpAnyH P .any #[o0, o1, o2, o3, o4, o5, o6, o7, o8, o9] (NoPanic Q) S 2 #[true, true, true, true, true, true, true, false, true, false] (B.put o8.dst u8) w' := by
    intro u8 w0 i0
    refine wpAnyH_ready (rs := [7]) q8_ (by simp) (AllReadyH.cons (o := o7) rfl (fun K hK => ?_) AllReadyH.nil)
    · rw [if_pos (wa7 _)]
      refine s8_7 u8 w0 i0 K (fun u7 w1 i1 => hK.out _ _ (z7_8_ u7 u8 w1 i1) (fun _ => ?_))
      clear hK
      rw [Act.put_comm _ _ _ ne8_7]
      exact t7_8_ u7 u8 w1 i1
  have t7_ : ∀ (u7 : Value) w', I7_ u7 w' → wpAnyH P .any #[o0, o1, o2, o3, o4, o5, o6, o7, o8, o9] (NoPanic Q) S 2 #[true, true, true, true, true, true, true, true, false, false] (B.put o7.dst u7) w' := by
    intro u7 w0 i0
    refine wpAnyH_ready (rs := [8]) q7_ (by simp) (AllReadyH.cons (o := o8) rfl (fun K hK => ?_) AllReadyH.nil)
    · rw [if_pos (wa8 _)]
      refine s7_8 u7 w0 i0 K (fun u8 w1 i1 => hK.out _ _ (z7_8_ u7 u8 w1 i1) (fun _ => ?_))
      clear hK
      exact t7_8_ u7 u8 w1 i1
  have t_ : ∀ w', I_  w' → wpAnyH P .any #[o0, o1, o2, o3, o4, o5, o6, o7, o8, o9] (NoPanic Q) S 3 #[true, true, true, true, true, true, true, false, false, false] B w' := by
    intro w0 i0
    refine wpAnyH_ready (rs := [7, 8]) q_ (by simp) (AllReadyH.cons (o := o7) rfl (fun K hK => ?_) (AllReadyH.cons (o := o8) rfl (fun K hK => ?_) AllReadyH.nil))
    · rw [if_pos (wa7 _)]
      refine s_7  w0 i0 K (fun u7 w1 i1 => hK.out _ _ (z7_ u7 w1 i1) (fun _ => ?_))
      clear hK
      exact t7_ u7 w1 i1
    · rw [if_pos (wa8 _)]
      refine s_8  w0 i0 K (fun u8 w1 i1 => hK.out _ _ (z8_ u8 w1 i1) (fun _ => ?_))
      clear hK
      exact t8_ u8 w1 i1
  exact t_ w.drew i0
end
end Go.Proofs.YtejchncdimcdbaaGreatDoor
namespace Go.Proofs.YtejchncdimcdbaaGreatDoor
open Go.RowKit Go.BigFrame
set_option linter.unusedVariables false
set_option linter.unusedSimpArgs false

theorem nmB_size (u : Nat) : (nmB u).size = 24 := by unfold nmB; rw [strB_size, nmL_len]
theorem Ev.kept {w w' : World} {B B' : List Nat} (h : Ev w w' B B') : Kept B w w' := h.1
theorem Ev.pre {w0 w w' : World} {B B' : List Nat} (k : Kept [] w0 w) (h : Ev w w' B B') : Ev w0 w' B B' :=
  ⟨(k.mono (M := B) (by simp)).trans h.1 (fun x hx => Or.inl hx), fun x hx => (h.2 x hx).imp id (fun h1 => Nat.le_trans k.size h1)⟩
set_option maxRecDepth 100000 in
set_option maxHeartbeats 1000000 in
theorem wname_any (g u : Nat) (w : World) (hc : w.cell? ⟨g, 1, none⟩ = some (.int .u64 (u : Int))) (hu : u < 18446744073709551616) (hv : VarsS w) :
    Calls Tryz.prog 89 #[.pointer (some ⟨g, 0, none⟩)] w fun e w' => e = .returned (.string (nmB u)) ∧ Kept [] w w' := by
  have HV := hide hv
  clear hv
  go_enter Tryz.func89, Tryz.ntmps89
  go_wp2_with fail
  refine Calls.mono (name_any u w hu (unhide HV)) ?_
  rintro e w1 ⟨rfl, k1⟩
  have HK := hide k1
  clear k1
  go_wp2_with fail
  go_ret
  exact ⟨rfl, unhide HK⟩
set_option maxRecDepth 100000 in
set_option maxHeartbeats 1000000 in
theorem wflush_any (g u d nb ob bb : Nat) (B : List Nat) (σ : DSt) (w : World) (h0 : w.cell? ⟨g, 0, none⟩ = some (.pointer (some ⟨d, 0, none⟩))) (h1 : w.cell? ⟨g, 1, none⟩ = some (.int .u64 (u : Int))) (hu : u < 18446744073709551616) (hv : VarsS w) (hD : DKf w d B nb ob bb σ) (hg : g ∉ B) (hn : nb ≤ 1000000000) (hob : ob ≤ 1000000000) :
    Calls Tryz.prog 62 #[.pointer (some ⟨g, 0, none⟩)] w fun e w' => ∃ B', e = .returned (.int .i64 ((stSync σ (nmB u)).1 : Nat)) ∧ DKf w' d B' nb (ob + 1) bb (stSync σ (nmB u)).2 ∧ Ev w w' B B' := by
  have HV := hide hv
  have HDK := hide hD
  have HC0 := hide (fun w' (k : Kept [] w w') => k.cell h0 (by simp))
  have HC1 := hide (fun w' (k : Kept [] w w') => k.cell h1 (by simp))
  clear hv hD h0 h1
  go_enter Tryz.func62, Tryz.ntmps62
  go_upto_region 1 with fail
  refine wp_w8 (by kernel_rfl) (by kernel_rfl) (by kernel_rfl) (by kernel_rfl) (by kernel_rfl) (by kernel_rfl) (by kernel_rfl) (by kernel_rfl) (by kernel_rfl) (by kernel_rfl) (by kernel_rfl) (by kernel_rfl) (by kernel_rfl) (by kernel_rfl) (by kernel_rfl) (by kernel_rfl) (by kernel_rfl) rfl rfl
    (.pointer (some ⟨g, 0, none⟩)) (.pointer (some ⟨g, 0, none⟩)) (.pointer (some ⟨g, 0, none⟩)) (.pointer (some ⟨d, 0, none⟩)) (.pointer (some ⟨g, 0, none⟩)) _ _ _ _ _
    (fun w' => w'.cell? ⟨g, 0, none⟩ = some (.pointer (some ⟨d, 0, none⟩)))
    (fun w' => Kept [] w w')
    (fun u5 w' => u5 = .string (nmB u) ∧ Kept [] w w')
    (fun u5 u6 w' => w'.cell? ⟨g, 0, none⟩ = some (.pointer (some ⟨d, 0, none⟩)) ∧ ∃ B', u6 = .int .i64 ((stSync σ (nmB u)).1 : Nat) ∧ DKf w' d B' nb (ob + 1) bb (stSync σ (nmB u)).2 ∧ Ev w w' B B')
    (fun u6 => u6)
    (by simp only [Act.put, List.setIfInBounds_toArray, List.set_cons_zero, List.set_cons_succ]; rfl) (by exact Or.inl ⟨by rfl, fun W' hW' => by go_simp⟩)
    (by simp only [Act.put, List.setIfInBounds_toArray, List.set_cons_zero, List.set_cons_succ]; rfl) (by exact Or.inl ⟨by rfl, fun W' hW' => by go_simp⟩)
    (by simp only [Act.put, List.setIfInBounds_toArray, List.set_cons_zero, List.set_cons_succ]; rfl) (by exact Or.inl ⟨by rfl, fun W' hW' => by go_simp⟩)
    (by simp only [Act.put, List.setIfInBounds_toArray, List.set_cons_zero, List.set_cons_succ]; rfl) (by exact Or.inl ⟨by rfl, fun W' hW' => by go_simp⟩)
    (by simp only [Act.put, List.setIfInBounds_toArray, List.set_cons_zero, List.set_cons_succ]; rfl) (by exact Or.inl ⟨by rfl, fun W' hW' => by go_simp⟩)
    (Kept.refl [] w).drew
    ⟨fun w' h => unhide HC0 w' h, fun u5 w' h => unhide HC0 w' h.2, fun u5 u6 w' h => h.1⟩
    (by
      intro w' k K hK
      refine wp_callN rfl Tryz.call89 [.pointer (some ⟨g, 0, none⟩)] rfl (wname_any g u w' (unhide HC1 w' k) hu ((unhide HV).old k)) ?_
      rintro e w2 ⟨rfl, k2⟩
      exact ⟨_, rfl, hK _ _ ⟨rfl, k.trans k2 (by simp)⟩⟩)
    (by
      rintro u5 w' ⟨rfl, k⟩ K hK
      refine wp_callN rfl Tryz.call86 [.pointer (some ⟨d, 0, none⟩), .string (nmB u)] rfl (sync_F d nb ob bb B σ (nmB u) w' ((unhide HDK).old k) (by rw [nmB_size]; omega) hn hob) ?_
      rintro e w2 ⟨B', rfl, h9, ev⟩
      exact ⟨_, rfl, hK _ _ ⟨ev.1.cell (unhide HC0 w' k) hg, B', rfl, h9, Ev.pre k ev⟩⟩)
    (by
      rintro u5 u6 w' ⟨_, B', rfl, _⟩
      exact Or.inl ⟨by rfl, fun W' hW' => by go_simp⟩)
    ?_
  rintro u5 u6 w3 ⟨_, B', rfl, h9, ev⟩
  simp only [Act.put, List.setIfInBounds_toArray, List.set_cons_zero, List.set_cons_succ]
  have H9 := hide h9
  have HE := hide ev
  clear h9 ev
  go_wp2_with fail
  go_ret
  exact ⟨B', rfl, unhide H9, unhide HE⟩
end Go.Proofs.YtejchncdimcdbaaGreatDoor
namespace Go.Proofs.YtejchncdimcdbaaGreatDoor
open Go.RowKit Go.BigFrame
set_option linter.unusedVariables false
set_option linter.unusedSimpArgs false

theorem ehB_l48 {a b c : Nat} {z : Int} (h : wideB z = true) : (ehB a b c z).length = 48 := by
  unfold ehB
  rw [if_pos h, frB_len, headB_len]
theorem thn_no {r : Nat × DSt} {f : DSt → Nat × DSt} (h : r.1 ≠ 0) : thn r f = r := by unfold thn; rw [if_neg h]
theorem thn_yes {r : Nat × DSt} {f : DSt → Nat × DSt} (h : r.1 = 0) : thn r f = f r.2 := by unfold thn; rw [if_pos h]
theorem notin_ev {w w' : World} {B B' : List Nat} {g : Nat} (ev : Ev w w' B B') (h : g ∉ B) (hl : g < w.heap.size) : g ∉ B' := by
  intro hm
  rcases ev.2 g hm with h1 | h1
  · exact h h1
  · omega
def curC (d n ep fs : Nat) (wd : Int) (b t : Int) : Array Value := #[.pointer (some ⟨d, 0, none⟩), .int .u64 (n : Int), .int .u64 (ep : Int), .int .u64 (fs : Int), .int .i64 wd, .int .i64 b, .int .i64 t]
theorem curC_cell {w : World} {g d n ep fs : Nat} {wd b t : Int} {ty : TypeId} (h : w.heap[g]? = some (.cells (curC d n ep fs wd b t) ty (0, 0))) :
    w.cell? ⟨g, 0, none⟩ = some (.pointer (some ⟨d, 0, none⟩)) ∧ w.cell? ⟨g, 1, none⟩ = some (.int .u64 (n : Int)) ∧ w.cell? ⟨g, 2, none⟩ = some (.int .u64 (ep : Int)) ∧ w.cell? ⟨g, 3, none⟩ = some (.int .u64 (fs : Int)) ∧ w.cell? ⟨g, 4, none⟩ = some (.int .i64 wd) ∧ w.cell? ⟨g, 5, none⟩ = some (.int .i64 b) ∧ w.cell? ⟨g, 6, none⟩ = some (.int .i64 t) := by
  refine ⟨?_, ?_, ?_, ?_, ?_, ?_, ?_⟩ <;> rw [cell_of_row _ _ _ _ _ _ h] <;> rfl
/-- What begin leaves: the disk, and the bytes of the head. -/
def BegR (w w' : World) (g d n ep fs : Nat) (wd : Int) (B : List Nat) (nb ob bb : Nat) (r : Nat × DSt) (B' : List Nat) : Prop :=
  DKf w' d B' (nb + 1) (ob + 4) (bb + 48) r.2 ∧ Kept (g :: B) w w' ∧ (∀ x ∈ B', x ∈ B ∨ w.heap.size ≤ x) ∧ w'.heap[g]? = some (.cells (curC d n ep fs wd 48 0) 115 (0, 0))
theorem BegR.mk {w w3 : World} {g d n ep fs : Nat} {wd : Int} {B B3 : List Nat} {nb ob bb nb3 ob3 bb3 : Nat} {r : Nat × DSt} (hD : DKf w3 d B3 nb3 ob3 bb3 r.2) (h1 : nb3 ≤ nb + 1) (h2 : ob3 ≤ ob + 4) (h3 : bb3 ≤ bb + 48) (ev : Ev w w3 B B3) (hg : w.heap[g]? = some (.cells (curC d n ep fs wd 0 0) 115 (0, 0))) (hgB : g ∉ B) :
    BegR w (w3.setCell ⟨g, 5, none⟩ (.int .i64 48)) g d n ep fs wd B nb ob bb r B3 := by
  have hlt := lt_of_block hg
  have hg3 : g ∉ B3 := notin_ev ev hgB hlt
  have k9 : Kept [g] w3 (w3.setCell ⟨g, 5, none⟩ (.int .i64 48)) := (Kept.refl [g] w3).setCell (p := ⟨g, 5, none⟩) (.inl (by simp)) _
  refine ⟨(hD.more h1 h2 h3).kept k9 (fun x hx hm => ?_), (ev.1.mono (M := g :: B) (fun x hx => by simp [hx])).setCell (p := ⟨g, 5, none⟩) (.inl (by simp)) _, ev.2, ?_⟩
  · simp only [List.mem_singleton] at hm
    subst hm
    exact hg3 hx
  · rw [heap_setCell_same _ g 5 _ _ _ (ev.1.heap hg hgB)]
    rfl
set_option maxRecDepth 100000 in
set_option maxHeartbeats 4000000 in
theorem wbegin_any (g n ep fs d nb ob bb g0 : Nat) (wd : Int) (B : List Nat) (σ : DSt) (w : World) (hg : w.heap[g]? = some (.cells (curC d n ep fs wd 0 0) 115 (0, 0))) (hwd : wideB wd = true) (hn : n < 18446744073709551616) (hv : VarsG g0 w) (hB : ∀ x ∈ B, g0 ≤ x) (hg0 : g0 ≤ w.heap.size) (hD : DKf w d B nb ob bb σ) (hgB : g ∉ B) (h1 : nb ≤ 900000000) (h2 : ob ≤ 900000000) (h3 : bb ≤ 140737488340000) :
    Calls Tryz.prog 48 #[.pointer (some ⟨g, 0, none⟩)] w fun e w' => ∃ B', e = .returned (.int .i64 ((stBegin σ n ep fs wd).1 : Nat)) ∧ BegR w w' g d n ep fs wd B nb ob bb (stBegin σ n ep fs wd) B' := by
  have HG := hide hg
  have HVG := hide hv
  have HDK := hide hD
  have HNU := hide hn
  have HGB := hide hgB
  have HLT := hide (lt_of_block hg)
  have HB := hide hB
  have HEH := hide (encodeHead_any n ep fs wd w hn (by simp [wideB] at hwd; omega))
  have HPL := hide (ehB_l48 (a := n) (b := ep) (c := fs) hwd)
  have hE : ehE wd = 0 := by simp [ehE, hwd]
  rw [hE] at HEH
  have hst0 : stBegin σ n ep fs wd = thn (thn (thn (stCreate σ (nmB n)) (fun τ => stAppend τ (nmB n) (ehB n ep fs wd))) (fun τ => stSync τ (nmB n))) stNames := rfl
  obtain ⟨ST, hST⟩ : ∃ ST, stBegin σ n ep fs wd = ST := ⟨_, rfl⟩
  rw [hST] at hst0 ⊢
  have HST := hide hst0
  generalize hPS : ehB n ep fs wd = ps at HEH HPL HST
  clear hPS hST hst0
  obtain ⟨c0, c1, c2, c3, c4, c5, c6⟩ := curC_cell hg
  clear hg hv hD hn hgB hB hE hwd
  go_enter Tryz.func48, Tryz.ntmps48
  go_wp2_with fail
  refine Calls.mono (unhide HEH) ?_
  rintro e w1 ⟨pv, rfl, nw, k1⟩
  obtain ⟨pg, hpv, hpg, hpc⟩ : ∃ pg, pv = .slice (some ⟨pg, 0, none⟩) 48 48 ∧ w.heap.size ≤ pg ∧ w1.heap[pg]? = some (.cells (ps.map u8).toArray 5 (0, 0)) := by
    rcases nw.2 with ⟨h9, _⟩ | ⟨pg, h9, h8, h7⟩
    · have := unhide HPL; rw [h9] at this; cases this
    · rw [unhide HPL] at h9; exact ⟨pg, h9, h8, h7⟩
  subst hpv
  have HPR := hide nw.1
  have HPG := hide hpg
  have HPL1 := hide (lt_of_block hpc)
  have HK1 := hide k1
  have HG1 := hide (k1.heap (unhide HG) (by simp))
  have HV1 := hide ((unhide HVG).old k1)
  have HD1 := hide ((unhide HDK).old k1)
  have HC0 := hide (fun w' (k : Kept [] w1 w') => k.cell (k1.cell c0 (by simp)) (by simp))
  have HC1 := hide (fun w' (k : Kept [] w1 w') => k.cell (k1.cell c1 (by simp)) (by simp))
  have HV := hide ((unhide HVG).old k1).now
  clear c0 c1 c2 c3 c4 c5 c6 nw k1 hpg hpc HEH
  go_upto_region 2 with fail
  refine wp_w8 (by kernel_rfl) (by kernel_rfl) (by kernel_rfl) (by kernel_rfl) (by kernel_rfl) (by kernel_rfl) (by kernel_rfl) (by kernel_rfl) (by kernel_rfl) (by kernel_rfl) (by kernel_rfl) (by kernel_rfl) (by kernel_rfl) (by kernel_rfl) (by kernel_rfl) (by kernel_rfl) (by kernel_rfl) rfl rfl
    (.pointer (some ⟨g, 0, none⟩)) (.pointer (some ⟨g, 0, none⟩)) (.pointer (some ⟨g, 0, none⟩)) (.pointer (some ⟨d, 0, none⟩)) (.pointer (some ⟨g, 0, none⟩)) _ _ _ _ _
    (fun w' => w'.cell? ⟨g, 0, none⟩ = some (.pointer (some ⟨d, 0, none⟩)))
    (fun w' => Kept [] w1 w')
    (fun u5 w' => u5 = .string (nmB (n)) ∧ Kept [] w1 w')
    (fun u5 u6 w' => w'.cell? ⟨g, 0, none⟩ = some (.pointer (some ⟨d, 0, none⟩)) ∧ ∃ B', u6 = .int .i64 ((stCreate σ (nmB n)).1 : Nat) ∧ DKf w' d B' (nb + 1) (ob + 1) bb (stCreate σ (nmB n)).2 ∧ Ev w1 w' B B')
    (fun x => x)
    (by simp only [Act.put, List.setIfInBounds_toArray, List.set_cons_zero, List.set_cons_succ]; rfl) (by exact Or.inl ⟨by rfl, fun W' hW' => by go_simp⟩)
    (by simp only [Act.put, List.setIfInBounds_toArray, List.set_cons_zero, List.set_cons_succ]; rfl) (by exact Or.inl ⟨by rfl, fun W' hW' => by go_simp⟩)
    (by simp only [Act.put, List.setIfInBounds_toArray, List.set_cons_zero, List.set_cons_succ]; rfl) (by exact Or.inl ⟨by rfl, fun W' hW' => by go_simp⟩)
    (by simp only [Act.put, List.setIfInBounds_toArray, List.set_cons_zero, List.set_cons_succ]; rfl) (by exact Or.inl ⟨by rfl, fun W' hW' => by go_simp⟩)
    (by simp only [Act.put, List.setIfInBounds_toArray, List.set_cons_zero, List.set_cons_succ]; rfl) (by exact Or.inl ⟨by rfl, fun W' hW' => by go_simp⟩)
    (Kept.refl [] w1).drew
    ⟨fun w' h => unhide HC0 w' h, fun u5 w' h => unhide HC0 w' h.2, fun u5 u6 w' h => h.1⟩
    (by
      intro w' k K hK
      refine wp_callN rfl Tryz.call89 [.pointer (some ⟨g, 0, none⟩)] rfl (wname_any g (n) w' (unhide HC1 w' k) (unhide HNU) ((unhide HV).old k)) ?_
      rintro e w2 ⟨rfl, k2⟩
      exact ⟨_, rfl, hK _ _ ⟨rfl, k.trans k2 (by simp)⟩⟩)
    (by
      rintro u5 w' ⟨rfl, k⟩ K hK
      refine wp_callN rfl Tryz.call88 [.pointer (some ⟨d, 0, none⟩), .string (nmB (n))] rfl (create_F d nb ob bb B σ (nmB n) w' ((unhide HD1).old k) (by rw [nmB_size]; omega) (by omega) (by omega)) ?_
      rintro e w2 ⟨B', rfl, h9, ev⟩
      exact ⟨_, rfl, hK _ _ ⟨ev.1.cell (unhide HC0 w' k) (unhide HGB), B', rfl, h9, Ev.pre k ev⟩⟩)
    (by
      rintro u5 u6 w' ⟨_, B', rfl, _⟩
      exact Or.inl ⟨by rfl, fun W' hW' => by go_simp⟩)
    ?_
  rintro u5 u6 w3 ⟨_, B3, rfl, h9, ev⟩
  simp only [Act.put, List.setIfInBounds_toArray, List.set_cons_zero, List.set_cons_succ]
  have HE3 := hide (Ev.pre (unhide HK1) ev)
  have HD3 := hide h9
  have HK3 := hide ev.1
  have HN3 := hide ev.2
  clear h9 ev HC0 HC1 HV
  have HG3 := hide ((unhide HK3).heap (unhide HG1) (unhide HGB))
  obtain ⟨R1, hR1⟩ : ∃ R1, stCreate σ (nmB n) = R1 := ⟨_, rfl⟩
  rw [hR1] at HD3 HST ⊢
  obtain ⟨E1, τ1⟩ := R1
  dsimp only at *
  obtain ⟨c0, c1, c2, c3, c4, c5, c6⟩ := curC_cell (unhide HG3)
  have hfz := frozen_of_row _ _ 5 _ _ (unhide HG3)
  by_cases he1 : E1 = 0
  · subst he1
    have HV := hide ((unhide HV1).on (unhide HK3) (unhide HB)).now
    have HGB3 := hide (notin_ev (unhide HE3) (unhide HGB) (unhide HLT))
    have HC0 := hide (fun w' (k : Kept [] w3 w') => k.cell c0 (by simp))
    have HC1 := hide (fun w' (k : Kept [] w3 w') => k.cell c1 (by simp))
    have HPR3 := hide ((unhide HPR).kept (unhide HK3) (fun x hx hm => by simp only [blk, List.mem_singleton] at hx; subst hx; have := (unhide HDK).lt _ hm; have := unhide HPG; omega))
    have HPB := hide (fun x hx hm => by
      have hx2 := (mem_zblk hx).1
      simp only [blk, List.mem_singleton] at hx2
      subst hx2
      rcases unhide HN3 _ hm with h7 | h7
      · have := (unhide HDK).lt _ h7; have := unhide HPG; omega
      · have := unhide HPL1; omega : ∀ x ∈ zblk (.slice (some ⟨pg, 0, none⟩) 48 48) ps, x ∉ B3)
    clear c0 c1 c2 c3 c4 c5 c6 hfz
    go_upto_region 4 with fail
    refine wp_w9 (by kernel_rfl) (by kernel_rfl) (by kernel_rfl) (by kernel_rfl) (by kernel_rfl) (by kernel_rfl) (by kernel_rfl) (by kernel_rfl) (by kernel_rfl) (by kernel_rfl) (by kernel_rfl) (by kernel_rfl) (by kernel_rfl) (by kernel_rfl) (by kernel_rfl) (by kernel_rfl) (by kernel_rfl) (by kernel_rfl) (by kernel_rfl) rfl rfl
      (.pointer (some ⟨g, 0, none⟩)) (.pointer (some ⟨g, 0, none⟩)) (.pointer (some ⟨g, 0, none⟩)) (.pointer (some ⟨d, 0, none⟩)) (.pointer (some ⟨g, 0, none⟩)) (.slice (some ⟨pg, 0, none⟩) 48 48) _ _ _ _ _ _
      (fun w' => w'.cell? ⟨g, 0, none⟩ = some (.pointer (some ⟨d, 0, none⟩)))
      (fun w' => Kept [] w3 w')
      (fun u5 w' => u5 = .string (nmB (n)) ∧ Kept [] w3 w')
      (fun u5 u7 w' => w'.cell? ⟨g, 0, none⟩ = some (.pointer (some ⟨d, 0, none⟩)) ∧ ∃ B', u7 = .int .i64 ((stAppend τ1 (nmB n) ps).1 : Nat) ∧ DKf w' d B' (nb + 1) (ob + 1 + 1) (bb + ps.length) (stAppend τ1 (nmB n) ps).2 ∧ Ev w3 w' B3 B')
      (fun x => x)
      (by simp only [Act.put, List.setIfInBounds_toArray, List.set_cons_zero, List.set_cons_succ]; rfl) (by exact Or.inl ⟨by rfl, fun W' hW' => by go_simp⟩)
      (by simp only [Act.put, List.setIfInBounds_toArray, List.set_cons_zero, List.set_cons_succ]; rfl) (by exact Or.inl ⟨by rfl, fun W' hW' => by go_simp⟩)
      (by simp only [Act.put, List.setIfInBounds_toArray, List.set_cons_zero, List.set_cons_succ]; rfl) (by exact Or.inl ⟨by rfl, fun W' hW' => by go_simp⟩)
      (by simp only [Act.put, List.setIfInBounds_toArray, List.set_cons_zero, List.set_cons_succ]; rfl) (by exact Or.inl ⟨by rfl, fun W' hW' => by go_simp⟩)
      (by simp only [Act.put, List.setIfInBounds_toArray, List.set_cons_zero, List.set_cons_succ]; rfl) (by exact Or.inl ⟨by rfl, fun W' hW' => by go_simp⟩)
      (by simp only [Act.put, List.setIfInBounds_toArray, List.set_cons_zero, List.set_cons_succ]; rfl) (by exact Or.inl ⟨by rfl, fun W' hW' => by go_simp⟩)
      (Kept.refl [] w3).drew
      ⟨fun w' h => unhide HC0 w' h, fun u5 w' h => unhide HC0 w' h.2, fun u5 u7 w' h => h.1⟩
      (by
        intro w' k K hK
        refine wp_callN rfl Tryz.call89 [.pointer (some ⟨g, 0, none⟩)] rfl (wname_any g (n) w' (unhide HC1 w' k) (unhide HNU) ((unhide HV).old k)) ?_
        rintro e w2 ⟨rfl, k2⟩
        exact ⟨_, rfl, hK _ _ ⟨rfl, k.trans k2 (by simp)⟩⟩)
      (by
        rintro u5 w' ⟨rfl, k⟩ K hK
        refine wp_callN rfl Tryz.call90 [.pointer (some ⟨d, 0, none⟩), .string (nmB (n)), .slice (some ⟨pg, 0, none⟩) 48 48] rfl (append_F d (nb + 1) (ob + 1) bb B3 τ1 (nmB n) (.slice (some ⟨pg, 0, none⟩) 48 48) ps w' ((unhide HD3).old k) (by rw [nmB_size]; omega) (by omega) (by omega) ((unhide HPR3).old k (by simp)) (unhide HPB) (by have := unhide HPL; omega)) ?_
        rintro e w2 ⟨B', rfl, h9, ev⟩
        exact ⟨_, rfl, hK _ _ ⟨ev.1.cell (unhide HC0 w' k) (unhide HGB3), B', rfl, h9, Ev.pre k ev⟩⟩)
      (by
        rintro u5 u7 w' ⟨_, B', rfl, _⟩
        exact Or.inl ⟨by rfl, fun W' hW' => by go_simp⟩)
      ?_
    rintro u5 u7 w4 ⟨_, B4, rfl, h9, ev⟩
    simp only [Act.put, List.setIfInBounds_toArray, List.set_cons_zero, List.set_cons_succ]
    have HE4 := hide ((unhide HE3).trans ev)
    have HD4 := hide h9
    clear h9 ev HC0 HC1 HV HPR3 HPB
    have HG4 := hide ((unhide HE4).1.heap (unhide HG) (unhide HGB))
    rw [unhide HPL] at HD4
    have HST2 := hide (show ST = thn (thn (stAppend τ1 (nmB n) ps) (fun τ => stSync τ (nmB n))) stNames from (unhide HST))
    clear HST
    obtain ⟨R2, hR2⟩ : ∃ R2, stAppend τ1 (nmB n) ps = R2 := ⟨_, rfl⟩
    rw [hR2] at HD4 HST2 ⊢
    obtain ⟨E2, τ2⟩ := R2
    dsimp only at *
    obtain ⟨c0, c1, c2, c3, c4, c5, c6⟩ := curC_cell (unhide HG4)
    have hfz := frozen_of_row _ _ 5 _ _ (unhide HG4)
    by_cases he2 : E2 = 0
    · subst he2
      have HST3 := hide (show ST = thn (stSync τ2 (nmB n)) stNames from (unhide HST2))
      clear HST2
      have HV := hide ((unhide HVG).on (unhide HE4).1 (unhide HB)).now
      have HGB4 := hide (notin_ev (unhide HE4) (unhide HGB) (unhide HLT))
      go_wp2_with fail
      refine Calls.mono (wflush_any g n d (nb + 1) (ob + 1 + 1) (bb + 48) B4 τ2 w4 c0 c1 (unhide HNU) (unhide HV) (unhide HD4) (unhide HGB4) (by omega) (by omega)) ?_
      rintro e w5 ⟨B5, rfl, h9, ev⟩
      have HE5 := hide ((unhide HE4).trans ev)
      have HD5 := hide h9
      clear h9 ev
      have HG5 := hide ((unhide HE5).1.heap (unhide HG) (unhide HGB))
      obtain ⟨R3, hR3⟩ : ∃ R3, stSync τ2 (nmB n) = R3 := ⟨_, rfl⟩
      rw [hR3] at HD5 HST3 ⊢
      obtain ⟨E3, τ3⟩ := R3
      dsimp only at *
      clear c0 c1 c2 c3 c4 c5 c6 hfz
      obtain ⟨c0, c1, c2, c3, c4, c5, c6⟩ := curC_cell (unhide HG5)
      have hfz := frozen_of_row _ _ 5 _ _ (unhide HG5)
      by_cases he3 : E3 = 0
      · subst he3
        have HST4 := hide (show ST = stNames τ3 from (unhide HST3))
        clear HST3
        go_wp2_with fail
        refine Calls.mono (names_F d (nb + 1) (ob + 1 + 1 + 1) (bb + 48) B5 τ3 w5 (unhide HD5) (by omega) (by omega)) ?_
        rintro e w6 ⟨B6, rfl, h9, ev⟩
        have HE6 := hide ((unhide HE5).trans ev)
        have HD6 := hide h9
        clear h9 ev
        have HG6 := hide ((unhide HE6).1.heap (unhide HG) (unhide HGB))
        rw [← unhide HST4] at HD6 ⊢
        clear c0 c1 c2 c3 c4 c5 c6 hfz
        have hfz := frozen_of_row _ _ 5 _ _ (unhide HG6)
        obtain ⟨c0, c1, c2, c3, c4, c5, c6⟩ := curC_cell (unhide HG6)
        go_wp2_with fail
        go_ret
        first | exact ⟨B6, rfl, BegR.mk (unhide HD6) (by omega) (by omega) (by omega) (unhide HE6) (unhide HG) (unhide HGB)⟩ | exact ⟨rfl, B6, BegR.mk (unhide HD6) (by omega) (by omega) (by omega) (unhide HE6) (unhide HG) (unhide HGB)⟩
      · have hs : ST = (E3, τ3) := by rw [unhide HST3]; exact thn_no he3
        subst hs
        have hq : ((E3 : Int) == 0) = false := by simp; omega
        go_wp2_with fail
        go_ret
        first | exact ⟨B5, rfl, BegR.mk (unhide HD5) (by omega) (by omega) (by omega) (unhide HE5) (unhide HG) (unhide HGB)⟩ | exact ⟨rfl, B5, BegR.mk (unhide HD5) (by omega) (by omega) (by omega) (unhide HE5) (unhide HG) (unhide HGB)⟩
    · have hs : ST = (E2, τ2) := by rw [unhide HST2, thn_no (r := (E2, τ2)) he2, thn_no (r := (E2, τ2)) he2]
      subst hs
      have hq : ((E2 : Int) == 0) = false := by simp; omega
      go_wp2_with fail
      go_ret
      first | exact ⟨B4, rfl, BegR.mk (unhide HD4) (by omega) (by omega) (by omega) (unhide HE4) (unhide HG) (unhide HGB)⟩ | exact ⟨rfl, B4, BegR.mk (unhide HD4) (by omega) (by omega) (by omega) (unhide HE4) (unhide HG) (unhide HGB)⟩
  · have hs : ST = (E1, τ1) := by rw [unhide HST, thn_no (r := (E1, τ1)) he1, thn_no (r := (E1, τ1)) he1, thn_no (r := (E1, τ1)) he1]
    subst hs
    have hq : ((E1 : Int) == 0) = false := by simp; omega
    go_wp2_with fail
    go_ret
    first | exact ⟨B3, rfl, BegR.mk (unhide HD3) (by omega) (by omega) (by omega) (unhide HE3) (unhide HG) (unhide HGB)⟩ | exact ⟨rfl, B3, BegR.mk (unhide HD3) (by omega) (by omega) (by omega) (unhide HE3) (unhide HG) (unhide HGB)⟩
end Go.Proofs.YtejchncdimcdbaaGreatDoor
namespace Go.Proofs.YtejchncdimcdbaaGreatDoor
open Go.RowKit Go.BigFrame
set_option linter.unusedVariables false
set_option linter.unusedSimpArgs false

/-- The cells of a log. -/
def lgC (d : Nat) (s : LSt) : Array Value := #[.pointer (some ⟨d, 0, none⟩), .int .u64 (s.num : Int), .int .u64 (s.ep : Int), .int .u64 (s.fst : Int), .int .i64 s.wd, .int .i64 (s.byt : Int), .int .i64 (s.bt : Int), .int .i64 s.lim, .int .u64 (s.nx : Int), .int .i64 (s.st : Int)]
theorem lgC_cell {w : World} {l d : Nat} {s : LSt} {ty : TypeId} (h : w.heap[l]? = some (.cells (lgC d s) ty (0, 0))) :
    w.cell? ⟨l, 0, none⟩ = some (.pointer (some ⟨d, 0, none⟩)) ∧ w.cell? ⟨l, 1, none⟩ = some (.int .u64 (s.num : Int)) ∧ w.cell? ⟨l, 2, none⟩ = some (.int .u64 (s.ep : Int)) ∧ w.cell? ⟨l, 3, none⟩ = some (.int .u64 (s.fst : Int)) ∧ w.cell? ⟨l, 4, none⟩ = some (.int .i64 s.wd) ∧ w.cell? ⟨l, 5, none⟩ = some (.int .i64 (s.byt : Int)) ∧ w.cell? ⟨l, 6, none⟩ = some (.int .i64 (s.bt : Int)) ∧ w.cell? ⟨l, 7, none⟩ = some (.int .i64 s.lim) ∧ w.cell? ⟨l, 8, none⟩ = some (.int .u64 (s.nx : Int)) ∧ w.cell? ⟨l, 9, none⟩ = some (.int .i64 (s.st : Int)) := by
  refine ⟨?_, ?_, ?_, ?_, ?_, ?_, ?_, ?_, ?_, ?_⟩ <;> rw [cell_of_row _ _ _ _ _ _ h] <;> rfl
/-- The log at block l over the disk at block d. -/
structure LK (w : World) (l d : Nat) (B : List Nat) (nb ob bb : Nat) (σ : DSt) (s : LSt) : Prop where
  row : w.heap[l]? = some (.cells (lgC d s) 117 (0, 0))
  dk : DKf w d B nb ob bb σ
  nl : l ∉ B
  num : s.num < 18446744073709551616
  ep : s.ep < 18446744073709551616
  nx : s.nx < 18446744073709551616
  wd : wideB s.wd = true
  bt : s.bt ≤ ob
  byt : s.byt ≤ 48 + 40000 * ob
  lim : 1 ≤ s.lim ∧ s.lim ≤ 1048576
  st : s.st < 100
def EvL (w w' : World) (l : Nat) (B B' : List Nat) : Prop := Kept (l :: B) w w' ∧ ∀ x ∈ B', x ∈ B ∨ w.heap.size ≤ x
theorem EvL.refl (w : World) (l : Nat) (B : List Nat) : EvL w w l B B := ⟨Kept.refl _ _, fun x hx => .inl hx⟩
theorem EvL.trans {a b c : World} {l : Nat} {A B C : List Nat} (h : EvL a b l A B) (k : EvL b c l B C) : EvL a c l A C := by
  refine ⟨h.1.trans k.1 (fun x hx => ?_), ?_⟩
  · rcases List.mem_cons.1 hx with rfl | hx
    · exact .inl (by simp)
    · exact (h.2 x hx).imp (fun h1 => by simp [h1]) id
  · intro x hx
    rcases k.2 x hx with h1 | h1
    · exact h.2 x h1
    · exact .inr (Nat.le_trans h.1.size h1)
theorem EvL.of {w w' : World} {l : Nat} {B B' : List Nat} (h : Ev w w' B B') : EvL w w' l B B' := ⟨h.1.mono (fun x hx => by simp [hx]), h.2⟩
theorem EvL.pre {w0 w w' : World} {l : Nat} {B B' : List Nat} (k : Kept [] w0 w) (h : EvL w w' l B B') : EvL w0 w' l B B' :=
  ⟨(k.mono (M := l :: B) (by simp)).trans h.1 (fun x hx => Or.inl hx), fun x hx => (h.2 x hx).imp id (fun h1 => Nat.le_trans k.size h1)⟩
theorem LK.lt {w : World} {l d nb ob bb : Nat} {B : List Nat} {σ : DSt} {s : LSt} (h : LK w l d B nb ob bb σ s) : l < w.heap.size := lt_of_block h.row
theorem LK.old {w w' : World} {l d nb ob bb : Nat} {B : List Nat} {σ : DSt} {s : LSt} (h : LK w l d B nb ob bb σ s) (k : Kept [] w w') : LK w' l d B nb ob bb σ s :=
  { h with row := k.heap h.row (by simp), dk := h.dk.old k }
theorem LK.kept {L : List Nat} {w w' : World} {l d nb ob bb : Nat} {B : List Nat} {σ : DSt} {s : LSt} (h : LK w l d B nb ob bb σ s) (k : Kept L w w') (hl : l ∉ L) (hn : ∀ x ∈ B, x ∉ L) : LK w' l d B nb ob bb σ s :=
  { h with row := k.heap h.row hl, dk := h.dk.kept k hn }
theorem LK.more {w : World} {l d nb ob bb : Nat} {B : List Nat} {σ : DSt} {s : LSt} (h : LK w l d B nb ob bb σ s) {nb' ob' bb' : Nat} (h1 : nb ≤ nb') (h0 : ob ≤ ob') (h2 : bb ≤ bb') : LK w l d B nb' ob' bb' σ s :=
  { h with dk := h.dk.more h1 h0 h2, bt := Nat.le_trans h.bt h0, byt := by have := h.byt; omega }
set_option maxRecDepth 100000 in
set_option maxHeartbeats 1000000 in
theorem wfull_any (l d : Nat) (s : LSt) (w : World) (hr : w.heap[l]? = some (.cells (lgC d s) 117 (0, 0))) :
    Calls Tryz.prog 106 #[.pointer (some ⟨l, 0, none⟩), .int .i64 s.lim] w fun e w' => e = .returned (.bool (lgFull s)) ∧ w' = w := by
  obtain ⟨c0, c1, c2, c3, c4, c5, c6, c7, c8, c9⟩ := lgC_cell hr
  clear hr
  unfold lgFull
  by_cases hb : 0 < s.bt
  · have hb' : (0 : Int) < (s.bt : Int) := by omega
    rw [decide_eq_true hb, Bool.true_and]
    by_cases hy : s.lim ≤ (s.byt : Int)
    · rw [decide_eq_true hy]
      go_enter Tryz.func106, Tryz.ntmps106
      go_wp2
      go_ret
      exact ⟨rfl, rfl⟩
    · rw [decide_eq_false hy]
      go_enter Tryz.func106, Tryz.ntmps106
      go_wp2
      go_ret
      exact ⟨rfl, rfl⟩
  · have hb' : ¬ (0 : Int) < (s.bt : Int) := by omega
    rw [decide_eq_false hb, Bool.false_and]
    go_enter Tryz.func106, Tryz.ntmps106
    go_wp2
    go_ret
    exact ⟨rfl, rfl⟩
set_option maxRecDepth 100000 in
set_option maxHeartbeats 1000000 in
theorem wfail_any (l d : Nat) (s : LSt) (w : World) (hr : w.heap[l]? = some (.cells (lgC d s) 117 (0, 0))) :
    Calls Tryz.prog 57 #[.pointer (some ⟨l, 0, none⟩)] w fun e w' => e = .returned (.int .i64 ((lgFail s : Nat) : Int)) ∧ w' = w := by
  obtain ⟨c0, c1, c2, c3, c4, c5, c6, c7, c8, c9⟩ := lgC_cell hr
  clear hr
  unfold lgFail
  by_cases h0 : s.st = 0
  · rw [if_pos (Or.inl h0)]
    have g0 : ((s.st : Int) == 0) = true := by simp; omega
    go_enter Tryz.func57, Tryz.ntmps57
    go_wp2
    go_ret
    exact ⟨by rw [h0]; rfl, rfl⟩
  · have g0 : ((s.st : Int) == 0) = false := by simp; omega
    by_cases h1 : s.st = 12
    · rw [if_pos (Or.inr h1)]
      have g1 : ((s.st : Int) == 12) = true := by simp; omega
      go_enter Tryz.func57, Tryz.ntmps57
      go_wp2
      go_ret
      exact ⟨by rw [h1]; rfl, rfl⟩
    · rw [if_neg (by omega)]
      have g1 : ((s.st : Int) == 12) = false := by simp; omega
      go_enter Tryz.func57, Tryz.ntmps57
      go_wp2
      go_ret
      exact ⟨rfl, rfl⟩
set_option maxRecDepth 100000 in
set_option maxHeartbeats 1000000 in
theorem wnext_any (l d : Nat) (s : LSt) (w : World) (hr : w.heap[l]? = some (.cells (lgC d s) 117 (0, 0))) :
    Calls Tryz.prog 22 #[.pointer (some ⟨l, 0, none⟩)] w fun e w' => e = .returned (.int .u64 (s.nx : Int)) ∧ w' = w := by
  obtain ⟨c0, c1, c2, c3, c4, c5, c6, c7, c8, c9⟩ := lgC_cell hr
  clear hr
  go_enter Tryz.func22, Tryz.ntmps22
  go_wp2
  go_ret
  exact ⟨rfl, rfl⟩
set_option maxRecDepth 100000 in
set_option maxHeartbeats 1000000 in
theorem wepoch_any (l d : Nat) (s : LSt) (w : World) (hr : w.heap[l]? = some (.cells (lgC d s) 117 (0, 0))) :
    Calls Tryz.prog 23 #[.pointer (some ⟨l, 0, none⟩)] w fun e w' => e = .returned (.int .u64 (s.ep : Int)) ∧ w' = w := by
  obtain ⟨c0, c1, c2, c3, c4, c5, c6, c7, c8, c9⟩ := lgC_cell hr
  clear hr
  go_enter Tryz.func23, Tryz.ntmps23
  go_wp2
  go_ret
  exact ⟨rfl, rfl⟩
set_option maxRecDepth 100000 in
set_option maxHeartbeats 1000000 in
theorem wsegno_any (l d : Nat) (s : LSt) (w : World) (hr : w.heap[l]? = some (.cells (lgC d s) 117 (0, 0))) :
    Calls Tryz.prog 24 #[.pointer (some ⟨l, 0, none⟩)] w fun e w' => e = .returned (.int .u64 (s.num : Int)) ∧ w' = w := by
  obtain ⟨c0, c1, c2, c3, c4, c5, c6, c7, c8, c9⟩ := lgC_cell hr
  clear hr
  go_enter Tryz.func24, Tryz.ntmps24
  go_wp2
  go_ret
  exact ⟨rfl, rfl⟩
set_option maxRecDepth 100000 in
set_option maxHeartbeats 1000000 in
theorem wstate_any (l d : Nat) (s : LSt) (w : World) (hr : w.heap[l]? = some (.cells (lgC d s) 117 (0, 0))) :
    Calls Tryz.prog 25 #[.pointer (some ⟨l, 0, none⟩)] w fun e w' => e = .returned (.int .i64 (s.st : Int)) ∧ w' = w := by
  obtain ⟨c0, c1, c2, c3, c4, c5, c6, c7, c8, c9⟩ := lgC_cell hr
  clear hr
  go_enter Tryz.func25, Tryz.ntmps25
  go_wp2
  go_ret
  exact ⟨rfl, rfl⟩
end Go.Proofs.YtejchncdimcdbaaGreatDoor
namespace Go.Proofs.YtejchncdimcdbaaGreatDoor
open Go.RowKit Go.BigFrame
set_option linter.unusedVariables false
set_option linter.unusedSimpArgs false

theorem Tryz.size_cur : (Tryz.prog.info? 115).map (·.size) = some 7 := by kernel_rfl
theorem results_cellW {P : Program} {fn : Func} {p : Tmp} {ty : TypeId} (h : fn.results = #[.cell p ty]) (tmps : Array Value) (w : World) (g : Nat) (t : TypeId) (cs : Array Value) (fr : Nat × Nat) (d : TypeDesc)
    (hp : tmps.getD p undef = .pointer (some ⟨g, 0, none⟩)) (hg : w.heap[g]? = some (.cells cs t fr))
    (hu : P.underlying ty = some d) (hd : (match d with | .struct _ | .array _ _ => true | _ => false) = true) (hi : (P.info? ty).map (·.size) = some cs.size) :
    (results fn tmps).run P w = .ok (.agg cs) w := by
  have hp' : tmps[p]?.getD undef = .pointer (some ⟨g, 0, none⟩) := by simpa using hp
  simp [results, h, hp', asAddr, run_loadVar_row w g t ty cs fr d hg hu hd hi]
set_option maxRecDepth 100000 in
set_option maxHeartbeats 2000000 in
theorem wbehind_any (l d f : Nat) (s : LSt) (w : World) (hr : w.heap[l]? = some (.cells (lgC d s) 117 (0, 0))) (hn : s.num + 1 < 18446744073709551616) :
    Calls Tryz.prog 153 #[.pointer (some ⟨l, 0, none⟩), .int .u64 (f : Int)] w fun e w' => e = .returned (.agg (curC d (s.num + 1) s.ep f s.wd 0 0)) ∧ Kept [] w w' := by
  have hk0 := (Kept.refl [] w).alloc (.cells #[.pointer none, .int .u64 0, .int .u64 0, .int .u64 0, .int .i64 0, .int .i64 0, .int .i64 0] 115)
  obtain ⟨c0, c1, c2, c3, c4, c5, c6, c7, c8, c9⟩ := lgC_cell (hk0.heap hr (by simp))
  have HK0 := hide hk0
  clear hk0
  have hwr : IntKind.u64.wrap ((s.num : Int) + 1) = ((s.num + 1 : Nat) : Int) := by rw [IntKind.wrap_u64]; omega
  have hlt : l ≠ w.heap.size := by have := lt_of_block hr; omega
  go_enter Tryz.func153, Tryz.ntmps153
  go_upto_region 3 with fail
  have hk2 := (unhide HK0).alloc (.cells #[.int .u64 ((s.num : Int) + 1), .int .u64 (s.ep : Int), .int .u64 (f : Int), .int .i64 s.wd] 81)
  have hh2 := heap_alloc_new (w.alloc (.cells #[.pointer none, .int .u64 0, .int .u64 0, .int .u64 0, .int .i64 0, .int .i64 0, .int .i64 0] 115)) (.cells #[.int .u64 ((s.num : Int) + 1), .int .u64 (s.ep : Int), .int .u64 (f : Int), .int .i64 s.wd] 81)
  have hz2 := ((Kept.refl [] _).alloc (.cells #[.int .u64 ((s.num : Int) + 1), .int .u64 (s.ep : Int), .int .u64 (f : Int), .int .i64 s.wd] 81)).heap (heap_alloc_new w (.cells #[.pointer none, .int .u64 0, .int .u64 0, .int .u64 0, .int .i64 0, .int .i64 0, .int .i64 0] 115)) (by simp)
  obtain ⟨W2, hW2⟩ : ∃ W, (w.alloc (.cells #[.pointer none, .int .u64 0, .int .u64 0, .int .u64 0, .int .i64 0, .int .i64 0, .int .i64 0] 115)).alloc (.cells #[.int .u64 ((s.num : Int) + 1), .int .u64 (s.ep : Int), .int .u64 (f : Int), .int .i64 s.wd] 81) = W := ⟨_, rfl⟩
  rw [hW2] at hk2 hh2 hz2 ⊢
  rw [show (w.alloc (.cells #[.pointer none, .int .u64 0, .int .u64 0, .int .u64 0, .int .i64 0, .int .i64 0, .int .i64 0] 115)).heap.size = w.heap.size + 1 by simp] at hh2
  have HK2 := hide hk2
  have HZ2 := hide hz2
  obtain ⟨q0, q1, q2, q3⟩ := hcells hh2
  clear c0 c1 c2 c3 c4 c5 c6 c7 c8 c9 hW2
  have c0 := (lgC_cell (hk2.heap hr (by simp))).1
  clear hk2 hz2 hh2 hr
  refine wp_quiet_tail 6 (by kernel_rfl) (by kernel_rfl) ?_
  simp only [List.take_succ_cons, List.take_zero, List.drop_succ_cons, List.drop_zero]
  repeat (go_big_quiet_step (fail))
  refine wpQuiet_nil ?_
  rintro _ ⟨n5, rfl⟩
  have HK5 := hide ((unhide HK2).drewN n5)
  have HZ5 := hide (((Kept.refl [] W2).drewN n5).heap (unhide HZ2) (by simp))
  generalize W2.drewN n5 = W5 at HK5 HZ5 ⊢
  clear c0 q0 q1 q2 q3 HK2 HZ2
  refine wpList_plain rfl fun K hK => ?_
  refine wp_store_row 115 (.tmp 4) (.tmp 21) rfl w.heap.size (curC d (s.num + 1) s.ep f s.wd 0 0) rfl (by unfold curC; simp [Act.eval]) 115 _ (unhide HZ5) Tryz.size_cur rfl (by simp [curC, Value.oneCell']) (hK _ _ ?_)
  have HK6 := hide (Kept.setRow (unhide HK5) (Or.inr (Nat.le_refl _)) (curC d (s.num + 1) s.ep f s.wd 0 0) : Kept [] w (W5.setRow w.heap.size (curC d (s.num + 1) s.ep f s.wd 0 0)))
  have HZ6 := hide (setRow_heap W5 w.heap.size _ (curC d (s.num + 1) s.ep f s.wd 0 0) _ _ (unhide HZ5))
  generalize W5.setRow w.heap.size (curC d (s.num + 1) s.ep f s.wd 0 0) = W6 at HK6 HZ6 ⊢
  go_wp2_with fail
  refine bodyPost_ret (v := .agg (curC d (s.num + 1) s.ep f s.wd 0 0)) ?_ rfl ⟨rfl, unhide HK6⟩
  exact results_cellW rfl _ _ w.heap.size _ (curC d (s.num + 1) s.ep f s.wd 0 0) (0, 0) _ rfl (unhide HZ6) Tryz.underlying115 rfl Tryz.size_cur
end Go.Proofs.YtejchncdimcdbaaGreatDoor
namespace Go.Proofs.YtejchncdimcdbaaGreatDoor
open Go.RowKit Go.BigFrame
set_option linter.unusedVariables false
set_option linter.unusedSimpArgs false

theorem lay_row {w : World} {l d : Nat} {s : LSt} {t : TypeId} (h : w.heap[l]? = some (.cells (lgC d s) t (0, 0))) (x y : Nat) : ((w.setCell ⟨l, 5, none⟩ (.int .i64 (x : Int))).setCell ⟨l, 6, none⟩ (.int .i64 (y : Int))).heap[l]? = some (.cells (lgC d { s with byt := x, bt := y }) t (0, 0)) := by
  rw [heap_setCell_same _ l 6 _ t _ (heap_setCell_same w l 5 _ t _ h)]
  rfl
theorem lfroz {w : World} {b : Nat} {cs : Array Value} {t : TypeId} (h : w.heap[b]? = some (.cells cs t (0, 0))) : w.frozen? ⟨b, 0, none⟩ = false ∧ w.frozen? ⟨b, 1, none⟩ = false ∧ w.frozen? ⟨b, 2, none⟩ = false ∧ w.frozen? ⟨b, 3, none⟩ = false ∧ w.frozen? ⟨b, 4, none⟩ = false ∧ w.frozen? ⟨b, 5, none⟩ = false ∧ w.frozen? ⟨b, 6, none⟩ = false ∧ w.frozen? ⟨b, 8, none⟩ = false ∧ w.frozen? ⟨b, 9, none⟩ = false :=
  ⟨frozen_of_row _ _ _ _ _ h, frozen_of_row _ _ _ _ _ h, frozen_of_row _ _ _ _ _ h, frozen_of_row _ _ _ _ _ h, frozen_of_row _ _ _ _ _ h, frozen_of_row _ _ _ _ _ h, frozen_of_row _ _ _ _ _ h, frozen_of_row _ _ _ _ _ h, frozen_of_row _ _ _ _ _ h⟩
/-- The log's own cells turn. -/
theorem LK.turn {w w3 w' : World} {l d nb ob bb nb3 ob3 bb3 : Nat} {B B3 : List Nat} {σ τ : DSt} {s s' : LSt} (h : LK w l d B nb ob bb σ s) (ev : Ev w w3 B B3) (hD : DKf w3 d B3 nb3 ob3 bb3 τ) (k : Kept [l] w3 w') (hr : w'.heap[l]? = some (.cells (lgC d s') 117 (0, 0)))
    (h1 : s'.num < 18446744073709551616) (h2 : s'.ep = s.ep) (h3 : s'.nx < 18446744073709551616) (h4 : s'.wd = s.wd) (h5 : s'.bt ≤ ob3) (h6 : s'.byt ≤ 48 + 40000 * ob3) (h7 : s'.lim = s.lim) (h8 : s'.st < 100) :
    LK w' l d B3 nb3 ob3 bb3 τ s' ∧ EvL w w' l B B3 := by
  have hn := notin_ev ev h.nl h.lt
  refine ⟨⟨hr, hD.kept k (fun x hx hm => hn (by rw [← List.mem_singleton.1 hm]; exact hx)), hn, h1, by rw [h2]; exact h.ep, h3, by rw [h4]; exact h.wd, h5, h6, by rw [h7]; exact h.lim, h8⟩, ?_⟩
  exact ⟨(ev.1.mono (M := l :: B) (fun x hx => by simp [hx])).trans k (fun x hx => Or.inl (by rw [List.mem_singleton.1 hx]; simp)), ev.2⟩
set_option maxRecDepth 100000 in
set_option maxHeartbeats 2000000 in
theorem wlay_any (l d nb ob bb g0 : Nat) (B : List Nat) (σ : DSt) (s : LSt) (pv : Value) (ps : List Nat) (w : World) (h : LK w l d B nb ob bb σ s) (hv : VarsG g0 w) (hp : Rd w pv ps) (hpd : ∀ x ∈ zblk pv ps, x ∉ B) (hpl : ps.length ≤ 40000) (h1 : nb ≤ 900000000) (h2 : ob ≤ 900000000) (h3 : bb ≤ 140737488300000) :
    Calls Tryz.prog 108 #[.pointer (some ⟨l, 0, none⟩), pv] w fun e w' => ∃ B', e = .returned (.int .i64 ((lgLay σ s ps).1 : Nat)) ∧ LK w' l d B' nb (ob + 1) (bb + ps.length) (lgLay σ s ps).2.1 (lgLay σ s ps).2.2 ∧ EvL w w' l B B' := by
  have H := hide h
  have HNU := hide h.num
  have HV := hide hv.now
  have HP := hide hp
  have HPD := hide hpd
  obtain ⟨pa, pn, pc, rfl, hpn, _⟩ := id hp
  subst hpn
  obtain ⟨c0, c1, _⟩ := lgC_cell h.row
  have HC0 := hide (fun w' (k : Kept [] w w') => k.cell c0 (by simp))
  have HC1 := hide (fun w' (k : Kept [] w w') => k.cell c1 (by simp))
  obtain ⟨LS, hLS⟩ : ∃ LS, lgLay σ s ps = ((stAppend σ (nmB s.num) ps).1, (stAppend σ (nmB s.num) ps).2, LS) := ⟨_, rfl⟩
  have hLS2 : LS = (lgLay σ s ps).2.2 := by rw [hLS]
  have HY := hide (fun (h0 : (stAppend σ (nmB s.num) ps).1 = 0) => (by rw [hLS2]; unfold lgLay; simp only [h0, if_true] : LS = { s with byt := s.byt + ps.length, bt := s.bt + 1 }))
  have HN := hide (fun (h0 : (stAppend σ (nmB s.num) ps).1 ≠ 0) => (by rw [hLS2]; unfold lgLay; simp only [h0, if_false] : LS = s))
  rw [hLS]
  clear h hv hp hpd c0 c1 hLS hLS2
  obtain ⟨R1, hR1⟩ : ∃ R1, stAppend σ (nmB s.num) ps = R1 := ⟨_, rfl⟩
  rw [hR1] at HY HN ⊢
  have HR1 := hide hR1
  clear hR1
  obtain ⟨E1, τ1⟩ := R1
  dsimp only at *
  go_enter Tryz.func108, Tryz.ntmps108
  go_upto_region 1 with fail
  refine wp_w9 (by kernel_rfl) (by kernel_rfl) (by kernel_rfl) (by kernel_rfl) (by kernel_rfl) (by kernel_rfl) (by kernel_rfl) (by kernel_rfl) (by kernel_rfl) (by kernel_rfl) (by kernel_rfl) (by kernel_rfl) (by kernel_rfl) (by kernel_rfl) (by kernel_rfl) (by kernel_rfl) (by kernel_rfl) (by kernel_rfl) (by kernel_rfl) rfl rfl
    (.pointer (some ⟨l, 0, none⟩)) (.pointer (some ⟨l, 0, none⟩)) (.pointer (some ⟨l, 0, none⟩)) (.pointer (some ⟨d, 0, none⟩)) (.pointer (some ⟨l, 0, none⟩)) (.slice pa ps.length pc) _ _ _ _ _ _
    (fun w' => w'.cell? ⟨l, 0, none⟩ = some (.pointer (some ⟨d, 0, none⟩)))
    (fun w' => Kept [] w w')
    (fun u5 w' => u5 = .string (nmB (s.num)) ∧ Kept [] w w')
    (fun u5 u7 w' => w'.cell? ⟨l, 0, none⟩ = some (.pointer (some ⟨d, 0, none⟩)) ∧ ∃ B', u7 = .int .i64 ((stAppend σ (nmB s.num) ps).1 : Nat) ∧ DKf w' d B' nb (ob + 1) (bb + ps.length) (stAppend σ (nmB s.num) ps).2 ∧ Ev w w' B B')
    (fun x => x)
    (by simp only [Act.put, List.setIfInBounds_toArray, List.set_cons_zero, List.set_cons_succ]; rfl) (by exact Or.inl ⟨by rfl, fun W' hW' => by go_simp⟩)
    (by simp only [Act.put, List.setIfInBounds_toArray, List.set_cons_zero, List.set_cons_succ]; rfl) (by exact Or.inl ⟨by rfl, fun W' hW' => by go_simp⟩)
    (by simp only [Act.put, List.setIfInBounds_toArray, List.set_cons_zero, List.set_cons_succ]; rfl) (by exact Or.inl ⟨by rfl, fun W' hW' => by go_simp⟩)
    (by simp only [Act.put, List.setIfInBounds_toArray, List.set_cons_zero, List.set_cons_succ]; rfl) (by exact Or.inl ⟨by rfl, fun W' hW' => by go_simp⟩)
    (by simp only [Act.put, List.setIfInBounds_toArray, List.set_cons_zero, List.set_cons_succ]; rfl) (by exact Or.inl ⟨by rfl, fun W' hW' => by go_simp⟩)
    (by simp only [Act.put, List.setIfInBounds_toArray, List.set_cons_zero, List.set_cons_succ]; rfl) (by exact Or.inl ⟨by rfl, fun W' hW' => by go_simp⟩)
    (Kept.refl [] w).drew
    ⟨fun w' h => unhide HC0 w' h, fun u5 w' h => unhide HC0 w' h.2, fun u5 u7 w' h => h.1⟩
    (by
      intro w' k K hK
      refine wp_callN rfl Tryz.call89 [.pointer (some ⟨l, 0, none⟩)] rfl (wname_any l (s.num) w' (unhide HC1 w' k) (unhide HNU) ((unhide HV).old k)) ?_
      rintro e w2 ⟨rfl, k2⟩
      exact ⟨_, rfl, hK _ _ ⟨rfl, k.trans k2 (by simp)⟩⟩)
    (by
      rintro u5 w' ⟨rfl, k⟩ K hK
      refine wp_callN rfl Tryz.call90 [.pointer (some ⟨d, 0, none⟩), .string (nmB (s.num)), .slice pa ps.length pc] rfl (append_F d nb ob bb B σ (nmB s.num) (.slice pa ps.length pc) ps w' ((unhide H).dk.old k) (by rw [nmB_size]; omega) (by omega) (by omega) ((unhide HP).old k (by simp)) (unhide HPD) (by omega)) ?_
      rintro e w2 ⟨B', rfl, h9, ev⟩
      exact ⟨_, rfl, hK _ _ ⟨ev.1.cell (unhide HC0 w' k) ((unhide H).nl), B', rfl, h9, Ev.pre k ev⟩⟩)
    (by
      rintro u5 u7 w' ⟨_, B', rfl, _⟩
      exact Or.inl ⟨by rfl, fun W' hW' => by go_simp⟩)
    ?_
  rintro u5 u7 w3 ⟨_, B3, rfl, h9, ev⟩
  simp only [Act.put, List.setIfInBounds_toArray, List.set_cons_zero, List.set_cons_succ]
  rw [unhide HR1] at h9 ⊢
  have HE3 := hide ev
  have HD3 := hide h9
  have HR3 := hide (ev.1.heap (unhide H).row (unhide H).nl)
  clear h9 ev HC0 HC1 HV HP HPD
  obtain ⟨c0, c1, c2, c3, c4, c5, c6, c7, c8, c9⟩ := lgC_cell (unhide HR3)
  obtain ⟨f0, f1, f2, f3, f4, f5, f6, f8, f9⟩ := lfroz (unhide HR3)
  by_cases he1 : E1 = 0
  · obtain rfl := unhide HY he1
    subst he1
    have hw1 : IntKind.i64.wrap ((s.byt : Int) + (ps.length : Int)) = ((s.byt + ps.length : Nat) : Int) := by
      have := (unhide H).byt
      rw [IntKind.wrap_i64]; omega
    have hw2 : IntKind.i64.wrap ((s.bt : Int) + 1) = ((s.bt + 1 : Nat) : Int) := by
      have := (unhide H).bt
      rw [IntKind.wrap_i64]; omega
    clear HY HN
    go_wp2_with fail
    all_goals go_ret
    all_goals have hz := lay_row (unhide HR3) (s.byt + ps.length) (s.bt + 1)
    all_goals have kz : Kept [l] w3 ((w3.setCell ⟨l, 5, none⟩ (.int .i64 ((s.byt + ps.length : Nat) : Int))).setCell ⟨l, 6, none⟩ (.int .i64 ((s.bt + 1 : Nat) : Int))) := ((Kept.refl [l] w3).setCell (p := ⟨l, 5, none⟩) (.inl (by simp)) _).setCell (p := ⟨l, 6, none⟩) (.inl (by simp)) _
    all_goals have hfin := (unhide H).turn (unhide HE3) (unhide HD3) kz hz (unhide H).num rfl (unhide H).nx rfl (by have := (unhide H).bt; simp only; omega) (by have := (unhide H).byt; simp only; omega) rfl (unhide H).st
    all_goals push_cast at hfin
    all_goals first | exact ⟨B3, rfl, hfin.1, hfin.2⟩ | exact ⟨rfl, B3, hfin.1, hfin.2⟩
  · have hq : ((E1 : Int) == 0) = false := by simp; omega
    obtain rfl := unhide HN he1
    clear HY HN
    go_wp2_with fail
    go_ret
    have hfin := (unhide H).turn (unhide HE3) (unhide HD3) (Kept.refl [l] w3) (unhide HR3) (unhide H).num rfl (unhide H).nx rfl (by have := (unhide H).bt; omega) (by have := (unhide H).byt; omega) rfl (unhide H).st
    first | exact ⟨B3, rfl, hfin.1, hfin.2⟩ | exact ⟨rfl, B3, hfin.1, hfin.2⟩
end Go.Proofs.YtejchncdimcdbaaGreatDoor
namespace Go.Proofs.YtejchncdimcdbaaGreatDoor
open Go.RowKit Go.BigFrame
set_option linter.unusedVariables false
set_option linter.unusedSimpArgs false

set_option maxHeartbeats 2000000 in
theorem put7_row {w : World} {l d : Nat} {s : LSt} {t : TypeId} (h : w.heap[l]? = some (.cells (lgC d s) t (0, 0))) (n ep fs : Nat) (wd : Int) (b q : Nat) :
    (((((((w.setCell ⟨l, 0, none⟩ (.pointer (some ⟨d, 0, none⟩))).setCell ⟨l, 1, none⟩ (.int .u64 (n : Int))).setCell ⟨l, 2, none⟩ (.int .u64 (ep : Int))).setCell ⟨l, 3, none⟩ (.int .u64 (fs : Int))).setCell ⟨l, 4, none⟩ (.int .i64 wd)).setCell ⟨l, 5, none⟩ (.int .i64 (b : Int))).setCell ⟨l, 6, none⟩ (.int .i64 (q : Int))).heap[l]? = some (.cells (lgC d { s with num := n, ep := ep, fst := fs, wd := wd, byt := b, bt := q }) t (0, 0)) := by
  rw [heap_setCell_same _ l 6 _ t _ (heap_setCell_same _ l 5 _ t _ (heap_setCell_same _ l 4 _ t _ (heap_setCell_same _ l 3 _ t _ (heap_setCell_same _ l 2 _ t _ (heap_setCell_same _ l 1 _ t _ (heap_setCell_same w l 0 _ t _ h))))))]
  rfl
theorem wp_alloccur {o : Oper} {a : Act} {w : World} {K : Act → World → Prop} {Q : Exit → Act → World → Prop} (ho : o.op = .alloc 115) (h : K (a.put o.dst (.pointer (some ⟨w.heap.size, 0, none⟩))) (w.alloc (.cells #[.pointer none, .int .u64 0, .int .u64 0, .int .u64 0, .int .i64 0, .int .i64 0, .int .i64 0] 115))) : o.wp Tryz.prog a w K Q := by
  unfold Oper.wp execOp
  simp only [ho]
  go_simp
  exact h
/-- A new block of a segment that is written. -/
def Alc (W : World) (u : Value) (cs : Array Value) (w : World) : Prop := ∃ g, u = .pointer (some ⟨g, 0, none⟩) ∧ W.heap.size ≤ g ∧ w.heap[g]? = some (.cells cs 115 (0, 0))
abbrev zCur : Array Value := #[.pointer none, .int .u64 0, .int .u64 0, .int .u64 0, .int .i64 0, .int .i64 0, .int .i64 0]
theorem Alc.pass {W w w' : World} {u : Value} {cs : Array Value} (h : Alc W u cs w) (k : Kept [] w w') : Alc W u cs w' := by
  obtain ⟨g, h1, h2, h3⟩ := h; exact ⟨g, h1, h2, k.heap h3 (by simp)⟩
theorem alc_new {W w : World} (k : Kept [] W w) : Alc W (.pointer (some ⟨w.heap.size, 0, none⟩)) zCur (w.alloc (.cells zCur 115)) := ⟨_, rfl, k.size, heap_alloc_new _ _⟩
set_option maxRecDepth 100000 in
set_option maxHeartbeats 4000000 in
theorem wrot_any (l d nb ob bb g0 : Nat) (B : List Nat) (σ : DSt) (s : LSt) (w : World) (h : LK w l d B nb ob bb σ s) (hv : VarsG g0 w) (hB : ∀ x ∈ B, g0 ≤ x) (hg0 : g0 ≤ w.heap.size) (h1 : nb ≤ 800000000) (h2 : ob ≤ 800000000) (h3 : bb ≤ 140737488200000) :
    Calls Tryz.prog 107 #[.pointer (some ⟨l, 0, none⟩)] w fun e w' => ∃ B', e = .returned (.int .i64 ((lgRot σ s).1 : Nat)) ∧ LK w' l d B' (nb + 1) (ob + 5) (bb + 48) (lgRot σ s).2.1 (lgRot σ s).2.2 ∧ EvL w w' l B B' := by
  have H := hide h
  have HVG := hide hv
  have HB := hide hB
  obtain ⟨⟨E1, τ1⟩, hR1⟩ : ∃ R1, stSync σ (nmB s.num) = R1 := ⟨_, rfl⟩
  obtain ⟨⟨E2, τ2⟩, hR2⟩ : ∃ R2, stBegin τ1 (s.num + 1) s.ep s.nx s.wd = R2 := ⟨_, rfl⟩
  obtain ⟨⟨E, τ, s'⟩, hL⟩ : ∃ R, lgRot σ s = R := ⟨_, rfl⟩
  have HA := hide (fun (h0 : E1 ≠ 0) => (by rw [← hL]; unfold lgRot; rw [hR1]; simp only [ne_eq, h0, not_false_eq_true, if_true] : (E, τ, s') = (E1, τ1, s)))
  have HBB := hide (fun (h0 : E1 = 0) (h8 : s.num = 18446744073709551615) => (by rw [← hL]; unfold lgRot; rw [hR1]; simp only [ne_eq, h0, not_true_eq_false, if_false, h8, if_true] : (E, τ, s') = (7, τ1, s)))
  have HCC := hide (fun (h0 : E1 = 0) (h8 : s.num ≠ 18446744073709551615) (h7 : E2 ≠ 0) => (by rw [← hL]; unfold lgRot; rw [hR1]; dsimp only; rw [hR2]; simp only [ne_eq, h0, not_true_eq_false, if_false, h8, h7, not_false_eq_true, if_true] : (E, τ, s') = (E2, τ2, s)))
  have HDD := hide (fun (h0 : E1 = 0) (h8 : s.num ≠ 18446744073709551615) (h7 : E2 = 0) => (by rw [← hL]; unfold lgRot; rw [hR1]; dsimp only; rw [hR2]; simp only [ne_eq, h0, not_true_eq_false, if_false, h8, h7] : (E, τ, s') = (0, τ2, { s with num := s.num + 1, fst := s.nx, byt := 48, bt := 0 })))
  rw [hL]
  have HR1 := hide hR1
  have HR2 := hide hR2
  obtain ⟨c0, c1, _⟩ := lgC_cell h.row
  have HFL := hide (wflush_any l s.num d nb ob bb B σ w c0 c1 h.num hv.now h.dk h.nl (by omega) (by omega))
  rw [hR1] at HFL
  clear h hv hB hL hR1 hR2 c0 c1
  dsimp only at *
  go_enter Tryz.func107, Tryz.ntmps107
  go_wp2_with fail
  refine Calls.mono (unhide HFL) ?_
  rintro e w1 ⟨B1, rfl, hd1, ev1⟩
  have HD1 := hide hd1
  have HE1 := hide ev1
  have HR := hide (ev1.1.heap (unhide H).row (unhide H).nl)
  clear hd1 ev1 HFL
  by_cases he1 : E1 = 0
  · subst he1
    obtain ⟨c0, c1, c2, c3, c4, c5, c6, c7, c8, c9⟩ := lgC_cell (unhide HR)
    by_cases hm : s.num = 18446744073709551615
    · have hz := unhide HBB (by simp) hm
      cases hz
      have hq : ((s.num : Int) == 18446744073709551615) = true := by simp; omega
      go_wp2_with fail
      go_ret
      have hfin := (unhide H).turn (unhide HE1) (unhide HD1) (Kept.refl [l] w1) (unhide HR) (unhide H).num rfl (unhide H).nx rfl (by have := (unhide H).bt; omega) (by have := (unhide H).byt; omega) rfl (unhide H).st
      have hf1 := hfin.1.more (nb' := nb + 1) (ob' := ob + 5) (bb' := bb + 48) (by omega) (by omega) (by omega)
      first | exact ⟨B1, rfl, hf1, hfin.2⟩ | exact ⟨rfl, B1, hf1, hfin.2⟩
    · have hq : ((s.num : Int) == 18446744073709551615) = false := by simp; omega
      have HCX := hide c8
      have HNM := hide (by have := (unhide H).num; omega : s.num + 1 < 18446744073709551616)
      clear c0 c2 c3 c4 c5 c6 c7 c9
      go_upto_region 6 with fail
      clear c1 c8
      refine wp_w10 (by kernel_rfl) (by kernel_rfl) (by kernel_rfl) (by kernel_rfl) (by kernel_rfl) (by kernel_rfl) (by kernel_rfl) (by kernel_rfl) (by kernel_rfl) (by kernel_rfl) (by kernel_rfl) (by kernel_rfl) (by kernel_rfl) (by kernel_rfl) (by kernel_rfl) (by kernel_rfl) (by kernel_rfl) (by kernel_rfl) (by kernel_rfl) (by kernel_rfl) (by kernel_rfl) rfl rfl rfl (by intro x hx; cases hx; decide)
        (.pointer (some ⟨l, 0, none⟩)) (.pointer (some ⟨l, 0, none⟩)) (.pointer (some ⟨l, 0, none⟩)) (.pointer (some ⟨l, 0, none⟩)) (.pointer (some ⟨l, 0, none⟩)) (.pointer (some ⟨l, 8, none⟩)) (.int .u64 (s.nx : Int)) _ _ _ _ _ _ _
        (fun w' => w'.cell? ⟨l, 8, none⟩ = some (.int .u64 (s.nx : Int)))
        (fun w' => Kept [] w1 w')
        (fun u7 w' => u7 = .agg (curC d (s.num + 1) s.ep s.nx s.wd 0 0) ∧ Kept [] w1 w')
        (fun u8 w' => Alc w1 u8 zCur w' ∧ Kept [] w1 w')
        (fun u7 u8 w' => u7 = .agg (curC d (s.num + 1) s.ep s.nx s.wd 0 0) ∧ Alc w1 u8 zCur w' ∧ Kept [] w1 w')
        (fun u7 u8 u9 w' => u7 = .agg (curC d (s.num + 1) s.ep s.nx s.wd 0 0) ∧ Alc w1 u8 (curC d (s.num + 1) s.ep s.nx s.wd 0 0) w' ∧ Kept [] w1 w')
        (by simp only [Act.put, List.setIfInBounds_toArray, List.set_cons_zero, List.set_cons_succ]; rfl) (by exact Or.inl ⟨by rfl, fun W' hW' => by go_simp⟩)
        (by simp only [Act.put, List.setIfInBounds_toArray, List.set_cons_zero, List.set_cons_succ]; rfl) (by exact Or.inl ⟨by rfl, fun W' hW' => by go_simp⟩)
        (by simp only [Act.put, List.setIfInBounds_toArray, List.set_cons_zero, List.set_cons_succ]; rfl) (by exact Or.inl ⟨by rfl, fun W' hW' => by go_simp⟩)
        (by simp only [Act.put, List.setIfInBounds_toArray, List.set_cons_zero, List.set_cons_succ]; rfl) (by exact Or.inl ⟨by rfl, fun W' hW' => by go_simp⟩)
        (by simp only [Act.put, List.setIfInBounds_toArray, List.set_cons_zero, List.set_cons_succ]; rfl) (by exact Or.inl ⟨by rfl, fun W' hW' => by go_simp⟩)
        (by simp only [Act.put, List.setIfInBounds_toArray, List.set_cons_zero, List.set_cons_succ]; rfl) (by exact Or.inl ⟨by rfl, fun W' hW' => by go_simp⟩)
        (by simp only [Act.put, List.setIfInBounds_toArray, List.set_cons_zero, List.set_cons_succ]; rfl) (by exact Or.inl ⟨by rfl, fun W' hW' => by go_simp⟩)
        (Kept.refl [] w1).drew
        ⟨fun w' h => h.cell (unhide HCX) (by simp), fun _ w' h => h.2.cell (unhide HCX) (by simp), fun _ w' h => h.2.cell (unhide HCX) (by simp), fun _ _ w' h => h.2.2.cell (unhide HCX) (by simp), fun _ _ _ w' h => h.2.2.cell (unhide HCX) (by simp)⟩
        (by
          intro w' k K hK
          refine wp_callN rfl Tryz.call153 [.pointer (some ⟨l, 0, none⟩), .int .u64 (s.nx : Int)] rfl (wbehind_any l d s.nx s w' (k.heap (unhide HR) (by simp)) (unhide HNM)) ?_
          rintro e w2 ⟨rfl, k2⟩
          exact ⟨_, rfl, hK _ _ ⟨rfl, k.trans k2 (by simp)⟩⟩)
        (by
          intro w' k K hK
          exact wp_alloccur rfl (hK _ _ ⟨alc_new k, k.alloc _⟩))
        (by
          rintro u7 w' ⟨rfl, k⟩ K hK
          exact wp_alloccur rfl (hK _ _ ⟨rfl, alc_new k, k.alloc _⟩))
        (by
          rintro u8 w' ⟨a8, k⟩ K hK
          refine wp_callN rfl Tryz.call153 [.pointer (some ⟨l, 0, none⟩), .int .u64 (s.nx : Int)] rfl (wbehind_any l d s.nx s w' (k.heap (unhide HR) (by simp)) (unhide HNM)) ?_
          rintro e w2 ⟨rfl, k2⟩
          exact ⟨_, rfl, hK _ _ ⟨rfl, a8.pass k2, k.trans k2 (by simp)⟩⟩)
        (by
          rintro u7 u8 w' ⟨rfl, ⟨g, rfl, hg, hh⟩, k⟩ K hK
          have hk2 := hK undef _ ⟨rfl, ⟨g, rfl, hg, setRow_heap _ _ _ (curC d (s.num + 1) s.ep s.nx s.wd 0 0) _ _ hh⟩, Kept.setRow k (Or.inr hg) _⟩
          clear hK
          simp only [Act.put, List.setIfInBounds_toArray, List.set_cons_zero, List.set_cons_succ] at hk2 ⊢
          exact wp_store_row 115 (.tmp 4) (.tmp 27) rfl g (curC d (s.num + 1) s.ep s.nx s.wd 0 0) rfl rfl 115 zCur hh Tryz.size_cur rfl (by simp [curC, Value.oneCell']) hk2)
        ?_
      rintro u7 u8 u9 w3 ⟨rfl, ⟨g, rfl, hg, hh⟩, k3⟩
      simp only [Act.put, List.setIfInBounds_toArray, List.set_cons_zero, List.set_cons_succ]
      have HG := hide hg
      have HH := hide hh
      have HK3 := hide k3
      have HE3 := hide (Ev.trans (unhide HE1) ((⟨k3.mono (by simp), fun x hx => .inl hx⟩ : Ev w1 w3 B1 B1)))
      have HGB := hide (fun hx => by have := (unhide HD1).lt g hx; omega : g ∉ B1)
      have HGL := hide (by have := lt_of_block (unhide HR); omega : l ≠ g)
      have HBG := hide (wbegin_any g (s.num + 1) s.ep s.nx d nb (ob + 1) bb g0 s.wd B1 τ1 w3 hh (unhide H).wd (unhide HNM) (((unhide HVG).on (unhide HE1).1 (unhide HB)).old k3) (Ev.ge (unhide HE1) (unhide HB) hg0) (by have := (unhide HE1).1.size; have := k3.size; omega) ((unhide HD1).old k3) (unhide HGB) (by omega) (by omega) (by omega))
      rw [unhide HR2] at HBG
      clear hg hh k3
      go_wp2_with fail
      refine Calls.mono (unhide HBG) ?_
      rintro e w4 ⟨B4, rfl, hd4, kk4, nw4, hh4⟩
      have HD4 := hide hd4
      have HH4 := hide hh4
      have HE4 := hide (⟨((unhide HE3).1.mono (M := B) (fun x hx => hx)).trans kk4 (fun x hx => by
          rcases List.mem_cons.1 hx with rfl | hx
          · exact .inr (by have := unhide HG; have := (unhide HE1).1.size; omega)
          · exact (unhide HE1).2 x hx), fun x hx => by
          rcases nw4 x hx with h9 | h9
          · exact (unhide HE1).2 x h9
          · exact .inr (by have := (unhide HE3).1.size; omega)⟩ : Ev w w4 B B4)
      have HR4 := hide ((unhide HE4).1.heap (unhide H).row (unhide H).nl)
      clear hd4 kk4 nw4 hh4 HBG
      dsimp only at *
      by_cases he2 : E2 = 0
      · have hz := unhide HDD (by simp) hm he2
        cases hz
        subst he2
        obtain ⟨c0, c1, c2, c3, c4, c5, c6⟩ := curC_cell (unhide HH4)
        obtain ⟨f0, f1, f2, f3, f4, f5, f6, f8, f9⟩ := lfroz (unhide HR4)
        obtain ⟨x0, x1, x2, x3, x4, x5, x6, x7, x8, x9⟩ := lgC_cell (unhide HR4)
        have hz := put7_row (unhide HR4) (s.num + 1) s.ep s.nx s.wd 48 0
        have kz := ((((((((Kept.refl [l] w4).setCell (p := ⟨l, 0, none⟩) (.inl (by simp)) (.pointer (some ⟨d, 0, none⟩))).setCell (p := ⟨l, 1, none⟩) (.inl (by simp)) (.int .u64 ((s.num + 1 : Nat) : Int))).setCell (p := ⟨l, 2, none⟩) (.inl (by simp)) (.int .u64 (s.ep : Int))).setCell (p := ⟨l, 3, none⟩) (.inl (by simp)) (.int .u64 (s.nx : Int))).setCell (p := ⟨l, 4, none⟩) (.inl (by simp)) (.int .i64 s.wd)).setCell (p := ⟨l, 5, none⟩) (.inl (by simp)) (.int .i64 ((48 : Nat) : Int))).setCell (p := ⟨l, 6, none⟩) (.inl (by simp)) (.int .i64 ((0 : Nat) : Int)))
        have HFIN := hide ((unhide H).turn (s' := { s with num := s.num + 1, fst := s.nx, byt := 48, bt := 0 }) (unhide HE4) (unhide HD4) kz hz (unhide HNM) rfl (unhide H).nx rfl (by simp) (by simp only; omega) rfl (unhide H).st)
        clear hz kz
        go_wp2_with fail
        go_ret
        have hfin := unhide HFIN
        push_cast at hfin
        first | exact ⟨B4, rfl, hfin.1, hfin.2⟩ | exact ⟨rfl, B4, hfin.1, hfin.2⟩
      · have hz := unhide HCC (by simp) hm he2
        cases hz
        have hq2 : ((E2 : Int) == 0) = false := by simp; omega
        go_wp2_with fail
        go_ret
        have hfin := (unhide H).turn (unhide HE4) (unhide HD4) (Kept.refl [l] w4) (unhide HR4) (unhide H).num rfl (unhide H).nx rfl (by have := (unhide H).bt; omega) (by have := (unhide H).byt; omega) rfl (unhide H).st
        first | exact ⟨B4, rfl, hfin.1, hfin.2⟩ | exact ⟨rfl, B4, hfin.1, hfin.2⟩
  · have hz := unhide HA he1
    cases hz
    have hq : ((E1 : Int) == 0) = false := by simp; omega
    go_wp2_with fail
    go_ret
    have hfin := (unhide H).turn (unhide HE1) (unhide HD1) (Kept.refl [l] w1) (unhide HR) (unhide H).num rfl (unhide H).nx rfl (by have := (unhide H).bt; omega) (by have := (unhide H).byt; omega) rfl (unhide H).st
    have hf1 := hfin.1.more (nb' := nb + 1) (ob' := ob + 5) (bb' := bb + 48) (by omega) (by omega) (by omega)
    first | exact ⟨B1, rfl, hf1, hfin.2⟩ | exact ⟨rfl, B1, hf1, hfin.2⟩
end Go.Proofs.YtejchncdimcdbaaGreatDoor
namespace Go.Proofs.YtejchncdimcdbaaGreatDoor
open Go.RowKit Go.BigFrame
set_option linter.unusedVariables false
set_option linter.unusedSimpArgs false

theorem EvL.ge {w w' : World} {l : Nat} {B B' : List Nat} {g : Nat} (h : EvL w w' l B B') (hB : ∀ x ∈ B, g ≤ x) (hg : g ≤ w.heap.size) : ∀ x ∈ B', g ≤ x := by
  intro x hx
  rcases h.2 x hx with h1 | h1
  · exact hB x h1
  · omega
theorem lgRot_st (σ : DSt) (s : LSt) : (lgRot σ s).2.2.st = s.st ∧ (lgRot σ s).2.2.nx = s.nx := by
  unfold lgRot
  (repeat' split) <;> exact ⟨rfl, rfl⟩
theorem lgLay_st (σ : DSt) (s : LSt) (p : List Nat) : (lgLay σ s p).2.2.st = s.st ∧ (lgLay σ s p).2.2.nx = s.nx := by
  unfold lgLay
  dsimp only
  split <;> exact ⟨rfl, rfl⟩
theorem lgWrite_st (σ : DSt) (s : LSt) (p : List Nat) : (lgWrite σ s p).2.2.st = s.st ∧ (lgWrite σ s p).2.2.nx = s.nx := by
  unfold lgWrite
  split
  · split
    · exact lgRot_st σ s
    · have h1 := lgRot_st σ s
      have h2 := lgLay_st (lgRot σ s).2.1 (lgRot σ s).2.2 p
      exact ⟨h2.1.trans h1.1, h2.2.trans h1.2⟩
  · exact lgLay_st σ s p
set_option maxRecDepth 100000 in
set_option maxHeartbeats 4000000 in
theorem wwrite_any (l d nb ob bb g0 : Nat) (B : List Nat) (σ : DSt) (s : LSt) (pv : Value) (ps : List Nat) (w : World) (h : LK w l d B nb ob bb σ s) (hv : VarsG g0 w) (hB : ∀ x ∈ B, g0 ≤ x) (hl0 : g0 ≤ l) (hg0 : g0 ≤ w.heap.size) (hp : Rd w pv ps) (hpd : ∀ x ∈ zblk pv ps, x ∉ l :: B) (hpl : ps.length ≤ 40000) (h1 : nb ≤ 800000000) (h2 : ob ≤ 800000000) (h3 : bb ≤ 140737488200000) :
    Calls Tryz.prog 58 #[.pointer (some ⟨l, 0, none⟩), pv] w fun e w' => ∃ B', e = .returned (.int .i64 ((lgWrite σ s ps).1 : Nat)) ∧ LK w' l d B' (nb + 1) (ob + 6) (bb + 48 + ps.length) (lgWrite σ s ps).2.1 (lgWrite σ s ps).2.2 ∧ EvL w w' l B B' := by
  have H := hide h
  have HVG := hide hv
  have HB := hide hB
  have HP := hide hp
  have HPD := hide hpd
  obtain ⟨pa, pn, pc, rfl, hpn, _⟩ := id hp
  subst hpn
  have HFU := hide (fun j => wfull_any l d s (w.drewN j) (((Kept.refl [] w).drewN j).heap h.row (by simp)))
  have HROT := hide (fun w' (k : Kept [] w w') => wrot_any l d nb ob bb g0 B σ s w' (h.old k) (hv.old k) hB (Nat.le_trans hg0 k.size) h1 h2 h3)
  have HLAY := hide (fun w' (k : Kept [] w w') => wlay_any l d nb ob bb g0 B σ s (.slice pa ps.length pc) ps w' (h.old k) (hv.old k) (hp.old k (by simp)) (fun x hx hm => hpd x hx (by simp [hm])) hpl (by omega) (by omega) (by omega))
  obtain ⟨⟨E1, τ1, s1⟩, hR1⟩ : ∃ R1, lgRot σ s = R1 := ⟨_, rfl⟩
  obtain ⟨⟨E, τ, s'⟩, hL⟩ : ∃ R, lgWrite σ s ps = R := ⟨_, rfl⟩
  rw [hR1] at HROT
  have HA := hide (fun (h0 : lgFull s = false) => (by rw [← hL]; unfold lgWrite; rw [h0]; rfl : (E, τ, s') = lgLay σ s ps))
  have HBB := hide (fun (h0 : lgFull s = true) (h9 : E1 ≠ 0) => (by rw [← hL]; unfold lgWrite; rw [h0, hR1]; simp only [if_true, ne_eq, h9, not_false_eq_true] : (E, τ, s') = (E1, τ1, s1)))
  have HCC := hide (fun (h0 : lgFull s = true) (h9 : E1 = 0) => (by rw [← hL]; unfold lgWrite; rw [h0, hR1]; simp only [if_true, ne_eq, h9, not_true_eq_false, if_false] : (E, τ, s') = lgLay τ1 s1 ps))
  rw [hL]
  have c7 := (lgC_cell h.row).2.2.2.2.2.2.2.1
  clear h hv hB hp hpd hL hR1
  dsimp only at *
  go_enter Tryz.func58, Tryz.ntmps58
  go_upto_region 1 with fail
  refine wp_region_quiet_lit (by kernel_rfl) (by kernel_rfl) ?_
  repeat (go_big_quiet_step (exact Calls.mono (unhide HFU _) (fun e x h => ⟨h.1, _, h.2⟩)))
  refine wpQuiet_nil ?_
  rintro _ ⟨m5, rfl⟩
  have HK0 := hide ((Kept.refl [] w).drewN m5)
  generalize w.drewN m5 = w0 at HK0 ⊢
  clear c7 HFU
  have HLAY0 := hide (unhide HLAY w0 (unhide HK0))
  have HROT0 := hide (unhide HROT w0 (unhide HK0))
  clear HLAY HROT
  by_cases hf : lgFull s = true
  · rw [hf]
    go_wp2_with fail
    refine Calls.mono (unhide HROT0) ?_
    rintro e w1 ⟨B1, rfl, hl1, ev1⟩
    have HL1 := hide hl1
    have HE1 := hide (EvL.pre (unhide HK0) ev1)
    clear hl1 ev1 HLAY0
    by_cases he1 : E1 = 0
    · have hz := unhide HCC hf he1
      subst he1
      have HPR := hide ((unhide HP).keptZ (unhide HE1).1 (unhide HPD))
      have HLAY2 := hide (wlay_any l d (nb + 1) (ob + 5) (bb + 48) g0 B1 τ1 s1 (.slice pa ps.length pc) ps w1 (unhide HL1) ((unhide HVG).on (unhide HE1).1 (fun x hx => by
          rcases List.mem_cons.1 hx with rfl | hx
          · exact hl0
          · exact unhide HB x hx)) (unhide HPR) (fun x hx hm => by
          rcases (unhide HE1).2 x hm with h9 | h9
          · exact unhide HPD x hx (by simp [h9])
          · have := (unhide HP).ltZ x hx; omega) hpl (by omega) (by omega) (by omega))
      rw [← hz] at HLAY2
      dsimp only at *
      go_wp2_with fail
      refine Calls.mono (unhide HLAY2) ?_
      rintro e w2 ⟨B2, rfl, hl2, ev2⟩
      have HL2 := hide hl2
      have HE2 := hide ((unhide HE1).trans ev2)
      clear hl2 ev2
      go_wp2_with fail
      go_ret
      exact ⟨B2, rfl, (unhide HL2).more (by omega) (by omega) (by omega), unhide HE2⟩
    · have hz := unhide HBB hf he1
      cases hz
      have hq : ((E1 : Int) == 0) = false := by simp; omega
      go_wp2_with fail
      go_ret
      exact ⟨B1, rfl, (unhide HL1).more (by omega) (by omega) (by omega), unhide HE1⟩
  · rw [Bool.not_eq_true] at hf
    have hz := unhide HA hf
    rw [hf]
    rw [← hz] at HLAY0
    dsimp only at *
    go_wp2_with fail
    refine Calls.mono (unhide HLAY0) ?_
    rintro e w2 ⟨B2, rfl, hl2, ev2⟩
    have HL2 := hide hl2
    have HE2 := hide (EvL.pre (unhide HK0) ev2)
    clear hl2 ev2
    go_wp2_with fail
    go_ret
    exact ⟨B2, rfl, (unhide HL2).more (by omega) (by omega) (by omega), unhide HE2⟩
end Go.Proofs.YtejchncdimcdbaaGreatDoor
namespace Go.Proofs.YtejchncdimcdbaaGreatDoor
open Go.RowKit Go.BigFrame
set_option linter.unusedVariables false
set_option linter.unusedSimpArgs false

theorem stCreate_lt (σ : DSt) (n : ByteArray) : (stCreate σ n).1 < 100 := by
  unfold stCreate
  split
  · simp
  · exact opE_le _ _ _ _ (by unfold ownA; (repeat' split) <;> omega)
theorem stAppend_lt (σ : DSt) (n : ByteArray) (p : List Nat) : (stAppend σ n p).1 < 100 := by
  unfold stAppend
  split
  · simp
  · split <;> exact opE_le _ _ _ _ (by omega)
theorem stSync_lt (σ : DSt) (n : ByteArray) : (stSync σ n).1 < 100 := by
  unfold stSync
  split
  · simp
  · split <;> exact opE_le _ _ _ _ (by omega)
theorem stNames_lt (σ : DSt) : (stNames σ).1 < 100 := by
  unfold stNames
  split
  · simp
  · exact opE_le _ _ _ _ (by omega)
theorem thn_lt {r : Nat × DSt} {f : DSt → Nat × DSt} (h : r.1 < 100) (hf : ∀ τ, (f τ).1 < 100) : (thn r f).1 < 100 := by
  unfold thn
  split
  · exact hf _
  · exact h
theorem stBegin_lt (σ : DSt) (n ep fs : Nat) (wd : Int) : (stBegin σ n ep fs wd).1 < 100 :=
  thn_lt (thn_lt (thn_lt (stCreate_lt _ _) (fun τ => stAppend_lt _ _ _)) (fun τ => stSync_lt _ _)) (fun τ => stNames_lt _)
theorem lgRot_lt (σ : DSt) (s : LSt) : (lgRot σ s).1 < 100 := by
  unfold lgRot
  split
  · exact stSync_lt _ _
  · split
    · simp
    · split
      · exact stBegin_lt _ _ _ _ _
      · simp
theorem lgWrite_lt (σ : DSt) (s : LSt) (p : List Nat) : (lgWrite σ s p).1 < 100 := by
  unfold lgWrite
  split
  · split
    · exact lgRot_lt _ _
    · exact stAppend_lt _ _ _
  · exact stAppend_lt _ _ _
theorem sbB_max {f : Nat} {es : List En} (h : chkB f es = 0) (hf : f < 18446744073709551616) : (sbB f es).length ≤ 40000 := by
  unfold sbB
  rw [if_pos h, frB_len]
  have := (batB_lenS h hf).2
  omega
theorem st_row {w : World} {l d : Nat} {s : LSt} {t : TypeId} (h : w.heap[l]? = some (.cells (lgC d s) t (0, 0))) (x : Nat) : (w.setCell ⟨l, 9, none⟩ (.int .i64 (x : Int))).heap[l]? = some (.cells (lgC d { s with st := x }) t (0, 0)) := by
  rw [heap_setCell_same w l 9 _ t _ h]
  rfl
theorem nx_row {w : World} {l d : Nat} {s : LSt} {t : TypeId} (h : w.heap[l]? = some (.cells (lgC d s) t (0, 0))) (x : Nat) : (w.setCell ⟨l, 8, none⟩ (.int .u64 (x : Int))).heap[l]? = some (.cells (lgC d { s with nx := x }) t (0, 0)) := by
  rw [heap_setCell_same w l 8 _ t _ h]
  rfl
theorem LK.set {w w' : World} {l d nb ob bb : Nat} {B : List Nat} {σ : DSt} {s : LSt} (h : LK w l d B nb ob bb σ s) (x y : Nat) (hx : x < 100) (hy : y < 18446744073709551616) (k : Kept [l] w w') (hr : w'.heap[l]? = some (.cells (lgC d { s with st := x, nx := y }) 117 (0, 0))) : LK w' l d B nb ob bb σ { s with st := x, nx := y } :=
  ⟨hr, h.dk.kept k (fun z hz hm => h.nl (by rw [← List.mem_singleton.1 hm]; exact hz)), h.nl, h.num, h.ep, hy, h.wd, h.bt, h.byt, h.lim, hx⟩
theorem EvL.on {w w3 w' : World} {l : Nat} {B B' : List Nat} (h : EvL w w3 l B B') (k : Kept [l] w3 w') : EvL w w' l B B' :=
  ⟨h.1.trans k (fun x hx => Or.inl (by rw [List.mem_singleton.1 hx]; simp)), h.2⟩
set_option maxRecDepth 100000 in
set_option maxHeartbeats 4000000 in
theorem wappend_any (l d nb ob bb g0 : Nat) (B : List Nat) (σ : DSt) (s : LSt) (v : Value) (es : List En) (w : World) (h : LK w l d B nb ob bb σ s) (hv : VarsG g0 w) (hB : ∀ x ∈ B, g0 ≤ x) (hl0 : g0 ≤ l) (hg0 : g0 ≤ w.heap.size) (hr : RdN w v es) (h1 : nb ≤ 800000000) (h2 : ob ≤ 800000000) (h3 : bb ≤ 140737488200000) :
    Calls Tryz.prog 19 #[.pointer (some ⟨l, 0, none⟩), v] w fun e w' => ∃ B', e = .returned (.int .i64 ((lgAppend σ s es).1 : Nat)) ∧ LK w' l d B' (nb + 1) (ob + 6) (bb + 40048) (lgAppend σ s es).2.1 (lgAppend σ s es).2.2 ∧ EvL w w' l B B' := by
  have H := hide h
  have HVG := hide hv
  have HB := hide hB
  have HSB := hide (segBatch_any s.nx v es w h.nx hr)
  obtain ⟨va, n, vc, kv, vv, rfl, hlen, hcap, hmx, _⟩ := id hr
  subst hlen
  have HLE := hide (by omega : es.length ≤ 9223372036854775807)
  obtain ⟨C, hC⟩ : ∃ C, chkB s.nx es = C := ⟨_, rfl⟩
  obtain ⟨ps, hps⟩ : ∃ ps, sbB s.nx es = ps := ⟨_, rfl⟩
  obtain ⟨⟨E1, τ1, s1⟩, hW⟩ : ∃ R, lgWrite σ s ps = R := ⟨_, rfl⟩
  have HE1 := hide (by have := lgWrite_lt σ s ps; rw [hW] at this; exact this : E1 < 100)
  have HS1 := hide (by have := lgWrite_st σ s ps; rw [hW] at this; exact this.2 : s1.nx = s.nx)
  obtain ⟨⟨E, τ, s'⟩, hL⟩ : ∃ R, lgAppend σ s es = R := ⟨_, rfl⟩
  have HA := hide (fun (h0 : C ≠ 0) => (by rw [← hL]; unfold lgAppend; rw [hC]; simp only [ne_eq, h0, not_false_eq_true, if_true] : (E, τ, s') = (C, σ, s)))
  have HBB := hide (fun (h0 : C = 0) (h9 : lgFail s ≠ 0) => (by rw [← hL]; unfold lgAppend; rw [hC]; simp only [ne_eq, h0, not_true_eq_false, if_false, h9, not_false_eq_true, if_true] : (E, τ, s') = (lgFail s, σ, s)))
  have HC0 := hide (fun (h0 : C = 0) (h9 : lgFail s = 0) (h8 : E1 = 0) => (by rw [← hL]; unfold lgAppend; rw [hC, hps]; simp only [ne_eq, h0, not_true_eq_false, if_false, h9]; rw [hW]; simp only [h8, if_true] : (E, τ, s') = (E1, τ1, { s1 with st := E1, nx := (s.nx + es.length) % 18446744073709551616 })))
  have HC1 := hide (fun (h0 : C = 0) (h9 : lgFail s = 0) (h8 : E1 ≠ 0) => (by rw [← hL]; unfold lgAppend; rw [hC, hps]; simp only [ne_eq, h0, not_true_eq_false, if_false, h9]; rw [hW]; simp only [h8, if_false] : (E, τ, s') = (E1, τ1, { s1 with st := E1, nx := s.nx })))
  rw [hL]
  have HPL := hide (fun (h0 : C = 0) => (by rw [← hps]; exact sbB_max (by rw [hC]; exact h0) h.nx : ps.length ≤ 40000))
  rw [hC, hps] at HSB
  have c8 := (lgC_cell h.row).2.2.2.2.2.2.2.2.1
  have HWW := hide hW
  clear h hv hB hr hL hC hps hW hcap hmx
  dsimp only at *
  go_enter Tryz.func19, Tryz.ntmps19
  go_wp2_with fail
  refine Calls.mono (unhide HSB) ?_
  rintro e w1 ⟨pv, rfl, nw, k1⟩
  have HK1 := hide k1
  have HNW := hide nw
  obtain ⟨pa, pn, pc, rfl, hpn, _⟩ := id nw.1
  clear k1 nw HSB c8
  by_cases hc : C = 0
  · subst hc
    have HFA := hide (wfail_any l d s w1 ((unhide HK1).heap (unhide H).row (by simp)))
    go_wp2_with fail
    refine Calls.mono (unhide HFA) ?_
    rintro e w2 ⟨rfl, rfl⟩
    by_cases hf : lgFail s = 0
    · rw [hf]
      have HWR := hide (wwrite_any l d nb ob bb g0 B σ s (.slice pa pn pc) ps w2 ((unhide H).old (unhide HK1)) ((unhide HVG).old (unhide HK1)) (unhide HB) hl0 (Nat.le_trans hg0 (unhide HK1).size) (unhide HNW).1 (fun x hx hm => by
          have h9 : w.heap.size ≤ x := by
            have hx2 := (mem_zblk hx).1
            rcases (unhide HNW).2 with ⟨h8, h7⟩ | ⟨g, h8, h7, _⟩
            · exact absurd h8 (mem_zblk hx).2
            · rw [h8] at hx2; simp only [blk, List.mem_singleton] at hx2; subst hx2; exact h7
          rcases List.mem_cons.1 hm with rfl | hm
          · have := (unhide H).lt; omega
          · have := (unhide H).dk.lt _ hm; omega) (unhide HPL (by simp)) h1 h2 h3)
      rw [unhide HWW] at HWR
      dsimp only at *
      go_wp2_with fail
      refine Calls.mono (unhide HWR) ?_
      rintro e w3 ⟨B3, rfl, hl3, ev3⟩
      have HL3 := hide hl3
      have HE3 := hide (EvL.pre (unhide HK1) ev3)
      obtain ⟨c0, c1, c2, c3, c4, c5, c6, c7, c8, c9⟩ := lgC_cell hl3.row
      obtain ⟨f0, f1, f2, f3, f4, f5, f6, f8, f9⟩ := lfroz hl3.row
      rw [unhide HS1] at c8
      clear hl3 ev3 HWR
      have hle3 : bb + 48 + ps.length ≤ bb + 40048 := by have := unhide HPL (by simp); omega
      by_cases he : E1 = 0
      · have hw : IntKind.u64.wrap ((s.nx : Int) + (es.length : Int)) = (((s.nx + es.length) % 18446744073709551616 : Nat) : Int) := by rw [IntKind.wrap_u64]; simp
        have hw2 : IntKind.u64.wrap (es.length : Int) = (es.length : Int) := by rw [IntKind.wrap_u64]; have := unhide HLE; omega
        have hst := st_row (unhide HL3).row E1
        have kst : Kept [l] w3 (w3.setCell ⟨l, 9, none⟩ (.int .i64 (E1 : Int))) := (Kept.refl [l] w3).setCell (p := ⟨l, 9, none⟩) (.inl (by simp)) _
        have hnx := nx_row hst ((s.nx + es.length) % 18446744073709551616)
        have knx := kst.setCell (p := ⟨l, 8, none⟩) (.inl (by simp)) (.int .u64 (((s.nx + es.length) % 18446744073709551616 : Nat) : Int))
        have HFIN := hide ((unhide HL3).set E1 ((s.nx + es.length) % 18446744073709551616) (unhide HE1) (Nat.mod_lt _ (by omega)) knx hnx)
        have HEV := hide ((unhide HE3).on knx)
        clear hst kst hnx knx
        have hz := unhide HC0 (by simp) hf he
        cases hz
        subst he
        go_wp2_with fail
        go_ret
        have hfin := ((unhide HFIN).more (nb' := nb + 1) (ob' := ob + 6) (bb' := bb + 40048) (by omega) (by omega) hle3)
        have hev := unhide HEV
        simp only [Int.natCast_emod, Int.natCast_add, Int.cast_ofNat_Int] at hfin hev
        first | exact ⟨B3, rfl, hfin, hev⟩ | exact ⟨rfl, B3, hfin, hev⟩
      · have hq : ((E1 : Int) == 0) = false := by simp; omega
        have hst := st_row (unhide HL3).row E1
        have kst : Kept [l] w3 (w3.setCell ⟨l, 9, none⟩ (.int .i64 (E1 : Int))) := (Kept.refl [l] w3).setCell (p := ⟨l, 9, none⟩) (.inl (by simp)) _
        have HFIN := hide ((unhide HL3).set E1 s.nx (unhide HE1) (unhide H).nx kst (by rw [hst, ← unhide HS1]))
        have HEV := hide ((unhide HE3).on kst)
        clear hst kst
        have hz := unhide HC1 (by simp) hf he
        cases hz
        go_wp2_with fail
        go_ret
        have hfin := ((unhide HFIN).more (nb' := nb + 1) (ob' := ob + 6) (bb' := bb + 40048) (by omega) (by omega) hle3)
        first | exact ⟨B3, rfl, hfin, unhide HEV⟩ | exact ⟨rfl, B3, hfin, unhide HEV⟩
    · have hz := unhide HBB (by simp) hf
      cases hz
      have hq : ((lgFail s : Int) == 0) = false := by simp; omega
      go_wp2_with fail
      go_ret
      have hfin := ((unhide H).old (unhide HK1)).more (nb' := nb + 1) (ob' := ob + 6) (bb' := bb + 40048) (by omega) (by omega) (by omega)
      have hev := EvL.pre (unhide HK1) (EvL.refl w2 l B)
      first | exact ⟨B, rfl, hfin, hev⟩ | exact ⟨rfl, B, hfin, hev⟩
  · have hz := unhide HA hc
    cases hz
    have hq : ((C : Int) == 0) = false := by simp; omega
    go_wp2_with fail
    go_ret
    have hfin := ((unhide H).old (unhide HK1)).more (nb' := nb + 1) (ob' := ob + 6) (bb' := bb + 40048) (by omega) (by omega) (by omega)
    have hev := EvL.pre (unhide HK1) (EvL.refl w1 l B)
    first | exact ⟨B, rfl, hfin, hev⟩ | exact ⟨rfl, B, hfin, hev⟩
set_option maxRecDepth 100000 in
set_option maxHeartbeats 4000000 in
theorem wsync_any (l d nb ob bb g0 : Nat) (B : List Nat) (σ : DSt) (s : LSt) (w : World) (h : LK w l d B nb ob bb σ s) (hv : VarsG g0 w) (h1 : nb ≤ 800000000) (h2 : ob ≤ 800000000) :
    Calls Tryz.prog 21 #[.pointer (some ⟨l, 0, none⟩)] w fun e w' => ∃ B', e = .returned (.int .i64 ((lgSync σ s).1 : Nat)) ∧ LK w' l d B' nb (ob + 1) bb (lgSync σ s).2.1 (lgSync σ s).2.2 ∧ EvL w w' l B B' := by
  have H := hide h
  obtain ⟨c0, c1, _⟩ := lgC_cell h.row
  have HFL := hide (wflush_any l s.num d nb ob bb B σ w c0 c1 h.num hv.now h.dk h.nl (by omega) (by omega))
  have HFA := hide (wfail_any l d s w h.row)
  obtain ⟨⟨E1, τ1⟩, hW⟩ : ∃ R, stSync σ (nmB s.num) = R := ⟨_, rfl⟩
  have HE1 := hide (by have := stSync_lt σ (nmB s.num); rw [hW] at this; exact this : E1 < 100)
  obtain ⟨⟨E, τ, s'⟩, hL⟩ : ∃ R, lgSync σ s = R := ⟨_, rfl⟩
  have HBB := hide (fun (h9 : lgFail s ≠ 0) => (by rw [← hL]; unfold lgSync; simp only [ne_eq, h9, not_false_eq_true, if_true] : (E, τ, s') = (lgFail s, σ, s)))
  have HCC := hide (fun (h9 : lgFail s = 0) => (by rw [← hL]; unfold lgSync; simp only [ne_eq, not_true_eq_false, if_false, h9]; rw [hW] : (E, τ, s') = (E1, τ1, { s with st := E1 })))
  rw [hL]
  rw [hW] at HFL
  clear h hv hL hW c0 c1
  dsimp only at *
  go_enter Tryz.func21, Tryz.ntmps21
  go_wp2_with fail
  refine Calls.mono (unhide HFA) ?_
  rintro e w2 ⟨rfl, rfl⟩
  by_cases hf : lgFail s = 0
  · have hz := unhide HCC hf
    cases hz
    rw [hf]
    go_wp2_with fail
    refine Calls.mono (unhide HFL) ?_
    rintro e w3 ⟨B3, rfl, hd3, ev3⟩
    have hr3 := ev3.1.heap (unhide H).row (unhide H).nl
    obtain ⟨c0, c1, c2, c3, c4, c5, c6, c7, c8, c9⟩ := lgC_cell hr3
    obtain ⟨f0, f1, f2, f3, f4, f5, f6, f8, f9⟩ := lfroz hr3
    have hst := st_row hr3 E1
    have kst : Kept [l] w3 (w3.setCell ⟨l, 9, none⟩ (.int .i64 (E1 : Int))) := (Kept.refl [l] w3).setCell (p := ⟨l, 9, none⟩) (.inl (by simp)) _
    have HFIN := hide ((unhide H).turn ev3 hd3 kst hst (unhide H).num rfl (unhide H).nx rfl (by have := (unhide H).bt; simp only; omega) (by have := (unhide H).byt; simp only; omega) rfl (unhide HE1))
    clear hst kst hr3 hd3 ev3
    go_wp2_with fail
    go_ret
    first | exact ⟨B3, rfl, (unhide HFIN).1, (unhide HFIN).2⟩ | exact ⟨rfl, B3, (unhide HFIN).1, (unhide HFIN).2⟩
  · have hz := unhide HBB hf
    cases hz
    have hq : ((lgFail s : Int) == 0) = false := by simp; omega
    go_wp2_with fail
    go_ret
    have hfin := (unhide H).more (nb' := nb) (ob' := ob + 1) (bb' := bb) (by omega) (by omega) (by omega)
    have hev := EvL.refl w2 l B
    first | exact ⟨B, rfl, hfin, hev⟩ | exact ⟨rfl, B, hfin, hev⟩
set_option maxRecDepth 100000 in
set_option maxHeartbeats 1000000 in
theorem wappend_nil (v : Value) (w : World) : Calls Tryz.prog 19 #[.pointer none, v] w fun e w' => e = .returned (.int .i64 5) ∧ w' = w := by
  go_enter Tryz.func19, Tryz.ntmps19
  go_wp2
  go_ret
  exact ⟨rfl, rfl⟩
set_option maxRecDepth 100000 in
set_option maxHeartbeats 1000000 in
theorem wsync_nil (w : World) : Calls Tryz.prog 21 #[.pointer none] w fun e w' => e = .returned (.int .i64 5) ∧ w' = w := by
  go_enter Tryz.func21, Tryz.ntmps21
  go_wp2
  go_ret
  exact ⟨rfl, rfl⟩
set_option maxRecDepth 100000 in
set_option maxHeartbeats 1000000 in
theorem wnext_nil (w : World) : Calls Tryz.prog 22 #[.pointer none] w fun e w' => e = .returned (.int .u64 0) ∧ w' = w := by
  go_enter Tryz.func22, Tryz.ntmps22
  go_wp2
  go_ret
  exact ⟨rfl, rfl⟩
set_option maxRecDepth 100000 in
set_option maxHeartbeats 1000000 in
theorem wepoch_nil (w : World) : Calls Tryz.prog 23 #[.pointer none] w fun e w' => e = .returned (.int .u64 0) ∧ w' = w := by
  go_enter Tryz.func23, Tryz.ntmps23
  go_wp2
  go_ret
  exact ⟨rfl, rfl⟩
set_option maxRecDepth 100000 in
set_option maxHeartbeats 1000000 in
theorem wsegno_nil (w : World) : Calls Tryz.prog 24 #[.pointer none] w fun e w' => e = .returned (.int .u64 0) ∧ w' = w := by
  go_enter Tryz.func24, Tryz.ntmps24
  go_wp2
  go_ret
  exact ⟨rfl, rfl⟩
set_option maxRecDepth 100000 in
set_option maxHeartbeats 1000000 in
theorem wstate_nil (w : World) : Calls Tryz.prog 25 #[.pointer none] w fun e w' => e = .returned (.int .i64 5) ∧ w' = w := by
  go_enter Tryz.func25, Tryz.ntmps25
  go_wp2
  go_ret
  exact ⟨rfl, rfl⟩
end Go.Proofs.YtejchncdimcdbaaGreatDoor
namespace Go.Proofs.YtejchncdimcdbaaGreatDoor
open Go.RowKit Go.BigFrame Go.Maps Go.Sort
set_option linter.unusedVariables false
set_option linter.unusedSimpArgs false
theorem rows_flat {w : World} {b s : Nat} : ∀ {rows : List (List Value)} {off : Nat} (hc : ∀ i (h : i < rows.length), w.rangeAt b (off + i * s) rows[i]) (hs : ∀ r ∈ rows, r.length = s) (j : Nat) (u : Value), rows.flatten[j]? = some u → w.cell? ⟨b, off + j, none⟩ = some u
  | [], off, hc, hs, j, u, hj => by simp at hj
  | r :: rs, off, hc, hs, j, u, hj => by
    have hr : r.length = s := hs r (by simp)
    rw [List.flatten_cons] at hj
    by_cases h : j < s
    · rw [List.getElem?_append_left (by omega)] at hj
      have h9 := hc 0 (by simp) j u (by simpa using hj)
      simpa using h9
    · rw [List.getElem?_append_right (by omega), hr] at hj
      have ih := rows_flat (rows := rs) (off := off + s) (fun i hi => by
        have h9 := hc (i + 1) (by simpa using hi)
        simp only [List.getElem_cons_succ] at h9
        rw [show off + s + i * s = off + (i + 1) * s by rw [Nat.add_mul]; omega]
        exact h9) (fun r hr => hs r (by simp [hr])) (j - s) u hj
      rw [show off + j = off + s + (j - s) by omega]
      exact ih
theorem owns_formC {w : World} {base e s n : Nat} {v : Value} {xs : List Value} (h : w.ownsRow base e s v n xs) : ∃ ao cap, v = .slice ao n cap := by
  rcases h.2 with ⟨rfl, rfl⟩ | ⟨g, cap, cur, rfl, _⟩
  · exact ⟨_, _, rfl⟩
  · exact ⟨_, _, rfl⟩
theorem flat_len {s : Nat} : ∀ {rows : List (List Value)}, (∀ r ∈ rows, r.length = s) → rows.flatten.length = rows.length * s
  | [], _ => by simp
  | r :: rs, h => by
    have ih := flat_len (rows := rs) (fun r hr => h r (by simp [hr]))
    rw [List.flatten_cons, List.length_append, ih, h r (by simp), List.length_cons, Nat.add_mul]
    omega
theorem flat_get {s : Nat} : ∀ {rows : List (List Value)} (hs : ∀ r ∈ rows, r.length = s) {i j : Nat} (hi : i < rows.length) {u : Value}, rows[i][j]? = some u → rows.flatten[i * s + j]? = some u
  | r :: rs, hs, 0, j, hi, u, hu => by
    have hj := (List.getElem?_eq_some_iff.1 hu).1
    rw [List.flatten_cons, Nat.zero_mul, Nat.zero_add, List.getElem?_append_left (by simpa using hj)]
    simpa using hu
  | r :: rs, hs, i + 1, j, hi, u, hu => by
    have hr : r.length = s := hs r (by simp)
    have ih := flat_get (rows := rs) (fun r hr => hs r (by simp [hr])) (i := i) (j := j) (by simpa using hi) (u := u) (by simpa using hu)
    rw [List.flatten_cons, List.getElem?_append_right (by rw [hr, Nat.add_mul]; omega), hr, show (i + 1) * s + j - s = i * s + j by rw [Nat.add_mul]; omega]
    exact ih
/-- An owned row of rows reads as they do. -/
theorem rdC_owns {w : World} {base e s : Nat} {v : Value} {rows : List (List Value)} (h : w.ownsRow base e s v rows.length rows.flatten) (hs : ∀ r ∈ rows, r.length = s) : RdC s w v rows := by
  rcases h.2 with ⟨rfl, h0⟩ | ⟨g, cap, cur, rfl, _, hg, hc, hm, hsz, ht⟩
  · have : rows = [] := List.eq_nil_of_length_eq_zero h0
    subst this
    exact RdC.nil s w
  · refine ⟨_, _, _, rfl, rfl, hc, by unfold maxLen at hm; omega, fun _ => ⟨g, 0, rfl, fun i hi j u hu => ?_⟩⟩
    have h9 := h.cells (g := g) rfl (i * s + j) u (flat_get hs hi hu)
    rw [Addr.add_lit, Nat.zero_add] at h9
    rw [Nat.zero_add]
    exact h9
theorem append_noneC {P : Program} {w : World} (base : Nat) (t ty e : TypeId) (i : TypeInfo) (size c : Nat) (ht : P.underlying t = some (.slice e)) (hi : P.info? e = some i)
    (v : Value) (n : Nat) (xs : List Value) (hown : w.ownsRow base e size v n xs) :
    (Builtin.append_ #[t, t] ty #[v, .slice none 0 c]).run P w = .ok v w := by
  rcases hown.2 with ⟨rfl, rfl⟩ | ⟨g, cap, cur, rfl, _, _, hnc, _⟩
  · simp [Builtin.append_, run_underlying ht, sizeOf, typeInfo, hi, Builtin.lenOf, Builtin.firstCells]
  · simp [Builtin.append_, run_underlying ht, sizeOf, typeInfo, hi, Builtin.lenOf, Builtin.firstCells, hnc, storeCells]
theorem appendC (w : World) (base T e : Nat) (z : Value) (s bytes : Nat) (hu : Tryz.prog.underlying T = some (.slice e)) (hinf : (Tryz.prog.info? e).map (fun i => (i.zero, i.size, i.bytes)) = some (some z, s, bytes)) (hzs : z.cells.size = s) (hs0 : 0 < s)
    (v : Value) (n : Nat) (xs : List Value) (h : w.ownsRow base e s v n xs) (ao : Option Addr) (m c : Nat) (rows : List (List Value)) (hr : RdC s w (.slice ao m c) rows) (hs : ∀ r ∈ rows, r.length = s) (hone : ∀ r ∈ rows, ∀ u ∈ r, u.oneCell' = true)
    (hl : (n + m) * bytes ≤ 140737488355328) (hl2 : n + m ≤ 1000000000000) (hb : base ≤ w.heap.size) :
    ∃ ao' cap' w1, (Builtin.append_ #[T, T] T #[v, .slice ao m c]).run Tryz.prog w = .ok (.slice ao' (n + m) cap') w1 ∧ w1.ownsRow base e s (.slice ao' (n + m) cap') (n + m) (xs ++ rows.flatten) ∧ w.grownBy w1 v.ownBlock ∧ ((Value.slice ao' (n + m) cap').ownBlock = v.ownBlock ∨ (Value.slice ao' (n + m) cap').ownBlock = some w.heap.size) := by
  obtain ⟨i0, hi, hz0, hz1, hz2⟩ := info_parts hinf
  obtain ⟨ao1, n1, c1, he, h1, h2, h3, h4⟩ := hr
  cases he
  have hf1 : ∀ u ∈ rows.flatten, u.oneCell' = true := by
    intro u hu
    obtain ⟨r, hr, hur⟩ := List.mem_flatten.1 hu
    exact hone r hr u hur
  have hfl : rows.flatten.length = m * s := by rw [flat_len hs, h1]
  cases ao with
  | none =>
    have hm : m = 0 := by
      rcases Nat.eq_zero_or_pos m with h9 | h9
      · exact h9
      · obtain ⟨b, off, e9, _⟩ := h4 h9; cases e9
    subst hm
    have hp : rows = [] := List.eq_nil_of_length_eq_zero h1
    subst hp
    have hrun := append_noneC (P := Tryz.prog) (w := w) base T T e i0 s c hu hi v n xs h
    obtain ⟨ao', cap', rfl⟩ := owns_formC h
    exact ⟨ao', cap', w, hrun, by simpa using h, World.grownBy.refl _ _, .inl rfl⟩
  | some ad =>
    have hnews : ∀ j u, rows.flatten[j]? = some u → w.cell? (ad.add j) = some u := by
      intro j u hj
      have hm : 0 < m := by
        have := (List.getElem?_eq_some_iff.1 hj).1
        rw [hfl] at this
        rcases Nat.eq_zero_or_pos m with h9 | h9
        · subst h9; omega
        · exact h9
      obtain ⟨b, off, e9, hc⟩ := h4 hm
      cases e9
      rw [Addr.add_mid]
      exact rows_flat hc hs j u hj
    obtain ⟨v', w1, hrun, hown, hgrow, _, hat⟩ := run_append_own_at (P := Tryz.prog) w base T T e i0 z s bytes hu hi hz0 hz1 hz2 hzs hs0 v n xs h ad m c rows.flatten hfl hnews hf1 (by unfold maxLen; omega) hl hb
    obtain ⟨ao', cap', rfl⟩ := owns_formC hown
    exact ⟨ao', cap', w1, hrun, hown, hgrow, hat⟩
theorem wpList_appendC {ops : Array Oper} {rest : List Oper} {o : Oper} {a : Act} {Q : Exit → Act → World → Prop} (hgd : o.guard = none) (T e : Nat) (s x : Operand)
    (ho : o.op = .call { callee := .builtin .append, args := #[s, x], argTypes := #[T, T] }) (hty : o.type = T)
    (w : World) (base : Nat) (z : Value) (sz bytes : Nat) (hu : Tryz.prog.underlying T = some (.slice e)) (hinf : (Tryz.prog.info? e).map (fun i => (i.zero, i.size, i.bytes)) = some (some z, sz, bytes)) (hzs : z.cells.size = sz) (hs0 : 0 < sz)
    (v : Value) (n : Nat) (xs : List Value) (h : w.ownsRow base e sz v n xs) (ao : Option Addr) (m c : Nat) (rows : List (List Value)) (hr : RdC sz w (.slice ao m c) rows) (hs : ∀ r ∈ rows, r.length = sz) (hone : ∀ r ∈ rows, ∀ u ∈ r, u.oneCell' = true)
    (hl : (n + m) * bytes ≤ 140737488355328) (hl2 : n + m ≤ 1000000000000) (hb : base ≤ w.heap.size) (he : a.eval s = v) (hx : a.eval x = .slice ao m c)
    (hK : ∀ ao' cap' w1, Hid (w1.ownsRow base e sz (.slice ao' (n + m) cap') (n + m) (xs ++ rows.flatten)) → Hid (w.grownBy w1 v.ownBlock) → Hid ((Value.slice ao' (n + m) cap').ownBlock = v.ownBlock ∨ (Value.slice ao' (n + m) cap').ownBlock = some w.heap.size) →
      wpList Tryz.prog ops Q rest (a.put o.dst (.slice ao' (n + m) cap')) w1) :
    wpList Tryz.prog ops Q (o :: rest) a w := by
  obtain ⟨ao', cap', w1, hrun, h2, h3, h4⟩ := appendC w base T e z sz bytes hu hinf hzs hs0 v n xs h ao m c rows hr hs hone hl hl2 hb
  refine wpList_plain hgd fun K hK' => ?_
  unfold Oper.wp execOp
  simp only [ho, hty, resolve, invoke, builtin, Sem.run_bind, Sem.run_pure, Result.andThen_ok, List.map_toArray, List.map_cons, List.map_nil, he, hx, hrun]
  exact hK' _ _ (hK ao' cap' w1 h2 h3 h4)
end Go.Proofs.YtejchncdimcdbaaGreatDoor
namespace Go.Proofs.YtejchncdimcdbaaGreatDoor
open Go.RowKit Go.BigFrame
set_option linter.unusedVariables false
set_option linter.unusedSimpArgs false

def rowB (t : Nat × Value × List En) : List Value := [.int .u64 (t.1 : Int), t.2.1]
theorem cellsB_flat (ts : List (Nat × Value × List En)) : (ts.map rowB).flatten = cellsB ts := by
  unfold cellsB
  rw [List.flatMap_def]
  rfl
theorem rowB_len (ts : List (Nat × Value × List En)) : ∀ r ∈ ts.map rowB, r.length = 2 := by
  intro r hr
  obtain ⟨a, _, rfl⟩ := List.mem_map.1 hr
  rfl
theorem RdN.oneV {w : World} {v : Value} {es : List En} (h : RdN w v es) : v.oneCell' = true := by
  obtain ⟨a, n, c, _, _, rfl, _⟩ := h
  rfl
theorem OwnB.rdC {w0 w : World} {v : Value} {ts : List (Nat × Value × List En)} (h : OwnB w0 w v ts) : RdC 2 w v (ts.map rowB) :=
  rdC_owns (e := 129) (base := w0.heap.size) (by rw [cellsB_flat, List.length_map]; exact h.own) (rowB_len ts)
theorem OwnB.rdN {w0 w : World} {v : Value} {ts : List (Nat × Value × List En)} (h : OwnB w0 w v ts) : ∀ t ∈ ts, RdN w t.2.1 t.2.2 := by
  intro t ht
  obtain ⟨B, C, _, _, _, h5⟩ := h.rd t ht
  exact h5 [] w (Kept.refl _ _) (by simp)
theorem OwnB.oneC {w0 w : World} {v : Value} {ts : List (Nat × Value × List En)} (h : OwnB w0 w v ts) : ∀ r ∈ ts.map rowB, ∀ u ∈ r, u.oneCell' = true := by
  intro r hr u hu
  obtain ⟨a, ha, rfl⟩ := List.mem_map.1 hr
  simp only [rowB, List.mem_cons, List.not_mem_nil, or_false] at hu
  rcases hu with rfl | rfl
  · rfl
  · exact (h.rdN a ha).oneV
theorem cellsB_cat (ts ss : List (Nat × Value × List En)) : cellsB (ts ++ ss) = cellsB ts ++ cellsB ss := by simp [cellsB]
/-- What turns outside is nothing to it. -/
theorem OwnB.stay {w0 w w' : World} {M : List Nat} {v : Value} {ts : List (Nat × Value × List En)} (h : OwnB w0 w v ts) (k : Kept M w w') (hM : ∀ x ∈ M, x < w0.heap.size ∨ w.heap.size ≤ x) : OwnB w0 w' v ts := by
  have k2 : Kept (M.filter (· < w0.heap.size)) w w' := ⟨k.os, k.tape, k.output, k.size, fun j hj hn => k.block j hj (fun hm => hn (by
    rw [List.mem_filter]
    refine ⟨hm, ?_⟩
    rcases hM j hm with h1 | h1
    · simpa using h1
    · omega))⟩
  exact h.pass k2 (fun x hx => by rw [List.mem_filter] at hx; simpa using hx.2)
/-- Batches behind batches. -/
theorem OwnB.cat {w0 w1 w W : World} {v v2 v' : Value} {ts ss : List (Nat × Value × List En)} (h : OwnB w0 w v ts) (h2 : OwnB w1 w v2 ss) (h01 : w0.heap.size ≤ w1.heap.size) (hv : ∀ b, v.ownBlock = some b → b < w1.heap.size)
    (o : W.ownsRow w0.heap.size 129 2 v' (ts.length + ss.length) (cellsB ts ++ cellsB ss)) (gr : w.grownBy W v.ownBlock) (hg : v'.ownBlock = v.ownBlock ∨ v'.ownBlock = some w.heap.size) :
    OwnB w0 W v' (ts ++ ss) := by
  have kW : Kept v.ownBlock.toList w W := ((Kept.refl _ w)).grown gr (by intro k hk; left; simp [hk])
  refine ⟨by rw [cellsB_cat, List.length_append]; exact o, fun t ht => ?_, Nat.le_trans h.sz kW.size⟩
  rcases List.mem_append.1 ht with ht | ht
  · obtain ⟨B1, C, h1, h2, h3, h4⟩ := h.rd t ht
    refine ⟨B1, C, Nat.le_trans h1 kW.size, h2, fun b hb => ?_, fun N w2 kN hN => h4 (v.ownBlock.toList ++ N) w2 ((kW.mono (M := v.ownBlock.toList ++ N) (fun x hx => List.mem_append_left _ hx)).trans kN (fun x hx => Or.inl (by simp [hx]))) (fun x hx => ?_)⟩
    · rcases hg with hg | hg
      · rw [hg] at hb; exact h3 _ hb
      · rw [hg] at hb; simp only [Option.some.injEq] at hb; omega
    · rcases List.mem_append.1 hx with hx | hx
      · exact h3 x (by simpa using hx)
      · exact hN x hx
  · obtain ⟨B1, C, h1, h5, h3, h4⟩ := h2.rd t ht
    refine ⟨B1, C, Nat.le_trans h1 kW.size, Nat.le_trans h01 h5, fun b hb => ?_, fun N w2 kN hN => h4 (v.ownBlock.toList ++ N) w2 ((kW.mono (M := v.ownBlock.toList ++ N) (fun x hx => List.mem_append_left _ hx)).trans kN (fun x hx => Or.inl (by simp [hx]))) (fun x hx => ?_)⟩
    · rcases hg with hg | hg
      · rw [hg] at hb; have := hv _ hb; exact Or.inl (by omega)
      · rw [hg] at hb; simp only [Option.some.injEq] at hb; omega
    · rcases List.mem_append.1 hx with hx | hx
      · have := hv x (by simpa using hx); exact Or.inl (by omega)
      · exact hN x hx
end Go.Proofs.YtejchncdimcdbaaGreatDoor
namespace Go.Proofs.YtejchncdimcdbaaGreatDoor
open Go.RowKit Go.BigFrame Go.Maps Go.Sort
set_option linter.unusedVariables false
set_option linter.unusedSimpArgs false

/-- Batches that are owned, and stay where the blocks of X turn. -/
structure OwnX (X : List Nat) (w0 w : World) (v : Value) (ts : List (Nat × Value × List En)) : Prop where
  own : w.ownsRow w0.heap.size 129 2 v ts.length (cellsB ts)
  rd : ∀ t ∈ ts, ∃ B C, C ≤ w.heap.size ∧ w0.heap.size ≤ B ∧ (∀ b, v.ownBlock = some b → b < B ∨ C ≤ b) ∧ (∀ b ∈ X, b < B ∨ C ≤ b) ∧ ∀ M w', Kept M w w' → (∀ x ∈ M, x < B ∨ C ≤ x) → RdN w' t.2.1 t.2.2
  sz : w0.heap.size ≤ w.heap.size
  ap : ∀ b, v.ownBlock = some b → b ∉ X
theorem OwnX.start (w : World) : OwnX [] w w (.slice none 0 0) [] := ⟨World.ownsRow_nil _ _ _ _, by simp, Nat.le_refl _, by simp⟩
theorem OwnX.pass {X : List Nat} {w0 w w' : World} {M : List Nat} {v : Value} {ts : List (Nat × Value × List En)} (h : OwnX X w0 w v ts) (k : Kept M w w') (hM : ∀ x ∈ M, x < w0.heap.size ∨ x ∈ X) : OwnX X w0 w' v ts := by
  refine ⟨k.owns h.own (fun b hb hm => ?_), fun t ht => ?_, Nat.le_trans h.sz k.size, h.ap⟩
  · rcases hM b hm with h1 | h1
    · have := (h.own.lt b hb).1; omega
    · exact h.ap b hb h1
  · obtain ⟨B, C, h1, h2, h3, h4, h5⟩ := h.rd t ht
    refine ⟨B, C, Nat.le_trans h1 k.size, h2, h3, h4, fun N w2 kN hN => h5 (M ++ N) w2 ((k.mono (M := M ++ N) (fun x hx => by simp [hx])).trans kN (fun x hx => Or.inl (by simp [hx]))) (fun x hx => ?_)⟩
    rcases List.mem_append.1 hx with hx | hx
    · rcases hM x hx with h6 | h6
      · omega
      · exact h4 x h6
    · exact hN x hx
/-- Other blocks that may turn: old ones, or new. -/
theorem OwnX.turn {X Y : List Nat} {w0 w : World} {v : Value} {ts : List (Nat × Value × List En)} (h : OwnX X w0 w v ts) {n : Nat} (hY : ∀ b ∈ Y, b ∈ X ∨ n ≤ b) {wo : World} (hn : wo.heap.size = n) (ho : OwnX X w0 wo v ts) (k : Kept X wo w) : OwnX Y w0 w v ts := by
  refine ⟨h.own, fun t ht => ?_, h.sz, fun b hb hm => ?_⟩
  · obtain ⟨B, C, h1, h2, h3, h4, h5⟩ := ho.rd t ht
    refine ⟨B, C, Nat.le_trans h1 k.size, h2, h3, fun b hb => ?_, fun N w2 kN hN => h5 (X ++ N) w2 ((k.mono (M := X ++ N) (fun x hx => by simp [hx])).trans kN (fun x hx => Or.inl (by simp [hx]))) (fun x hx => ?_)⟩
    · rcases hY b hb with h6 | h6
      · exact h4 b h6
      · omega
    · rcases List.mem_append.1 hx with hx | hx
      · exact h4 x hx
      · exact hN x hx
  · rcases hY b hm with h6 | h6
    · exact h.ap b hb h6
    · have := (ho.own.lt b hb).2; omega
/-- Batches behind batches. -/
theorem OwnX.cat {X M : List Nat} {w0 w1 wr w W : World} {v v2 v' : Value} {ts ss : List (Nat × Value × List En)} (h : OwnX X w0 w v ts) (h2 : OwnB w1 wr v2 ss) (k : Kept M wr w) (hM : ∀ x ∈ M, x < w1.heap.size ∨ wr.heap.size ≤ x) (h01 : w0.heap.size ≤ w1.heap.size) (hv : ∀ b, v.ownBlock = some b → b < w1.heap.size) (hX : ∀ b ∈ X, b < w1.heap.size ∨ wr.heap.size ≤ b) (hXl : ∀ b ∈ X, b < w.heap.size)
    (o : W.ownsRow w0.heap.size 129 2 v' (ts.length + ss.length) (cellsB ts ++ cellsB ss)) (gr : w.grownBy W v.ownBlock) (hg : v'.ownBlock = v.ownBlock ∨ v'.ownBlock = some w.heap.size) :
    OwnX X w0 W v' (ts ++ ss) := by
  have kW : Kept v.ownBlock.toList w W := ((Kept.refl _ w)).grown gr (by intro k hk; left; simp [hk])
  refine ⟨by rw [cellsB_cat, List.length_append]; exact o, fun t ht => ?_, Nat.le_trans h.sz kW.size, fun b hb hm => ?_⟩
  · rcases List.mem_append.1 ht with ht | ht
    · obtain ⟨B1, C, h1, h2, h3, h4, h5⟩ := h.rd t ht
      refine ⟨B1, C, Nat.le_trans h1 kW.size, h2, fun b hb => ?_, h4, fun N w2 kN hN => h5 (v.ownBlock.toList ++ N) w2 ((kW.mono (M := v.ownBlock.toList ++ N) (fun x hx => List.mem_append_left _ hx)).trans kN (fun x hx => Or.inl (by simp [hx]))) (fun x hx => ?_)⟩
      · rcases hg with hg | hg
        · rw [hg] at hb; exact h3 _ hb
        · rw [hg] at hb; simp only [Option.some.injEq] at hb; omega
      · rcases List.mem_append.1 hx with hx | hx
        · exact h3 x (by simpa using hx)
        · exact hN x hx
    · obtain ⟨B1, C, h1, h5, h3, h4⟩ := h2.rd t ht
      refine ⟨B1, C, Nat.le_trans h1 (Nat.le_trans k.size kW.size), Nat.le_trans h01 h5, fun b hb => ?_, fun b hb => ?_, fun N w2 kN hN => h4 ((M ++ v.ownBlock.toList) ++ N) w2 (((k.mono (M := (M ++ v.ownBlock.toList) ++ N) (fun x hx => by simp [hx])).trans (kW.mono (M := (M ++ v.ownBlock.toList) ++ N) (fun x hx => by simp at hx; simp [hx])) (fun x hx => Or.inl hx)).trans kN (fun x hx => Or.inl (by simp [hx]))) (fun x hx => ?_)⟩
      · have hks := k.size
        rcases hg with hg | hg
        · rw [hg] at hb; have := hv _ hb; exact Or.inl (by omega)
        · rw [hg] at hb; simp only [Option.some.injEq] at hb; omega
      · rcases hX b hb with h6 | h6
        · exact Or.inl (by omega)
        · exact Or.inr (by omega)
      · rcases List.mem_append.1 hx with hx | hx
        · rcases List.mem_append.1 hx with hx | hx
          · rcases hM x hx with h6 | h6
            · exact Or.inl (by omega)
            · exact Or.inr (by omega)
          · have := hv x (by simpa using hx); exact Or.inl (by omega)
        · exact hN x hx
  · rcases hg with hg | hg
    · rw [hg] at hb; exact h.ap b hb hm
    · rw [hg] at hb; simp only [Option.some.injEq] at hb; have := hXl b hm; omega
/-- The cells of what was found. -/
def fdC (f : FSt) (sv bv : Value) : Array Value := #[.int .u64 (f.last : Int), .int .u64 (f.ep : Int), .int .u64 (f.sz : Int), sv, bv]
theorem fdC_cell {w : World} {g : Nat} {f : FSt} {sv bv : Value} {ty : TypeId} (h : w.heap[g]? = some (.cells (fdC f sv bv) ty (0, 0))) : w.cell? ⟨g, 0, none⟩ = some (.int .u64 (f.last : Int)) ∧ w.cell? ⟨g, 1, none⟩ = some (.int .u64 (f.ep : Int)) ∧ w.cell? ⟨g, 2, none⟩ = some (.int .u64 (f.sz : Int)) ∧ w.cell? ⟨g, 3, none⟩ = some sv ∧ w.cell? ⟨g, 4, none⟩ = some bv := by
  refine ⟨?_, ?_, ?_, ?_, ?_⟩ <;> rw [cell_of_row _ _ _ _ _ _ h] <;> rfl
theorem ffroz {w : World} {b : Nat} {cs : Array Value} {t : TypeId} (h : w.heap[b]? = some (.cells cs t (0, 0))) : w.frozen? ⟨b, 0, none⟩ = false ∧ w.frozen? ⟨b, 1, none⟩ = false ∧ w.frozen? ⟨b, 2, none⟩ = false ∧ w.frozen? ⟨b, 3, none⟩ = false ∧ w.frozen? ⟨b, 4, none⟩ = false :=
  ⟨frozen_of_row _ _ _ _ _ h, frozen_of_row _ _ _ _ _ h, frozen_of_row _ _ _ _ _ h, frozen_of_row _ _ _ _ _ h, frozen_of_row _ _ _ _ _ h⟩
/-- What was found so far, at block g, its lists made behind w0. -/
structure FK (w0 w : World) (g : Nat) (f : FSt) (sv bv : Value) (ts : List (Nat × Value × List En)) : Prop where
  row : w.heap[g]? = some (.cells (fdC f sv bv) 110 (0, 0))
  gl : g < w0.heap.size
  sg : w.ownsRow w0.heap.size 9 1 sv f.sg.length (f.sg.map encStr)
  bs : OwnX sv.ownBlock.toList w0 w bv ts
  eq : f.bs = ts.map fun t => (t.1, t.2.2)
  last : f.last < 18446744073709551616
  ep : f.ep < 18446744073709551616
  szb : f.sz < 18446744073709551616
theorem FK.pass {w0 w w' : World} {g : Nat} {f : FSt} {sv bv : Value} {ts : List (Nat × Value × List En)} (h : FK w0 w g f sv bv ts) (k : Kept [] w w') : FK w0 w' g f sv bv ts :=
  { h with row := k.heap h.row (by simp), sg := k.owns h.sg (by simp), bs := h.bs.pass k (by simp) }
set_option maxRecDepth 100000 in
set_option maxHeartbeats 2000000 in
theorem wgoes_any (g a b c : Nat) (z : Int) (f : FSt) (sv bv : Value) (w : World) (hr : w.heap[g]? = some (.cells (fdC f sv bv) 110 (0, 0))) (p : List Nat) (hc : (hdC p).c = c) (hb : (hdC p).b = b) :
    Calls Tryz.prog 84 #[.pointer (some ⟨g, 0, none⟩), .agg #[.int .u64 (a : Int), .int .u64 (b : Int), .int .u64 (c : Int), .int .i64 z]] w fun e w' => e = .returned (.bool (goOnF f p)) ∧ Kept [] w w' := by
  have hk := (Kept.refl [] w).alloc (.cells #[.int .u64 (a : Int), .int .u64 (b : Int), .int .u64 (c : Int), .int .i64 z] 81)
  have hh := heap_alloc_new w (.cells #[.int .u64 (a : Int), .int .u64 (b : Int), .int .u64 (c : Int), .int .i64 z] 81)
  obtain ⟨c0, c1, c2, c3, c4⟩ := fdC_cell (hk.heap hr (by simp))
  obtain ⟨q0, q1, q2, q3⟩ := hcells hh
  have HK := hide hk
  unfold goOnF
  rw [hc, hb]
  clear hk hh hr hc hb c0 c3 c4 q0 q3
  by_cases h1 : c = f.sz
  · rw [decide_eq_true h1, Bool.true_and]
    subst h1
    by_cases h2 : f.ep ≤ b
    · have g2 : (f.ep : Int) ≤ (b : Int) := by omega
      rw [decide_eq_true h2, Bool.true_and]
      by_cases h3 : b < 18446744073709551615
      · have g3 : (b : Int) < 18446744073709551615 := by omega
        rw [decide_eq_true h3]
        go_enter Tryz.func84, Tryz.ntmps84
        go_upto_region 1 with fail
        refine wp_region_quiet_lit (by kernel_rfl) (by kernel_rfl) ?_
        repeat (go_big_quiet_step (fail))
        refine wpQuiet_nil ?_
        rintro _ ⟨m5, rfl⟩
        go_wp2_with fail
        go_ret
        exact ⟨rfl, (unhide HK).drewN m5⟩
      · have g3 : ¬ (b : Int) < 18446744073709551615 := by omega
        rw [decide_eq_false h3]
        go_enter Tryz.func84, Tryz.ntmps84
        go_upto_region 1 with fail
        refine wp_region_quiet_lit (by kernel_rfl) (by kernel_rfl) ?_
        repeat (go_big_quiet_step (fail))
        refine wpQuiet_nil ?_
        rintro _ ⟨m5, rfl⟩
        go_wp2_with fail
        go_ret
        exact ⟨rfl, (unhide HK).drewN m5⟩
    · have g2 : ¬ (f.ep : Int) ≤ (b : Int) := by omega
      rw [decide_eq_false h2, Bool.false_and]
      go_enter Tryz.func84, Tryz.ntmps84
      go_upto_region 1 with fail
      refine wp_region_quiet_lit (by kernel_rfl) (by kernel_rfl) ?_
      repeat (go_big_quiet_step (fail))
      refine wpQuiet_nil ?_
      rintro _ ⟨m5, rfl⟩
      go_wp2_with fail
      go_ret
      exact ⟨rfl, (unhide HK).drewN m5⟩
  · have g1 : ((c : Int) == (f.sz : Int)) = false := by simp; omega
    rw [decide_eq_false h1, Bool.false_and, Bool.false_and]
    go_enter Tryz.func84, Tryz.ntmps84
    go_upto_region 1 with fail
    refine wp_region_quiet_lit (by kernel_rfl) (by kernel_rfl) ?_
    repeat (go_big_quiet_step (fail))
    refine wpQuiet_nil ?_
    rintro _ ⟨m5, rfl⟩
    go_wp2_with fail
    go_ret
    exact ⟨rfl, (unhide HK).drewN m5⟩
end Go.Proofs.YtejchncdimcdbaaGreatDoor
namespace Go.Proofs.YtejchncdimcdbaaGreatDoor
open Go.RowKit Go.BigFrame Go.Maps Go.Sort
set_option linter.unusedVariables false
set_option linter.unusedSimpArgs false

/-- A slice that reads as strings. -/
def RdS (w : World) (v : Value) (ss : List (List UInt8)) : Prop :=
  ∃ (ao : Option Addr) (len cap : Nat), v = .slice ao len cap ∧ ss.length = len ∧ len ≤ cap ∧ cap ≤ 9223372036854775807 ∧ (0 < len → ∃ b off, ao = some ⟨b, off, none⟩ ∧ ∀ i (h : i < ss.length), w.cell? ⟨b, off + i, none⟩ = some (encStr ss[i]))
theorem RdS.kept {L : List Nat} {w w' : World} {v : Value} {ss : List (List UInt8)} (h : RdS w v ss) (k : Kept L w w') (hn : ∀ x ∈ blk v, x ∉ L) : RdS w' v ss := by
  obtain ⟨ao, len, cap, rfl, h1, h2, h3, h4⟩ := h
  refine ⟨ao, len, cap, rfl, h1, h2, h3, fun hp => ?_⟩
  obtain ⟨b, off, rfl, hc⟩ := h4 hp
  exact ⟨b, off, rfl, fun i hi => k.cell (hc i hi) (hn b (by simp [blk]))⟩
theorem rds_owns {w : World} {base : Nat} {v : Value} {ss : List (List UInt8)} (h : w.ownsRow base 9 1 v ss.length (ss.map encStr)) : RdS w v ss := by
  rcases h.2 with ⟨rfl, h0⟩ | ⟨g, cap, cur, rfl, hb, hg, hc, hm, hs, ht⟩
  · exact ⟨none, 0, 0, rfl, h0, Nat.le_refl _, by omega, fun h => by omega⟩
  · refine ⟨some ⟨g, 0, none⟩, ss.length, cap, rfl, rfl, hc, by unfold maxLen at hm; omega, fun hp => ⟨g, 0, rfl, fun i hi => ?_⟩⟩
    have h9 := h.cells (g := g) rfl i (encStr ss[i]) (by rw [List.getElem?_map, List.getElem?_eq_getElem hi]; rfl)
    rw [Addr.add_lit] at h9
    exact h9
end Go.Proofs.YtejchncdimcdbaaGreatDoor
/-
  Laws for drawn regions with a late store, by genchain.py. No program.
-/
namespace Go.Proofs.YtejchncdimcdbaaGreatDoor
open Go Go.RowKit Go.BigFrame
set_option linter.unusedVariables false
set_option linter.unusedSimpArgs false
section
variable {P : Program} {Q : Exit → Act → World → Prop}
theorem wp_c11 {id : Nat} {o0 o1 o2 o3 o4 o5 o6 o7 o8 o9 o10 : Oper} {a : Act} {w : World} (hm : P.follows .mixedOrders = true) (hs : Region.noSelect #[o0, o1, o2, o3, o4, o5, o6, o7, o8, o9, o10] = true)
    (f0 : Region.free .any #[o0, o1, o2, o3, o4, o5, o6, o7, o8, o9, o10] #[false, false, false, false, false, false, false, false, false, false, false] 0 = true) (r0 : (Region.ready .any #[o0, o1, o2, o3, o4, o5, o6, o7, o8, o9, o10] #[false, false, false, false, false, false, false, false, false, false, false]).contains 0 = true) (e0 : o10.after.any (fun e => Region.binds .any e && e.on == 0) = true)
    (f1 : Region.free .any #[o0, o1, o2, o3, o4, o5, o6, o7, o8, o9, o10] #[true, false, false, false, false, false, false, false, false, false, false] 1 = true) (r1 : (Region.ready .any #[o0, o1, o2, o3, o4, o5, o6, o7, o8, o9, o10] #[true, false, false, false, false, false, false, false, false, false, false]).contains 1 = true) (e1 : o10.after.any (fun e => Region.binds .any e && e.on == 1) = true)
    (f2 : Region.free .any #[o0, o1, o2, o3, o4, o5, o6, o7, o8, o9, o10] #[true, true, false, false, false, false, false, false, false, false, false] 2 = true) (r2 : (Region.ready .any #[o0, o1, o2, o3, o4, o5, o6, o7, o8, o9, o10] #[true, true, false, false, false, false, false, false, false, false, false]).contains 2 = true) (e2 : o10.after.any (fun e => Region.binds .any e && e.on == 2) = true)
    (f3 : Region.free .any #[o0, o1, o2, o3, o4, o5, o6, o7, o8, o9, o10] #[true, true, true, false, false, false, false, false, false, false, false] 3 = true) (r3 : (Region.ready .any #[o0, o1, o2, o3, o4, o5, o6, o7, o8, o9, o10] #[true, true, true, false, false, false, false, false, false, false, false]).contains 3 = true) (e3 : o10.after.any (fun e => Region.binds .any e && e.on == 3) = true)
    (f4 : Region.free .any #[o0, o1, o2, o3, o4, o5, o6, o7, o8, o9, o10] #[true, true, true, true, false, false, false, false, false, false, false] 4 = true) (r4 : (Region.ready .any #[o0, o1, o2, o3, o4, o5, o6, o7, o8, o9, o10] #[true, true, true, true, false, false, false, false, false, false, false]).contains 4 = true) (e4 : o10.after.any (fun e => Region.binds .any e && e.on == 4) = true)
    (f5 : Region.free .any #[o0, o1, o2, o3, o4, o5, o6, o7, o8, o9, o10] #[true, true, true, true, true, false, false, false, false, false, false] 5 = true) (r5 : (Region.ready .any #[o0, o1, o2, o3, o4, o5, o6, o7, o8, o9, o10] #[true, true, true, true, true, false, false, false, false, false, false]).contains 5 = true) (e5 : o10.after.any (fun e => Region.binds .any e && e.on == 5) = true)
    (f6 : Region.free .any #[o0, o1, o2, o3, o4, o5, o6, o7, o8, o9, o10] #[true, true, true, true, true, true, false, false, false, false, false] 6 = true) (r6 : (Region.ready .any #[o0, o1, o2, o3, o4, o5, o6, o7, o8, o9, o10] #[true, true, true, true, true, true, false, false, false, false, false]).contains 6 = true) (e6 : o10.after.any (fun e => Region.binds .any e && e.on == 6) = true)
    (q7 : Region.ready .any #[o0, o1, o2, o3, o4, o5, o6, o7, o8, o9, o10] #[true, true, true, true, true, true, true, false, false, false, false] = [7]) (g7 : o7.guard = none)
    (q8 : Region.ready .any #[o0, o1, o2, o3, o4, o5, o6, o7, o8, o9, o10] #[true, true, true, true, true, true, true, true, false, false, false] = [8]) (g8 : o8.guard = none)
    (q9 : Region.ready .any #[o0, o1, o2, o3, o4, o5, o6, o7, o8, o9, o10] #[true, true, true, true, true, true, true, true, true, false, false] = [9]) (g9 : o9.guard = none)
    (q10 : Region.ready .any #[o0, o1, o2, o3, o4, o5, o6, o7, o8, o9, o10] #[true, true, true, true, true, true, true, true, true, true, false] = [10]) (g10 : o10.guard = none)
    (rr : Region.ready .any #[o0, o1, o2, o3, o4, o5, o6, o7, o8, o9, o10] #[true, true, true, true, true, true, true, true, true, true, true] = [])
    (v0 v1 v2 v3 v4 v5 v6 : Value) (A0 A1 A2 A3 A4 A5 A6 : Act) (T : World → Prop)
    (I0 : World → Prop)
    (I1 : Value → World → Prop)
    (I2 : Value → Value → World → Prop)
    (I3 : Value → Value → Value → World → Prop)
    (IE : Value → Value → Value → World → Prop)
    (p0 : a.put o0.dst v0 = A0) (hy0 : YieldsIf P #[o0, o1, o2, o3, o4, o5, o6, o7, o8, o9, o10] T o0 v0 a)
    (p1 : A0.put o1.dst v1 = A1) (hy1 : YieldsIf P #[o0, o1, o2, o3, o4, o5, o6, o7, o8, o9, o10] T o1 v1 A0)
    (p2 : A1.put o2.dst v2 = A2) (hy2 : YieldsIf P #[o0, o1, o2, o3, o4, o5, o6, o7, o8, o9, o10] T o2 v2 A1)
    (p3 : A2.put o3.dst v3 = A3) (hy3 : YieldsIf P #[o0, o1, o2, o3, o4, o5, o6, o7, o8, o9, o10] T o3 v3 A2)
    (p4 : A3.put o4.dst v4 = A4) (hy4 : YieldsIf P #[o0, o1, o2, o3, o4, o5, o6, o7, o8, o9, o10] T o4 v4 A3)
    (p5 : A4.put o5.dst v5 = A5) (hy5 : YieldsIf P #[o0, o1, o2, o3, o4, o5, o6, o7, o8, o9, o10] T o5 v5 A4)
    (p6 : A5.put o6.dst v6 = A6) (hy6 : YieldsIf P #[o0, o1, o2, o3, o4, o5, o6, o7, o8, o9, o10] T o6 v6 A5)
    (i0 : I0 w.drew)
    (hIT : (∀ w', I0  w' → T w') ∧ (∀ (u0 : Value) w', I1 u0 w' → T w') ∧ (∀ (u0 u1 : Value) w', I2 u0 u1 w' → T w') ∧ (∀ (u0 u1 u2 : Value) w', I3 u0 u1 u2 w' → T w'))
    (s0 : ∀ w', I0  w' → ∀ K : Act → World → Prop, (∀ (u0 : Value) w2, I1 u0 w2 → K (A6.put o7.dst u0) w2) → o7.wp P A6 w' K (NoPanic Q))
    (s1 : ∀ (u0 : Value) w', I1 u0 w' → ∀ K : Act → World → Prop, (∀ (u1 : Value) w2, I2 u0 u1 w2 → K ((A6.put o7.dst u0).put o8.dst u1) w2) → o8.wp P (A6.put o7.dst u0) w' K (NoPanic Q))
    (s2 : ∀ (u0 u1 : Value) w', I2 u0 u1 w' → ∀ K : Act → World → Prop, (∀ (u2 : Value) w2, I3 u0 u1 u2 w2 → K (((A6.put o7.dst u0).put o8.dst u1).put o9.dst u2) w2) → o9.wp P ((A6.put o7.dst u0).put o8.dst u1) w' K (NoPanic Q))
    (se : ∀ (u0 u1 u2 : Value) w', I3 u0 u1 u2 w' → ∀ K : Act → World → Prop, (∀ w2, IE u0 u1 u2 w2 → K (((A6.put o7.dst u0).put o8.dst u1).put o9.dst u2) w2) → o10.wp P (((A6.put o7.dst u0).put o8.dst u1).put o9.dst u2) w' K (NoPanic Q))
    (h : ∀ (u0 u1 u2 : Value) w', IE u0 u1 u2 w' → Q .normal (((A6.put o7.dst u0).put o8.dst u1).put o9.dst u2) w') :
    (Code.region id #[o0, o1, o2, o3, o4, o5, o6, o7, o8, o9, o10] true).wp P Q a w := by
  subst p0 p1 p2 p3 p4 p5 p6
  obtain ⟨z0, z1, z2, z3⟩ := hIT
  refine wp_region_noPanic ?_
  refine wp_region_any hm ?_
  refine AnyL.any (S := fun d w' => d.getD 10 true = false → T w') _ _ _ _ ?_
  show AnyL P .any #[o0, o1, o2, o3, o4, o5, o6, o7, o8, o9, o10] (NoPanic Q) _ 11 #[false, false, false, false, false, false, false, false, false, false, false] a w.drew
  have hSi : ∀ i, i ≠ 10 → ∀ (d : Array Bool) (w' : World), ((d.setIfInBounds i true).getD 10 true = false → T w') ↔ (d.getD 10 true = false → T w') := by
    intro i h4 d w'
    rw [getD_set_ne true h4]
  refine AnyL.take (i := 0) (t := 10) (oi := o0) (ot := o10) (T := T) rfl rfl (by decide) hs f0 r0 e0 (fun _ _ _ h => h) (fun d w' h9 hd => h9 hd) (hSi 0 (by decide)) hy0 rfl (fun _ => z0 _ i0) ?_
  refine AnyL.take (i := 1) (t := 10) (oi := o1) (ot := o10) (T := T) rfl rfl (by decide) hs f1 r1 e1 (fun _ _ _ h => h) (fun d w' h9 hd => h9 hd) (hSi 1 (by decide)) hy1 rfl (fun _ => z0 _ i0) ?_
  refine AnyL.take (i := 2) (t := 10) (oi := o2) (ot := o10) (T := T) rfl rfl (by decide) hs f2 r2 e2 (fun _ _ _ h => h) (fun d w' h9 hd => h9 hd) (hSi 2 (by decide)) hy2 rfl (fun _ => z0 _ i0) ?_
  refine AnyL.take (i := 3) (t := 10) (oi := o3) (ot := o10) (T := T) rfl rfl (by decide) hs f3 r3 e3 (fun _ _ _ h => h) (fun d w' h9 hd => h9 hd) (hSi 3 (by decide)) hy3 rfl (fun _ => z0 _ i0) ?_
  refine AnyL.take (i := 4) (t := 10) (oi := o4) (ot := o10) (T := T) rfl rfl (by decide) hs f4 r4 e4 (fun _ _ _ h => h) (fun d w' h9 hd => h9 hd) (hSi 4 (by decide)) hy4 rfl (fun _ => z0 _ i0) ?_
  refine AnyL.take (i := 5) (t := 10) (oi := o5) (ot := o10) (T := T) rfl rfl (by decide) hs f5 r5 e5 (fun _ _ _ h => h) (fun d w' h9 hd => h9 hd) (hSi 5 (by decide)) hy5 rfl (fun _ => z0 _ i0) ?_
  refine AnyL.take (i := 6) (t := 10) (oi := o6) (ot := o10) (T := T) rfl rfl (by decide) hs f6 r6 e6 (fun _ _ _ h => h) (fun d w' h9 hd => h9 hd) (hSi 6 (by decide)) hy6 rfl (fun _ => z0 _ i0) ?_
  refine AnyL.forced q7 rfl g7 (fun K hK => s0  w.drew i0 K (fun u0 w1 i1 => hK _ _ (fun _ => z1 u0 w1 i1) ?_))
  refine AnyL.forced q8 rfl g8 (fun K hK => s1 u0 w1 i1 K (fun u1 w2 i2 => hK _ _ (fun _ => z2 u0 u1 w2 i2) ?_))
  refine AnyL.forced q9 rfl g9 (fun K hK => s2 u0 u1 w2 i2 K (fun u2 w3 i3 => hK _ _ (fun _ => z3 u0 u1 u2 w3 i3) ?_))
  refine AnyL.forced q10 rfl g10 (fun K hK => se u0 u1 u2 w3 i3 K (fun we ie => hK _ _ (fun h9 => (by cases h9)) ?_))
  exact ⟨rr, NoPanic.normal (h u0 u1 u2 we ie)⟩
end
end Go.Proofs.YtejchncdimcdbaaGreatDoor
