import Derived.Test.YtcijeplafknokaaDoorRowz
import Derived.Deep.RegionHeld3
import Derived.Test.YtcijeplafknokaaDoorTopD
import Derived.Test.YtcijeplafknokaaDoorTopA
import Derived.Test.YtcijeplafknokaaDoorTopB
import Derived.Test.YtcijeplafknokaaDoorOpenB
import Derived.Test.YtcijeplafknokaaDoorTopC
import Derived.Test.YtcijeplafknokaaDoorDForm
import Derived.Deep.Slices
/-
  Laws for drawn regions, by genreg.py. No program.
-/
namespace Go.Proofs.YtcijeplafknokaaDoor
open Go Go.RowKit Go.BigFrame
set_option linter.unusedVariables false
set_option linter.unusedSimpArgs false
section
variable {P : Program} {Q : Exit → Act → World → Prop}
theorem wp_ap16 {id : Nat} {o0 o1 o2 o3 o4 o5 o6 o7 o8 o9 o10 o11 o12 o13 o14 o15 : Oper} {a : Act} {w : World} (hm : P.follows .mixedOrders = true) (hs : Region.noSelect #[o0, o1, o2, o3, o4, o5, o6, o7, o8, o9, o10, o11, o12, o13, o14, o15] = true)
    (f0 : Region.free .any #[o0, o1, o2, o3, o4, o5, o6, o7, o8, o9, o10, o11, o12, o13, o14, o15] #[false, false, false, false, false, false, false, false, false, false, false, false, false, false, false, false] 0 = true) (r0 : (Region.ready .any #[o0, o1, o2, o3, o4, o5, o6, o7, o8, o9, o10, o11, o12, o13, o14, o15] #[false, false, false, false, false, false, false, false, false, false, false, false, false, false, false, false]).contains 0 = true)
    (f1 : Region.free .any #[o0, o1, o2, o3, o4, o5, o6, o7, o8, o9, o10, o11, o12, o13, o14, o15] #[true, false, false, false, false, false, false, false, false, false, false, false, false, false, false, false] 1 = true) (r1 : (Region.ready .any #[o0, o1, o2, o3, o4, o5, o6, o7, o8, o9, o10, o11, o12, o13, o14, o15] #[true, false, false, false, false, false, false, false, false, false, false, false, false, false, false, false]).contains 1 = true)
    (f2 : Region.free .any #[o0, o1, o2, o3, o4, o5, o6, o7, o8, o9, o10, o11, o12, o13, o14, o15] #[true, true, false, false, false, false, false, false, false, false, false, false, false, false, false, false] 2 = true) (r2 : (Region.ready .any #[o0, o1, o2, o3, o4, o5, o6, o7, o8, o9, o10, o11, o12, o13, o14, o15] #[true, true, false, false, false, false, false, false, false, false, false, false, false, false, false, false]).contains 2 = true)
    (f3 : Region.free .any #[o0, o1, o2, o3, o4, o5, o6, o7, o8, o9, o10, o11, o12, o13, o14, o15] #[true, true, true, false, false, false, false, false, false, false, false, false, false, false, false, false] 3 = true) (r3 : (Region.ready .any #[o0, o1, o2, o3, o4, o5, o6, o7, o8, o9, o10, o11, o12, o13, o14, o15] #[true, true, true, false, false, false, false, false, false, false, false, false, false, false, false, false]).contains 3 = true)
    (f4 : Region.free .any #[o0, o1, o2, o3, o4, o5, o6, o7, o8, o9, o10, o11, o12, o13, o14, o15] #[true, true, true, true, false, false, false, false, false, false, false, false, false, false, false, false] 4 = true) (r4 : (Region.ready .any #[o0, o1, o2, o3, o4, o5, o6, o7, o8, o9, o10, o11, o12, o13, o14, o15] #[true, true, true, true, false, false, false, false, false, false, false, false, false, false, false, false]).contains 4 = true)
    (f5 : Region.free .any #[o0, o1, o2, o3, o4, o5, o6, o7, o8, o9, o10, o11, o12, o13, o14, o15] #[true, true, true, true, true, false, false, false, false, false, false, false, false, false, false, false] 5 = true) (r5 : (Region.ready .any #[o0, o1, o2, o3, o4, o5, o6, o7, o8, o9, o10, o11, o12, o13, o14, o15] #[true, true, true, true, true, false, false, false, false, false, false, false, false, false, false, false]).contains 5 = true)
    (f6 : Region.free .any #[o0, o1, o2, o3, o4, o5, o6, o7, o8, o9, o10, o11, o12, o13, o14, o15] #[true, true, true, true, true, true, false, false, false, false, false, false, false, false, false, false] 6 = true) (r6 : (Region.ready .any #[o0, o1, o2, o3, o4, o5, o6, o7, o8, o9, o10, o11, o12, o13, o14, o15] #[true, true, true, true, true, true, false, false, false, false, false, false, false, false, false, false]).contains 6 = true)
    (f7 : Region.free .any #[o0, o1, o2, o3, o4, o5, o6, o7, o8, o9, o10, o11, o12, o13, o14, o15] #[true, true, true, true, true, true, true, false, false, false, false, false, false, false, false, false] 7 = true) (r7 : (Region.ready .any #[o0, o1, o2, o3, o4, o5, o6, o7, o8, o9, o10, o11, o12, o13, o14, o15] #[true, true, true, true, true, true, true, false, false, false, false, false, false, false, false, false]).contains 7 = true)
    (f8 : Region.free .any #[o0, o1, o2, o3, o4, o5, o6, o7, o8, o9, o10, o11, o12, o13, o14, o15] #[true, true, true, true, true, true, true, true, false, false, false, false, false, false, false, false] 8 = true) (r8 : (Region.ready .any #[o0, o1, o2, o3, o4, o5, o6, o7, o8, o9, o10, o11, o12, o13, o14, o15] #[true, true, true, true, true, true, true, true, false, false, false, false, false, false, false, false]).contains 8 = true)
    (f9 : Region.free .any #[o0, o1, o2, o3, o4, o5, o6, o7, o8, o9, o10, o11, o12, o13, o14, o15] #[true, true, true, true, true, true, true, true, true, false, false, false, false, false, false, false] 9 = true) (r9 : (Region.ready .any #[o0, o1, o2, o3, o4, o5, o6, o7, o8, o9, o10, o11, o12, o13, o14, o15] #[true, true, true, true, true, true, true, true, true, false, false, false, false, false, false, false]).contains 9 = true)
    (f10 : Region.free .any #[o0, o1, o2, o3, o4, o5, o6, o7, o8, o9, o10, o11, o12, o13, o14, o15] #[true, true, true, true, true, true, true, true, true, true, false, false, false, false, false, false] 10 = true) (r10 : (Region.ready .any #[o0, o1, o2, o3, o4, o5, o6, o7, o8, o9, o10, o11, o12, o13, o14, o15] #[true, true, true, true, true, true, true, true, true, true, false, false, false, false, false, false]).contains 10 = true)
    (f11 : Region.free .any #[o0, o1, o2, o3, o4, o5, o6, o7, o8, o9, o10, o11, o12, o13, o14, o15] #[true, true, true, true, true, true, true, true, true, true, true, false, false, false, false, false] 11 = true) (r11 : (Region.ready .any #[o0, o1, o2, o3, o4, o5, o6, o7, o8, o9, o10, o11, o12, o13, o14, o15] #[true, true, true, true, true, true, true, true, true, true, true, false, false, false, false, false]).contains 11 = true)
    (q_ : Region.ready .any #[o0, o1, o2, o3, o4, o5, o6, o7, o8, o9, o10, o11, o12, o13, o14, o15] #[true, true, true, true, true, true, true, true, true, true, true, true, false, false, false, false] = [12])
    (f_12_13 : Region.free .any #[o0, o1, o2, o3, o4, o5, o6, o7, o8, o9, o10, o11, o12, o13, o14, o15] #[true, true, true, true, true, true, true, true, true, true, true, true, true, false, false, false] 13 = true) (r_12_13 : (Region.ready .any #[o0, o1, o2, o3, o4, o5, o6, o7, o8, o9, o10, o11, o12, o13, o14, o15] #[true, true, true, true, true, true, true, true, true, true, true, true, true, false, false, false]).contains 13 = true)
    (q12_ : Region.ready .any #[o0, o1, o2, o3, o4, o5, o6, o7, o8, o9, o10, o11, o12, o13, o14, o15] #[true, true, true, true, true, true, true, true, true, true, true, true, true, true, false, false] = [14])
    (f12_14_15 : Region.free .any #[o0, o1, o2, o3, o4, o5, o6, o7, o8, o9, o10, o11, o12, o13, o14, o15] #[true, true, true, true, true, true, true, true, true, true, true, true, true, true, true, false] 15 = true) (r12_14_15 : (Region.ready .any #[o0, o1, o2, o3, o4, o5, o6, o7, o8, o9, o10, o11, o12, o13, o14, o15] #[true, true, true, true, true, true, true, true, true, true, true, true, true, true, true, false]).contains 15 = true)
    (q12_14_ : Region.ready .any #[o0, o1, o2, o3, o4, o5, o6, o7, o8, o9, o10, o11, o12, o13, o14, o15] #[true, true, true, true, true, true, true, true, true, true, true, true, true, true, true, true] = [])
    (g12 : o12.guard = none)    (g14 : o14.guard = none)
    (v0 v1 v2 v3 v4 v5 v6 v7 v8 v9 v10 v11 : Value) (A0 A1 A2 A3 A4 A5 A6 A7 A8 A9 A10 A11 : Act)
    (S : World → Prop)
    (I_ : World → Prop)
    (I12_ : Value → World → Prop)
    (I12_14_ : Value → Value → World → Prop)
    (v13 : Value → Value)
    (v15 : Value → Value)
    (p0 : a.put o0.dst v0 = A0) (hy0 : YieldsIf P #[o0, o1, o2, o3, o4, o5, o6, o7, o8, o9, o10, o11, o12, o13, o14, o15] S o0 v0 a)
    (p1 : A0.put o1.dst v1 = A1) (hy1 : YieldsIf P #[o0, o1, o2, o3, o4, o5, o6, o7, o8, o9, o10, o11, o12, o13, o14, o15] S o1 v1 A0)
    (p2 : A1.put o2.dst v2 = A2) (hy2 : YieldsIf P #[o0, o1, o2, o3, o4, o5, o6, o7, o8, o9, o10, o11, o12, o13, o14, o15] S o2 v2 A1)
    (p3 : A2.put o3.dst v3 = A3) (hy3 : YieldsIf P #[o0, o1, o2, o3, o4, o5, o6, o7, o8, o9, o10, o11, o12, o13, o14, o15] S o3 v3 A2)
    (p4 : A3.put o4.dst v4 = A4) (hy4 : YieldsIf P #[o0, o1, o2, o3, o4, o5, o6, o7, o8, o9, o10, o11, o12, o13, o14, o15] S o4 v4 A3)
    (p5 : A4.put o5.dst v5 = A5) (hy5 : YieldsIf P #[o0, o1, o2, o3, o4, o5, o6, o7, o8, o9, o10, o11, o12, o13, o14, o15] S o5 v5 A4)
    (p6 : A5.put o6.dst v6 = A6) (hy6 : YieldsIf P #[o0, o1, o2, o3, o4, o5, o6, o7, o8, o9, o10, o11, o12, o13, o14, o15] S o6 v6 A5)
    (p7 : A6.put o7.dst v7 = A7) (hy7 : YieldsIf P #[o0, o1, o2, o3, o4, o5, o6, o7, o8, o9, o10, o11, o12, o13, o14, o15] S o7 v7 A6)
    (p8 : A7.put o8.dst v8 = A8) (hy8 : YieldsIf P #[o0, o1, o2, o3, o4, o5, o6, o7, o8, o9, o10, o11, o12, o13, o14, o15] S o8 v8 A7)
    (p9 : A8.put o9.dst v9 = A9) (hy9 : YieldsIf P #[o0, o1, o2, o3, o4, o5, o6, o7, o8, o9, o10, o11, o12, o13, o14, o15] S o9 v9 A8)
    (p10 : A9.put o10.dst v10 = A10) (hy10 : YieldsIf P #[o0, o1, o2, o3, o4, o5, o6, o7, o8, o9, o10, o11, o12, o13, o14, o15] S o10 v10 A9)
    (p11 : A10.put o11.dst v11 = A11) (hy11 : YieldsIf P #[o0, o1, o2, o3, o4, o5, o6, o7, o8, o9, o10, o11, o12, o13, o14, o15] S o11 v11 A10)
    (i0 : I_ w.drew)
    (hIS : (∀ w', I_  w' → S w') ∧ (∀ (u12 : Value) w', I12_ u12 w' → S w') ∧ (∀ (u12 u14 : Value) w', I12_14_ u12 u14 w' → S w'))
    (s_12 : ∀ w', I_  w' → ∀ K : Act → World → Prop, (∀ (u12 : Value) w2, I12_ u12 w2 → K (A11.put o12.dst u12) w2) → o12.wp P A11 w' K (NoPanic Q))
    (s12_14 : ∀ (u12 : Value) w', I12_ u12 w' → ∀ K : Act → World → Prop, (∀ (u14 : Value) w2, I12_14_ u12 u14 w2 → K (((A11.put o12.dst u12).put o13.dst (v13 u12)).put o14.dst u14) w2) → o14.wp P ((A11.put o12.dst u12).put o13.dst (v13 u12)) w' K (NoPanic Q))
    (y_12_13 : ∀ (u12 : Value) w', I12_ u12 w' → YieldsIf P #[o0, o1, o2, o3, o4, o5, o6, o7, o8, o9, o10, o11, o12, o13, o14, o15] S o13 (v13 u12) (A11.put o12.dst u12))
    (y12_14_15 : ∀ (u12 u14 : Value) w', I12_14_ u12 u14 w' → YieldsIf P #[o0, o1, o2, o3, o4, o5, o6, o7, o8, o9, o10, o11, o12, o13, o14, o15] S o15 (v15 u14) (((A11.put o12.dst u12).put o13.dst (v13 u12)).put o14.dst u14))
    (h : ∀ (u12 u14 : Value) w', I12_14_ u12 u14 w' → Q .normal ((((A11.put o12.dst u12).put o13.dst (v13 u12)).put o14.dst u14).put o15.dst (v15 u14)) w') :
    (Code.region id #[o0, o1, o2, o3, o4, o5, o6, o7, o8, o9, o10, o11, o12, o13, o14, o15] true).wp P Q a w := by
  subst p0 p1 p2 p3 p4 p5 p6 p7 p8 p9 p10 p11
  obtain ⟨z_, z12_, z12_14_⟩ := hIS
  refine wp_region_noPanic ?_
  refine wp_region_held_drew (S := S) hm (z_ _ i0) (fun hH => ?_)
  show wpAnyH P .any #[o0, o1, o2, o3, o4, o5, o6, o7, o8, o9, o10, o11, o12, o13, o14, o15] (NoPanic Q) S 16 #[false, false, false, false, false, false, false, false, false, false, false, false, false, false, false, false] a w.drew
  refine wpAnyH_take (i := 0) (oi := o0) rfl hs f0 r0 (fun _ _ _ h => h) hy0 hH ?_
  refine wpAnyH_take (i := 1) (oi := o1) rfl hs f1 r1 (fun _ _ _ h => h) hy1 hH ?_
  refine wpAnyH_take (i := 2) (oi := o2) rfl hs f2 r2 (fun _ _ _ h => h) hy2 hH ?_
  refine wpAnyH_take (i := 3) (oi := o3) rfl hs f3 r3 (fun _ _ _ h => h) hy3 hH ?_
  refine wpAnyH_take (i := 4) (oi := o4) rfl hs f4 r4 (fun _ _ _ h => h) hy4 hH ?_
  refine wpAnyH_take (i := 5) (oi := o5) rfl hs f5 r5 (fun _ _ _ h => h) hy5 hH ?_
  refine wpAnyH_take (i := 6) (oi := o6) rfl hs f6 r6 (fun _ _ _ h => h) hy6 hH ?_
  refine wpAnyH_take (i := 7) (oi := o7) rfl hs f7 r7 (fun _ _ _ h => h) hy7 hH ?_
  refine wpAnyH_take (i := 8) (oi := o8) rfl hs f8 r8 (fun _ _ _ h => h) hy8 hH ?_
  refine wpAnyH_take (i := 9) (oi := o9) rfl hs f9 r9 (fun _ _ _ h => h) hy9 hH ?_
  refine wpAnyH_take (i := 10) (oi := o10) rfl hs f10 r10 (fun _ _ _ h => h) hy10 hH ?_
  refine wpAnyH_take (i := 11) (oi := o11) rfl hs f11 r11 (fun _ _ _ h => h) hy11 hH ?_
  generalize ((((((((((((a.put o0.dst v0).put o1.dst v1).put o2.dst v2).put o3.dst v3).put o4.dst v4).put o5.dst v5).put o6.dst v6).put o7.dst v7).put o8.dst v8).put o9.dst v9).put o10.dst v10).put o11.dst v11) = B at *
  have wa12 : ∀ y, Region.wanted o12 y = true := fun y => by unfold Region.wanted; rw [g12]
  have wa14 : ∀ y, Region.wanted o14 y = true := fun y => by unfold Region.wanted; rw [g14]
  have t12_14_ : ∀ (u12 u14 : Value) w', I12_14_ u12 u14 w' → wpAnyH P .any #[o0, o1, o2, o3, o4, o5, o6, o7, o8, o9, o10, o11, o12, o13, o14, o15] (NoPanic Q) S 0 #[true, true, true, true, true, true, true, true, true, true, true, true, true, true, true, true] ((((B.put o12.dst u12).put o13.dst (v13 u12)).put o14.dst u14).put o15.dst (v15 u14)) w' := by
    intro u12 u14 w0 i0
    exact ⟨q12_14_, NoPanic.normal (h u12 u14 w0 i0)⟩
  have t12_ : ∀ (u12 : Value) w', I12_ u12 w' → wpAnyH P .any #[o0, o1, o2, o3, o4, o5, o6, o7, o8, o9, o10, o11, o12, o13, o14, o15] (NoPanic Q) S 2 #[true, true, true, true, true, true, true, true, true, true, true, true, true, true, false, false] ((B.put o12.dst u12).put o13.dst (v13 u12)) w' := by
    intro u12 w0 i0
    refine wpAnyH_ready (rs := [14]) q12_ (by simp) (AllReadyH.cons (o := o14) rfl (fun K hK => ?_) AllReadyH.nil)
    · rw [if_pos (wa14 _)]
      refine s12_14 u12 w0 i0 K (fun u14 w1 i1 => hK.out _ _ (z12_14_ u12 u14 w1 i1) (fun _ => ?_))
      clear hK
      refine wpAnyH_take (i := 15) (oi := o15) rfl hs f12_14_15 r12_14_15 (fun _ _ _ h => h) (y12_14_15 u12 u14 w1 i1) (z12_14_ u12 u14 w1 i1) ?_
      exact t12_14_ u12 u14 w1 i1
  have t_ : ∀ w', I_  w' → wpAnyH P .any #[o0, o1, o2, o3, o4, o5, o6, o7, o8, o9, o10, o11, o12, o13, o14, o15] (NoPanic Q) S 4 #[true, true, true, true, true, true, true, true, true, true, true, true, false, false, false, false] B w' := by
    intro w0 i0
    refine wpAnyH_ready (rs := [12]) q_ (by simp) (AllReadyH.cons (o := o12) rfl (fun K hK => ?_) AllReadyH.nil)
    · rw [if_pos (wa12 _)]
      refine s_12  w0 i0 K (fun u12 w1 i1 => hK.out _ _ (z12_ u12 w1 i1) (fun _ => ?_))
      clear hK
      refine wpAnyH_take (i := 13) (oi := o13) rfl hs f_12_13 r_12_13 (fun _ _ _ h => h) (y_12_13 u12 w1 i1) (z12_ u12 w1 i1) ?_
      exact t12_ u12 w1 i1
  exact t_ w.drew i0

end
end Go.Proofs.YtcijeplafknokaaDoor
namespace Go.Proofs.YtcijeplafknokaaDoor
open Go.RowKit Go.BigFrame
set_option linter.unusedVariables false
set_option linter.unusedSimpArgs false

theorem appendT_nil (lv : Value) (w : World) : Calls Tryd.prog 13 #[.pointer none, lv] w fun e w' => e = .returned (.tuple #[.pointer none, .int .i64 5]) ∧ w' = w := by
  go_enter Tryd.func13, Tryd.ntmps13
  go_wp2
  exact bodyPost_ret (results_tmp2 rfl _ _ _) rfl ⟨rfl, rfl⟩

/-- What Append answers. -/
def AppD (z : Int) (ps : List Pk) (ls : List (List Nat)) (w : World) (e : Ending) (w' : World) : Prop :=
  (ls.all (formB z) = true → ∃ t' v' qs, e = .returned (.tuple #[.pointer (some ⟨t', 0, none⟩), .int .i64 0]) ∧ w.heap.size ≤ t' ∧ TreeAt z w' t' v' qs ∧ leavesK qs = leavesK ps ++ ls ∧ (qs = [] → v' = .slice none 0 0)) ∧
  (ls.all (formB z) = false → e = .returned (.tuple #[.pointer none, .int .i64 3])) ∧ Kept [] w w'

set_option maxRecDepth 100000 in
set_option maxHeartbeats 1000000 in
theorem appendT_any (z : Int) (t : Nat) (v lv : Value) (ps : List Pk) (ls : List (List Nat)) (w : World) (h : TreeAt z w t v ps) (hnil : ps = [] → v = .slice none 0 0) (hl : RdD w lv ls) (hN : (leavesK ps).length + ls.length ≤ 1000000000) (hT : Tabs w) (h6 : Tab6 w) :
    Calls Tryd.prog 13 #[.pointer (some ⟨t, 0, none⟩), lv] w (AppD z ps ls w) := by
  have hz : 1 ≤ z ∧ z ≤ 32 := by simpa [widthB] using h.wid
  have hz2 : -9223372036854775808 ≤ z ∧ z ≤ 9223372036854775807 := by omega
  have HT := hide h
  have HL := hide hl
  obtain ⟨ao, len, cap, rfl, h1, h2, h3, h4, h5⟩ := hl
  subst h1
  clear h4 h5 h
  have cz := cell_of_row _ _ 0 _ _ _ (unhide HT).row
  simp at cz
  have HTB := hide hT
  have H6B := hide h6
  have HNL := hide hnil
  clear hT h6 hnil
  go_enter Tryd.func13, Tryd.ntmps13
  go_wp2_with fail
  go_loopw [15] (fun t15 wr => ∃ (i : Nat), i ≤ ls.length ∧ t15 = .int .i64 i ∧ Hid ((ls.take i).all (formB z) = true) ∧ Hid (Kept [] w wr)) (fun t _ => ls.length - (intOf t).toNat)
  case atStart => exact ⟨0, Nat.zero_le _, rfl, hide (by simp), hide (Kept.refl _ _)⟩
  case round =>
    obtain ⟨j, hj, rfl, HAJ, HKJ⟩ := hrel
    by_cases hjl : j < ls.length
    · have hjl' : (j : Int) < ls.length := by omega
      obtain ⟨ra, rl, rc, re, r1, r2, r3, r4, r5⟩ := unhide HL
      cases re
      obtain ⟨b, o, rfl, hcell⟩ := r5 (by omega)
      have HD := hide (r4 (ls.getD j []) (by rw [List.getD_eq_getElem?_getD, List.getElem?_eq_getElem hjl]; exact List.getElem_mem hjl))
      have HRG := hide (fun u v hv => (unhide HKJ).cell (hcell j hjl u v hv) (by simp) : wr.rangeAt b (o + j * 32) ((ls.getD j []).map Go.Proofs.YtcijeplafknokaaDoor.u8))
      have HN := hide (by rw [List.take_succ_eq_append_getElem hjl, List.all_append, unhide HAJ, List.getD_eq_getElem?_getD, List.getElem?_eq_getElem hjl]; simp : (ls.take (j + 1)).all (formB z) = formB z (ls.getD j []))
      have HM := hide (fun (h : formB z (ls.getD j []) = false) => by
        rw [List.all_eq_false]
        exact ⟨ls.getD j [], by rw [List.getD_eq_getElem?_getD, List.getElem?_eq_getElem hjl]; exact List.getElem_mem hjl, by rw [h]; decide⟩ : formB z (ls.getD j []) = false → ls.all (formB z) = false)
      clear hcell r4 r5
      obtain ⟨d, hd⟩ : ∃ d, ls.getD j [] = d := ⟨_, rfl⟩
      rw [hd] at HD HRG HN HM
      clear hd
      have hdl := (unhide HD).1
      have HSZ := hide (by rw [brow_size, hdl]; exact Tryd.size_dig : (Tryd.prog.info? 43).map (·.size) = some (brow d).size)
      have HNW := hide (setRow_heap (wr.alloc (.cells (zb 32) 43)) wr.heap.size (zb 32) (brow d) 43 (0, 0) (heap_alloc_new _ _))
      have HKN := hide (((unhide HKJ).alloc (.cells (zb 32) 43)).setRow (g := wr.heap.size) (Or.inr (unhide HKJ).size) (brow d))
      go_wp2_with (first
        | (refine wpList_load_mid rfl 43 (.tmp 17) rfl b (o + j * 32) rfl (d.map Go.Proofs.YtcijeplafknokaaDoor.u8) _ (unhide HRG) Tryd.underlying43 rfl (by rw [List.length_map, hdl]; exact Tryd.size_dig) ?_)
        | (rw [zb32]; refine wpList_store_row rfl 43 (.tmp 7) _ rfl wr.heap.size (brow d) rfl rfl _ (zb 32) (heap_alloc_new _ _) (unhide HSZ) (by rw [zb_size, brow_size, hdl]) (brow_one _) ?_))
      obtain ⟨W, hW⟩ : ∃ W, (wr.alloc (.cells (zb 32) 43)).setRow wr.heap.size (brow d) = W := ⟨_, rfl⟩
      rw [hW] at HNW HKN ⊢
      clear hW
      have cz4 := (unhide HKN).cell cz (by simp)
      have HFO := hide (fun w' (hw' : Kept [] W w') => (form_any z d w' hz2 hdl (unhide HD).2).mono (fun e w2 (h2 : _ ∧ _) => (⟨h2.1, hw'.trans h2.2 (by simp)⟩ : _ ∧ Kept [] W w2)))
      cases hf : formB z d with
      | true =>
        rw [hf] at HN HFO
        clear hf
        have hne : ∀ p : Prop, (∀ w', Kept [] W w' → p) = p := fun p => propext ⟨fun h => h W (Kept.refl [] W), fun h _ _ => h⟩
        refine wp_region_keep (by kernel_rfl) (by kernel_rfl) ?_
        iterate 3 (go_big_quiet_step (fail))
        refine wpQuiet_val rfl (.int .i64 z) (fun w' hw' => run_load1 3 (.tmp 21) rfl ⟨t, 0, none⟩ rfl w' _ .i64 Tryd.underlying3 (hw'.cell cz4 (by simp))) ?_
        simp only [Act.put, List.setIfInBounds_toArray, List.set_cons_succ, List.set_cons_zero]
        refine wpQuiet_row rfl 43 (.tmp 7) rfl wr.heap.size rfl _ (brow d) (0, 0) _ (fun w' hw' => hw'.heap (unhide HNW) (by simp)) Tryd.underlying43 rfl (unhide HSZ) ?_
        simp only [Act.put, List.setIfInBounds_toArray, List.set_cons_succ, List.set_cons_zero]
        go_big_quiet_want
        go_big_quiet_op
        apply Exists.intro
        refine ⟨fun w' hw' => ?_, ?_⟩
        · exact unhide HFO w' hw'
        go_big_quiet_on
        repeat (go_big_quiet_step (fail))
        refine wpQuiet_nil ?_
        intro w6 hw6
        have HK6 := hide ((unhide HKN).trans hw6 (by simp))
        clear hw6
        go_wp2_with fail
        refine ⟨⟨j + 1, by omega, by go_num, HN, HK6⟩, ?_⟩
        simp [intOf]; omega
      | false =>
        have HF := hide (unhide HM hf)
        rw [hf] at HFO
        clear hf
        have hne : ∀ p : Prop, (∀ w', Kept [] W w' → p) = p := fun p => propext ⟨fun h => h W (Kept.refl [] W), fun h _ _ => h⟩
        refine wp_region_keep (by kernel_rfl) (by kernel_rfl) ?_
        iterate 3 (go_big_quiet_step (fail))
        refine wpQuiet_val rfl (.int .i64 z) (fun w' hw' => run_load1 3 (.tmp 21) rfl ⟨t, 0, none⟩ rfl w' _ .i64 Tryd.underlying3 (hw'.cell cz4 (by simp))) ?_
        simp only [Act.put, List.setIfInBounds_toArray, List.set_cons_succ, List.set_cons_zero]
        refine wpQuiet_row rfl 43 (.tmp 7) rfl wr.heap.size rfl _ (brow d) (0, 0) _ (fun w' hw' => hw'.heap (unhide HNW) (by simp)) Tryd.underlying43 rfl (unhide HSZ) ?_
        simp only [Act.put, List.setIfInBounds_toArray, List.set_cons_succ, List.set_cons_zero]
        go_big_quiet_want
        go_big_quiet_op
        apply Exists.intro
        refine ⟨fun w' hw' => ?_, ?_⟩
        · exact unhide HFO w' hw'
        go_big_quiet_on
        repeat (go_big_quiet_step (fail))
        refine wpQuiet_nil ?_
        intro w6 hw6
        have HK6 := hide ((unhide HKN).trans hw6 (by simp))
        clear hw6
        go_wp2_with fail
        exact bodyPost_ret (results_tmp2 rfl _ _ _) rfl ⟨fun h => absurd h (by rw [unhide HF]; decide), fun _ => rfl, unhide HK6⟩
    · have hjl' : ¬ (j : Int) < ls.length := by omega
      have hje : j = ls.length := by omega
      subst hje
      rw [List.take_length] at HAJ
      go_wp2_with fail
      have hN0 : (leavesK ps).length ≤ 1000000000 := by omega
      obtain ⟨va, vn, vc, rfl⟩ : ∃ a n c, v = .slice a n c := by obtain ⟨a, c, h9, _⟩ := (unhide HT).rd; exact ⟨_, _, _, h9⟩
      have c0 := (unhide HKJ).cell cz (by simp)
      have c1 : wr.cell? ⟨t, 1, none⟩ = some (.int .u64 ((leavesK ps).length : Int)) := (unhide HKJ).cell (by have := cell_of_row _ _ 1 _ _ _ (unhide HT).row; simpa using this) (by simp)
      have c2 : wr.cell? ⟨t, 2, none⟩ = some (.slice va vn vc) := (unhide HKJ).cell (by have := cell_of_row _ _ 2 _ _ _ (unhide HT).row; simpa using this) (by simp)
      have hpl : ps.length ≤ 1000000000 := by
        have h8 := len_le_sum (ps.reverse.map (·.h)); rw [← leavesK_len (unhide HT).pk.ok] at h8; simp at h8; omega
      have HCL := hide (fun w' (k : Kept [] wr w') => cloneK_any z (.slice va vn vc) ps w' (((unhide HT).rd.old (unhide HKJ)).old k) (((unhide HT).pk.old (unhide HKJ)).old k) (unhide HNL) hpl)
      refine wp_ap16 (by kernel_rfl) (by kernel_rfl) (by kernel_rfl) (by kernel_rfl) (by kernel_rfl) (by kernel_rfl) (by kernel_rfl) (by kernel_rfl) (by kernel_rfl) (by kernel_rfl) (by kernel_rfl) (by kernel_rfl) (by kernel_rfl) (by kernel_rfl) (by kernel_rfl) (by kernel_rfl) (by kernel_rfl) (by kernel_rfl) (by kernel_rfl) (by kernel_rfl) (by kernel_rfl) (by kernel_rfl) (by kernel_rfl) (by kernel_rfl) (by kernel_rfl) (by kernel_rfl) (by kernel_rfl) (by kernel_rfl) (by kernel_rfl) (by kernel_rfl) (by kernel_rfl) (by kernel_rfl) (by kernel_rfl) rfl rfl
        (.pointer (some ⟨t, 0, none⟩)) (.pointer (some ⟨t, 0, none⟩)) (.pointer (some ⟨t, 0, none⟩)) (.int .i64 z) (.pointer (some ⟨t, 0, none⟩)) (.pointer (some ⟨t, 0, none⟩)) (.pointer (some ⟨t, 1, none⟩)) (.int .u64 ((leavesK ps).length : Int)) (.pointer (some ⟨t, 0, none⟩)) (.pointer (some ⟨t, 0, none⟩)) (.pointer (some ⟨t, 2, none⟩)) (.slice va vn vc) _ _ _ _ _ _ _ _ _ _ _ _
        (fun w' => Kept [] wr w')
        (fun w' => Kept [] wr w')
        (fun u w' => (∃ a n c, u = .slice a n c ∧ w'.ownsRow wr.heap.size 73 33 (.slice a n c) ps.length (cellsK ps) ∧ (ps = [] → Value.slice a n c = .slice none 0 0)) ∧ Kept [] wr w')
        (fun u x w' => (∃ a n c t', u = .slice a n c ∧ w'.ownsRow wr.heap.size 73 33 (.slice a n c) ps.length (cellsK ps) ∧ (ps = [] → Value.slice a n c = .slice none 0 0) ∧ x = .pointer (some ⟨t', 0, none⟩) ∧ wr.heap.size ≤ t' ∧ w'.heap[t']? = some (.cells #[.int .i64 z, .int .u64 ((leavesK ps).length : Int), .slice a n c] 68 (0, 0))) ∧ Kept [] wr w')
        (fun u => .agg #[.int .i64 z, .int .u64 ((leavesK ps).length : Int), u]) (fun x => x)
        (by simp only [Act.put, List.setIfInBounds_toArray, List.set_cons_zero, List.set_cons_succ]; rfl) (by exact Or.inl ⟨by rfl, fun W' hW' => by go_simp⟩)
        (by simp only [Act.put, List.setIfInBounds_toArray, List.set_cons_zero, List.set_cons_succ]; rfl) (by exact Or.inl ⟨by rfl, fun W' hW' => by go_simp⟩)
        (by simp only [Act.put, List.setIfInBounds_toArray, List.set_cons_zero, List.set_cons_succ]; rfl) (by exact Or.inl ⟨by rfl, fun W' hW' => by go_simp⟩)
        (by simp only [Act.put, List.setIfInBounds_toArray, List.set_cons_zero, List.set_cons_succ]; rfl) (by exact Or.inl ⟨by rfl, fun W' hW' => by have h9 := hW'.cell c0 (by simp); go_simp⟩)
        (by simp only [Act.put, List.setIfInBounds_toArray, List.set_cons_zero, List.set_cons_succ]; rfl) (by exact Or.inl ⟨by rfl, fun W' hW' => by go_simp⟩)
        (by simp only [Act.put, List.setIfInBounds_toArray, List.set_cons_zero, List.set_cons_succ]; rfl) (by exact Or.inl ⟨by rfl, fun W' hW' => by go_simp⟩)
        (by simp only [Act.put, List.setIfInBounds_toArray, List.set_cons_zero, List.set_cons_succ]; rfl) (by exact Or.inl ⟨by rfl, fun W' hW' => by go_simp⟩)
        (by simp only [Act.put, List.setIfInBounds_toArray, List.set_cons_zero, List.set_cons_succ]; rfl) (by exact Or.inl ⟨by rfl, fun W' hW' => by have h9 := hW'.cell c1 (by simp); go_simp⟩)
        (by simp only [Act.put, List.setIfInBounds_toArray, List.set_cons_zero, List.set_cons_succ]; rfl) (by exact Or.inl ⟨by rfl, fun W' hW' => by go_simp⟩)
        (by simp only [Act.put, List.setIfInBounds_toArray, List.set_cons_zero, List.set_cons_succ]; rfl) (by exact Or.inl ⟨by rfl, fun W' hW' => by go_simp⟩)
        (by simp only [Act.put, List.setIfInBounds_toArray, List.set_cons_zero, List.set_cons_succ]; rfl) (by exact Or.inl ⟨by rfl, fun W' hW' => by go_simp⟩)
        (by simp only [Act.put, List.setIfInBounds_toArray, List.set_cons_zero, List.set_cons_succ]; rfl) (by exact Or.inl ⟨by rfl, fun W' hW' => by have h9 := hW'.cell c2 (by simp); go_simp⟩)
        (Kept.refl [] wr).drew
        ⟨fun w' h => h, fun u w' h => h.2, fun u x w' h => h.2⟩
        (by intro w' i K hK; refine wp_callN rfl Tryd.call31 [.slice va vn vc] rfl (unhide HCL w' i) ?_; rintro e w2 ⟨v', rfl, ho, hn, k2⟩; obtain ⟨a, n, c, rfl⟩ : ∃ a n c, v' = .slice a n c := by (rcases ho.2 with ⟨h9, _⟩ | ⟨g, cp, cur, h9, _⟩ <;> exact ⟨_, _, _, h9⟩)
            exact ⟨_, rfl, hK _ _ ⟨⟨a, n, c, rfl, owns_baseK ho i.size, hn⟩, i.trans k2 (by simp)⟩⟩)
        (by
          intro u w' hh K hK
          simp only [Act.put, List.setIfInBounds_toArray, List.set_cons_zero, List.set_cons_succ] at hK ⊢
          obtain ⟨⟨a, n, c, rfl, ho, hn⟩, i⟩ := hh
          unfold Oper.wp execOp
          go_simp
          exact hK _ _ ⟨⟨a, n, c, _, rfl, ((Kept.refl [] w').alloc _).owns ho (by simp), hn, rfl, i.size, heap_alloc_new _ _⟩, i.alloc _⟩)
        (by rintro u w' ⟨⟨a, n, c, rfl, _⟩, _⟩; exact Or.inl ⟨by rfl, fun W' hW' => by unfold execOp; go_simp⟩)
        (by rintro u x w' ⟨⟨a, n, c, t', rfl, _, _, rfl, _⟩, _⟩; exact Or.inl ⟨by rfl, fun W' hW' => by go_simp⟩)
        ?_
      rintro u x Y ⟨⟨a, n, c, t', rfl, ho, hn, rfl, ht', hrow⟩, kY⟩
      simp only [Act.put, List.setIfInBounds_toArray, List.set_cons_zero, List.set_cons_succ]
      have HO := hide ho
      have HNN := hide hn
      have HRW := hide hrow
      have HKY := hide ((unhide HKJ).trans kY (by simp))
      have HPK := hide ((unhide HT).pk.old ((unhide HKJ).trans kY (by simp)))
      have hszw := (unhide HKJ).size
      clear ho hn hrow kY HCL c0 c1 c2
      go_wp2_with fail
      have HI0 := hide (⟨by simpa using unhide HRW, unhide HO, unhide HPK, by simp, unhide HNN, unhide HKY, hszw, Nat.le_trans hszw ht', by have := (unhide HO).lt; have := lt_of_block (unhide HRW); omega⟩ : AppI z ps ls w t' wr.heap.size 0 (.slice a n c) ps Y)
      have hwid := hide (unhide HT).wid
      clear HO HNN HRW HKY HPK hpl HNL
      obtain ⟨base, hbase⟩ : ∃ base, base = wr.heap.size := ⟨_, rfl⟩
      rw [← hbase] at HI0
      clear hszw ht' hbase
      go_loopw [44] (fun t44 wq => ∃ (i : Nat) (v' : Value) (qs : List Pk), i ≤ ls.length ∧ t44 = .int .i64 i ∧ Hid (AppI z ps ls w t' base i v' qs wq)) (fun t _ => ls.length - (intOf t).toNat)
      case atStart => exact ⟨0, _, _, Nat.zero_le _, rfl, HI0⟩
      case round =>
        obtain ⟨i, v', qs, hi, rfl, HI⟩ := hrel
        by_cases hil : i < ls.length
        · have hil' : (i : Int) < ls.length := by omega
          obtain ⟨ra, rl, rc, re, r1, r2, r3, r4, r5⟩ := unhide HL
          cases re
          obtain ⟨b, o, rfl, hcell⟩ := r5 (by omega)
          have hmem : ls.getD i [] ∈ ls := by rw [List.getD_eq_getElem?_getD, List.getElem?_eq_getElem hil]; exact List.getElem_mem hil
          have HD := hide (r4 (ls.getD i []) hmem)
          have HFD := hide (List.all_eq_true.1 (unhide HAJ) _ hmem)
          have HRG := hide (fun u v hv => (unhide HI).kept.cell (hcell i hil u v hv) (by simp) : wr.rangeAt b (o + i * 32) ((ls.getD i []).map Go.Proofs.YtcijeplafknokaaDoor.u8))
          clear hcell r4 r5 hmem
          obtain ⟨d, hd⟩ : ∃ d, ls.getD i [] = d := ⟨_, rfl⟩
          have HDD := hide hd
          rw [hd] at HD HRG HFD
          clear hd
          have hdl := (unhide HD).1
          have HSZ := hide (by rw [brow_size, hdl]; exact Tryd.size_dig : (Tryd.prog.info? 43).map (·.size) = some (brow d).size)
          have HNW := hide (setRow_heap (wr.alloc (.cells (zb 32) 43)) wr.heap.size (zb 32) (brow d) 43 (0, 0) (heap_alloc_new _ _))
          have HKN := hide (((Kept.refl [] wr).alloc (.cells (zb 32) 43)).setRow (g := wr.heap.size) (Or.inr (Nat.le_refl _)) (brow d))
          go_wp2_with (first
            | (refine wpList_load_mid rfl 43 (.tmp 46) rfl b (o + i * 32) rfl (d.map Go.Proofs.YtcijeplafknokaaDoor.u8) _ (unhide HRG) Tryd.underlying43 rfl (by rw [List.length_map, hdl]; exact Tryd.size_dig) ?_)
            | (rw [zb32]; refine wpList_store_row rfl 43 (.tmp 10) _ rfl wr.heap.size (brow d) rfl rfl _ (zb 32) (heap_alloc_new _ _) (unhide HSZ) (by rw [zb_size, brow_size, hdl]) (brow_one _) ?_)
            | (refine wpList_load_row rfl 43 (.tmp 10) rfl wr.heap.size rfl _ (brow d) (0, 0) _ (unhide HNW) Tryd.underlying43 rfl (unhide HSZ) ?_))
          obtain ⟨W, hW⟩ : ∃ W, (wr.alloc (.cells (zb 32) 43)).setRow wr.heap.size (brow d) = W := ⟨_, rfl⟩
          rw [hW] at HKN ⊢
          clear hW HNW
          refine Calls.mono (push_any z t' ((leavesK ps).length + i) base v' qs d W ((unhide HKN).heap (unhide HI).row (by simp)) ((unhide HKN).owns (unhide HI).own (by simp)) ((unhide HI).pk.old (unhide HKN)) ((unhide HI).len hi) (by omega) (Nat.le_trans (unhide HI).br (unhide HKN).size) (unhide hwid) ((unhide HI).far (unhide HTB) (unhide H6B)) ⟨hdl, (unhide HD).2⟩ (unhide HFD) ((unhide HTB).kept ((unhide HI).kept.trans (unhide HKN) (by simp)) (by simp) (by simp)) ((unhide H6B).kept ((unhide HI).kept.trans (unhide HKN) (by simp)))) ?_
          rintro e w4 ⟨rfl, hpd⟩
          obtain ⟨v2, rs, hi2⟩ := (unhide HI).step hil (unhide HKN) (by rw [unhide HDD]; exact hpd)
          have HI2 := hide hi2
          clear hpd hi2 HI HKN
          go_wp2_with fail
          refine ⟨⟨i + 1, _, _, by omega, by go_num, HI2⟩, ?_⟩
          simp [intOf]; omega
        · have hil' : ¬ (i : Int) < ls.length := by omega
          have hie : i = ls.length := by omega
          subst hie
          have HF := hide ((unhide HI).fin (unhide hwid))
          go_wp2_with fail
          exact bodyPost_ret (results_tmp2 rfl _ _ _) rfl ⟨fun _ => ⟨t', v', qs, rfl, (unhide HI).bt, (unhide HF).1, (unhide HF).2, (unhide HI).nil⟩, fun h => absurd h (by rw [unhide HAJ]; decide), (unhide HI).kept⟩

end Go.Proofs.YtcijeplafknokaaDoor
namespace Go.Proofs.YtcijeplafknokaaDoor
open Go.RowKit Go.BigFrame
set_option linter.unusedVariables false
set_option linter.unusedSimpArgs false

def d7 : List Nat := 7 :: List.replicate 31 0
def d9 : List Nat := 9 :: List.replicate 31 0
theorem d7_dg : Dg d7 := ⟨rfl, by decide⟩
theorem d9_dg : Dg d9 := ⟨rfl, by decide⟩
theorem d79_form : [d7, d9].all (formB 1) = true := by decide +kernel
theorem rg79 : rgD 1 [d7, d9] 0 2 = nodS 1 d7 d9 := by
  unfold rgD
  rw [if_neg (by decide)]
  rw [rngD_cut (by decide) (by decide)]
  rfl

set_option maxRecDepth 100000 in
set_option maxHeartbeats 1000000 in
theorem mtawake_any (w : World) (hT : Tabs w) (h6 : Tab6 w) :
    Calls Tryd.prog 9 #[] w fun e w' => e = .returned (.bool true) ∧ Kept [] w w' := by
  have HTB := hide hT
  have H6 := hide h6
  clear hT h6
  go_enter Tryd.func9, Tryd.ntmps9
  go_wp2_with fail
  refine (newT_any 1 w (by decide)).mono ?_
  rintro e w1 ⟨t, rfl, ht, htr, k1⟩
  have HT1 := hide htr
  have HK1 := hide k1
  clear htr k1 ht
  go_wp2_with fail
  have HG := hide (heap_alloc_new w1 (.cells (d7.map Go.Proofs.YtcijeplafknokaaDoor.u8 ++ d9.map Go.Proofs.YtcijeplafknokaaDoor.u8).toArray 43))
  have kA := (Kept.refl [] w1).alloc (.cells (d7.map Go.Proofs.YtcijeplafknokaaDoor.u8 ++ d9.map Go.Proofs.YtcijeplafknokaaDoor.u8).toArray 43)
  have kB := (unhide HK1).trans kA (by simp)
  refine Calls.mono (appendT_any 1 t (.slice none 0 0) (.slice (some ⟨w1.heap.size, 0, none⟩) 2 2) [] [d7, d9] (w1.alloc (.cells (d7.map Go.Proofs.YtcijeplafknokaaDoor.u8 ++ d9.map Go.Proofs.YtcijeplafknokaaDoor.u8).toArray 43)) ((unhide HT1).old kA) (fun _ => rfl) (RdD.two (unhide HG) d7_dg.1 d9_dg.1 d7_dg.2 d9_dg.2) (by decide) ((unhide HTB).kept kB (by simp) (by simp)) ((unhide H6).kept kB)) ?_
  rintro e w2 ⟨ha, _, k2⟩
  obtain ⟨t2, v2, qs, rfl, ht2, htr2, hlv, _⟩ := ha d79_form
  have hlv2 : leavesK qs = [d7, d9] := hlv
  have HT2 := hide htr2
  have HT1b := hide (((unhide HT1).old kA).old k2)
  have HK2 := hide (kB.trans k2 (by simp))
  have HLV := hide hlv2
  clear htr2 k2 ha hlv hlv2 HG kA kB HK1 HT1 ht2
  have HL1 := hide (by rw [unhide HLV]; rfl : ((leavesK qs).length : Int) = 2)
  have HB := hide (by rw [unhide HLV]; decide : (leavesK qs).length < 4096)
  go_wp2_with fail
  refine (sizeT_any t2 1 v2 qs w2 (unhide HT2)).mono ?_
  rintro e _ ⟨rfl, rfl⟩
  rw [unhide HL1]
  go_wp2_with fail
  refine (sizeT_any t 1 (.slice none 0 0) [] _ (unhide HT1b)).mono ?_
  rintro e _ ⟨rfl, rfl⟩
  rw [show ((leavesK []).length : Int) = 0 from rfl]
  go_wp2_with fail
  refine (widthT_any t2 1 v2 qs _ (unhide HT2)).mono ?_
  rintro e _ ⟨rfl, rfl⟩
  go_wp2_with fail
  refine (leafT_all 1 t2 v2 qs 1 _ (unhide HT2) (unhide HB)).mono ?_
  rintro e w3 ⟨rfl, k3⟩
  rw [show lfD (leavesK qs) 1 = d9 from by rw [unhide HLV]; rfl, show lfE (leavesK qs) 1 = 0 from by rw [unhide HLV]; rfl]
  have HT3 := hide ((unhide HT2).old k3)
  have HK3 := hide ((unhide HK2).trans k3 (by simp))
  clear k3 HT2 HT1b HK2
  have HN3 := hide (cell_new w3 d9)
  have HO3 := hide (kept_old w3 d9)
  have h9l : d9.length = 32 := rfl
  go_wp2_with (rw [zb32]; refine wpList_store_row rfl 43 (.tmp 5) _ rfl w3.heap.size (brow d9) rfl rfl _ (zb 32) (heap_alloc_new _ _) (Tryd.szD h9l) rfl (brow_one _) ?_)
  obtain ⟨w4, hw4⟩ : ∃ w4, (w3.alloc (.cells (zb 32) 43)).setRow w3.heap.size (brow d9) = w4 := ⟨_, rfl⟩
  rw [hw4] at HN3 HO3 ⊢
  clear hw4
  have HT4 := hide ((unhide HT3).old (unhide HO3))
  have HK4 := hide ((unhide HK3).trans (unhide HO3) (by simp))
  refine (rootT_all 1 t2 v2 qs 2 _ (unhide HT4) (unhide HB) ((unhide HTB).kept (unhide HK4) (by simp) (by simp)) ((unhide H6).kept (unhide HK4))).mono ?_
  rintro e w5 ⟨rfl, k5⟩
  rw [show rgD 1 (leavesK qs) 0 2 = nodS 1 d7 d9 from by rw [unhide HLV]; exact rg79, show rgE (leavesK qs) 0 2 = 0 from by rw [unhide HLV]; rfl]
  have HR := hide (fun W => refNode_any 1 d7 d9 W (by omega) d7_dg d9_dg)
  have hnl := (nodS_dg 1 d7 d9).1
  have HR2 := hide (fun W => (unhide HR W : Calls Tryd.prog 29 #[.int .i64 1, .agg (brow d7), .agg (brow d9)] W fun e w' => e = .returned (.agg (brow (nodS 1 d7 d9))) ∧ Kept [] W w'))
  generalize nodS 1 d7 d9 = D at HR2 hnl ⊢
  have HN5 := hide (k5.heap (unhide HN3) (by simp))
  have HK5 := hide ((unhide HK4).trans k5 (by simp))
  clear k5 HR HN3 HO3 HT3 HT4 HK4
  have HN6 := hide (cell_new w5 D)
  have HO6 := hide (kept_old w5 D)
  go_wp2_with (rw [zb32]; refine wpList_store_row rfl 43 (.tmp 7) _ rfl w5.heap.size (brow D) rfl rfl _ (zb 32) (heap_alloc_new _ _) (Tryd.szD hnl) (by rw [zb_size, brow_size, hnl]) (brow_one _) ?_)
  obtain ⟨w6, hw6⟩ : ∃ w6, (w5.alloc (.cells (zb 32) 43)).setRow w5.heap.size (brow D) = w6 := ⟨_, rfl⟩
  rw [hw6] at HN6 HO6 ⊢
  clear hw6
  have HM6 := hide ((unhide HO6).heap (unhide HN5) (by simp))
  have HK6 := hide ((unhide HK5).trans (unhide HO6) (by simp))
  clear HN5 HK5 HO6
  have hne : ∀ p : Prop, (∀ w', Kept [] w6 w' → p) = p := fun p => propext ⟨fun h => h w6 (Kept.refl [] w6), fun h _ _ => h⟩
  refine wp_region_keep (by kernel_rfl) (by kernel_rfl) ?_
  iterate 3 (go_big_quiet_step (fail))
  have HCT := hide (fun w' (hw' : Kept [] w6 w') => (unhide HR2 w').mono (fun e w2 (h2 : _ ∧ _) => (⟨h2.1, hw'.trans h2.2 (by simp)⟩ : _ ∧ Kept [] w6 w2)))
  refine wpQuiet_row rfl 43 (.tmp 5) rfl w3.heap.size rfl _ (brow d9) (0, 0) _ (fun w' hw' => hw'.heap (unhide HM6) (by simp)) Tryd.underlying43 rfl (Tryd.szD h9l) ?_
  simp only [Act.put, List.setIfInBounds_toArray, List.set_cons_succ, List.set_cons_zero]
  go_big_quiet_step (fail)
  refine wpQuiet_val rfl (.bool true) (fun w' _ => run_eql 43 (.tmp 61) (.tmp 62) 43 rfl (brow d9) (brow d9) rfl rfl w' true (by kernel_rfl) (by rw [dig_eq w' d9 d9 rfl rfl]; simp)) ?_
  simp only [Act.put, List.setIfInBounds_toArray, List.set_cons_succ, List.set_cons_zero]
  iterate 6 (go_big_quiet_step (fail))
  refine wpQuiet_row rfl 43 (.tmp 7) rfl w5.heap.size rfl _ (brow D) (0, 0) _ (fun w' hw' => hw'.heap (unhide HN6) (by simp)) Tryd.underlying43 rfl (Tryd.szD hnl) ?_
  simp only [Act.put, List.setIfInBounds_toArray, List.set_cons_succ, List.set_cons_zero]
  iterate 2 (go_big_quiet_step (fail))
  go_big_quiet_want
  go_big_quiet_op
  apply Exists.intro
  refine ⟨fun w' hw' => ?_, ?_⟩
  · exact unhide HCT w' hw'
  go_big_quiet_on
  refine wpQuiet_val rfl (.bool true) (fun w' _ => run_eql 43 (.tmp 70) (.tmp 73) 43 rfl (brow D) (brow D) rfl rfl w' true (by kernel_rfl) (by rw [dig_eq w' D D hnl hnl]; simp)) ?_
  simp only [Act.put, List.setIfInBounds_toArray, List.set_cons_succ, List.set_cons_zero]
  repeat (go_big_quiet_step (fail))
  refine wpQuiet_nil ?_
  intro w7 hw7
  have HK7 := hide ((unhide HK6).trans hw7 (by simp))
  clear hw7 hne
  go_wp2_with fail
  go_ret
  exact ⟨rfl, unhide HK7⟩
end Go.Proofs.YtcijeplafknokaaDoor
namespace Go.Proofs.YtcijeplafknokaaDoor
open Go.RowKit Go.BigFrame
set_option linter.unusedVariables false
set_option linter.unusedSimpArgs false

set_option maxRecDepth 100000 in
set_option maxHeartbeats 1000000 in
theorem reads_any (k : Nat) (hk : 1 ≤ k ∧ k ≤ 32) (t : Nat) (v lv : Value) (ps : List Pk) (w : World) (hT : TreeAt k w t v ps) (hl : RdD w lv (leavesK ps)) (hb : (leavesK ps).length < 4000) (hTb : Tabs w) (h6 : Tab6 w) :
    Calls Tryd.prog 12 #[.pointer (some ⟨t, 0, none⟩), .int .i64 k, lv] w fun e w' => e = .returned (.bool true) ∧ Kept [] w w' := by
  have HT := hide hT
  have HL := hide hl
  have HTB := hide hTb
  have H6 := hide h6
  have HPK := hide hT.pk
  obtain ⟨ao, len, cap, rfl, h1, h2, h3, h4, h5⟩ := hl
  obtain ⟨n, hn⟩ : ∃ n, (leavesK ps).length = n := ⟨_, rfl⟩
  have hnl : len = n := by rw [← h1, hn]
  subst hnl
  have HN := hide hn
  rw [hn] at hb
  have hwn : IntKind.u64.wrap (len : Int) = (len : Int) := by rw [wrU]; omega
  clear h4 h5 hT hTb h6 h1 hn
  go_enter Tryd.func12, Tryd.ntmps12
  go_wp2_with (simp only [hwn])
  refine (widthT_any t k v ps w (unhide HT)).mono ?_
  rintro e _ ⟨rfl, rfl⟩
  go_wp2_with fail
  refine (sizeT_any t k v ps _ (unhide HT)).mono ?_
  rintro e w0 ⟨rfl, rfl⟩
  rw [unhide HN]
  go_wp2_with fail
  have hn2 : IntKind.u64.wrap ((len : Int) + 2) = (len : Int) + 2 := by rw [wrU]; omega
  go_loopw [8] (fun t8 wr => ∃ (i : Nat), i ≤ len + 2 ∧ t8 = .int .u64 (i : Int) ∧ Hid (Kept [] w0 wr)) (fun t _ => len + 2 - (intOf t).toNat)
  case atStart => exact ⟨0, by omega, rfl, hide (Kept.refl _ _)⟩
  case round =>
    obtain ⟨i, hi, rfl, HKR⟩ := hrel
    by_cases hlt : i < len + 2
    · have hlt' : (i : Int) < (len : Int) + 2 := by omega
      have hadd : IntKind.u64.wrap ((i : Int) + 1) = ((i + 1 : Nat) : Int) := by rw [wrU]; omega
      have hdl := (lfD_dg (unhide HPK) i).1
      have HLF := hide (fun W (kk : Kept [] w0 W) => leafT_all k t v ps i W ((unhide HT).old kk) (by rw [unhide HN]; omega))
      have HDL := hide (fun W (kk : Kept [] w0 W) => docLeaf_all (.slice ao len cap) (leavesK ps) i W ((unhide HL).old kk) (by rw [unhide HN]; omega))
      generalize lfD (leavesK ps) i = D at HLF HDL hdl
      generalize lfE (leavesK ps) i = E at HLF HDL
      have hqd : ∀ W, (Op.equalIn 10000 43 (.agg (brow D)) (.agg (brow D))).run Tryd.prog W = .ok true W := dig_same D hdl
      go_wp2_with (simp only [hn2])
      refine (unhide HLF wr (unhide HKR)).mono ?_
      rintro e w3 ⟨rfl, k3⟩
      have HK3 := hide ((unhide HKR).trans k3 (by simp))
      clear k3
      have HN3 := hide (cell_new w3 D)
      have HO3 := hide (kept_old w3 D)
      go_wp2_with (rw [zb32]; refine wpList_store_row rfl 43 (.tmp 9) _ rfl w3.heap.size (brow D) rfl rfl _ (zb 32) (heap_alloc_new _ _) (Tryd.szD hdl) (by rw [zb_size, brow_size, hdl]) (brow_one _) ?_)
      obtain ⟨w4, hw4⟩ : ∃ w4, (w3.alloc (.cells (zb 32) 43)).setRow w3.heap.size (brow D) = w4 := ⟨_, rfl⟩
      rw [hw4] at HN3 HO3 ⊢
      clear hw4
      have HK4 := hide ((unhide HK3).trans (unhide HO3) (by simp))
      refine (unhide HDL w4 (unhide HK4)).mono ?_
      rintro e w5 ⟨rfl, k5⟩
      have HN5 := hide (k5.heap (unhide HN3) (by simp))
      have HK5 := hide ((unhide HK4).trans k5 (by simp))
      clear k5 HN3 HO3 HK4 HK3
      have HN6 := hide (cell_new w5 D)
      have HO6 := hide (kept_old w5 D)
      have HM6 := hide ((unhide HO6).heap (unhide HN5) (by simp))
      have HK6 := hide ((unhide HK5).trans (unhide HO6) (by simp))
      go_wp2_with (first
        | (rw [zb32]; refine wpList_store_row rfl 43 (.tmp 11) _ rfl w5.heap.size (brow D) rfl rfl _ (zb 32) (heap_alloc_new _ _) (Tryd.szD hdl) (by rw [zb_size, brow_size, hdl]) (brow_one _) ?_)
        | (refine wpList_load_row rfl 43 (.tmp 9) rfl w3.heap.size rfl _ (brow D) (0, 0) _ (unhide HM6) Tryd.underlying43 rfl (Tryd.szD hdl) ?_)
        | (refine wpList_load_row rfl 43 (.tmp 11) rfl w5.heap.size rfl _ (brow D) (0, 0) _ (unhide HN6) Tryd.underlying43 rfl (Tryd.szD hdl) ?_))
      go_wp2_with (simp only [hadd])
      refine ⟨⟨i + 1, by omega, by simp, HK6⟩, ?_⟩
      simp [intOf]
      omega
    · have hlt' : ¬ (i : Int) < (len : Int) + 2 := by omega
      go_wp2_with (simp only [hn2])
      have HG0 := hide (heap_alloc_new wr (.cells #[.int .u64 0, .int .u64 1, .int .u64 ((len : Int) / 2), .int .u64 (IntKind.u64.wrap ((len : Int) - 1)), .int .u64 (len : Int), .int .u64 ((len : Int) + 1), .int .u64 18446744073709551615] 46))
      have HKW := hide ((unhide HKR).alloc (.cells #[.int .u64 0, .int .u64 1, .int .u64 ((len : Int) / 2), .int .u64 (IntKind.u64.wrap ((len : Int) - 1)), .int .u64 (len : Int), .int .u64 ((len : Int) + 1), .int .u64 18446744073709551615] 46))
      obtain ⟨W2, hW2⟩ : ∃ W2, wr.alloc (.cells #[.int .u64 0, .int .u64 1, .int .u64 ((len : Int) / 2), .int .u64 (IntKind.u64.wrap ((len : Int) - 1)), .int .u64 (len : Int), .int .u64 ((len : Int) + 1), .int .u64 18446744073709551615] 46) = W2 := ⟨_, rfl⟩
      rw [hW2] at HG0 HKW ⊢
      have HAT := hide (fun j (hj : j < 7) => (by
        have h9 := cell_of_row _ _ j _ _ _ (unhide HG0)
        rw [h9]
        rcases (by omega : j = 0 ∨ j = 1 ∨ j = 2 ∨ j = 3 ∨ j = 4 ∨ j = 5 ∨ j = 6) with rfl | rfl | rfl | rfl | rfl | rfl | rfl
        · exact ⟨0, rfl, by omega⟩
        · exact ⟨1, rfl, by omega⟩
        · exact ⟨len / 2, by simp, by omega⟩
        · refine ⟨(IntKind.u64.wrap ((len : Int) - 1)).toNat, ?_, ?_⟩
          · rw [wrU, Int.toNat_of_nonneg (by omega)]; rfl
          · rw [wrU]; omega
        · exact ⟨len, rfl, by omega⟩
        · exact ⟨len + 1, by simp, by omega⟩
        · exact ⟨18446744073709551615, rfl, by omega⟩ : ∃ a : Nat, W2.cell? ⟨wr.heap.size, j, none⟩ = some (.int .u64 (a : Int)) ∧ a < 18446744073709551616))
      obtain ⟨g, hg⟩ : ∃ g, wr.heap.size = g := ⟨_, rfl⟩
      rw [hg] at HAT ⊢
      clear hW2 HG0 hg HKR
      go_loopw [71] (fun t71 wq => ∃ (j : Nat), j ≤ 7 ∧ t71 = .int .i64 (j : Int) ∧ Hid (Kept [] W2 wq)) (fun t _ => 7 - (intOf t).toNat)
      case atStart => exact ⟨0, by omega, rfl, hide (Kept.refl _ _)⟩
      case round =>
        obtain ⟨j, hj, rfl, HKQ⟩ := hrel
        by_cases hjl : j < 7
        · have hjl' : (j : Int) < 7 := by omega
          obtain ⟨a, hca, ha⟩ := unhide HAT j hjl
          have hca2 := (unhide HKQ).cell hca (by simp)
          have HKR := hide (unhide HKQ)
          have hdl := (rgD_len (unhide HPK) 0 a).1
          have HLF := hide (fun W (kk : Kept [] W2 W) => rootT_all k t v ps a W ((unhide HT).old ((unhide HKW).trans kk (by simp))) (by rw [unhide HN]; omega) ((unhide HTB).kept ((unhide HKW).trans kk (by simp)) (by simp) (by simp)) ((unhide H6).kept ((unhide HKW).trans kk (by simp))))
          have HDL := hide (fun W (kk : Kept [] W2 W) => docRange_all k hk (.slice ao len cap) (leavesK ps) 0 a W ((unhide HL).old ((unhide HKW).trans kk (by simp))) (by rw [unhide HN]; omega))
          generalize rgD k (leavesK ps) 0 a = D at HLF HDL hdl
          generalize rgE (leavesK ps) 0 a = E at HLF HDL
          have hqd : ∀ W, (Op.equalIn 10000 43 (.agg (brow D)) (.agg (brow D))).run Tryd.prog W = .ok true W := dig_same D hdl
          clear hca
          go_wp2_with fail
          refine (unhide HLF wr (unhide HKR)).mono ?_
          rintro e w3 ⟨rfl, k3⟩
          have HK3 := hide ((unhide HKR).trans k3 (by simp))
          clear k3
          have HN3 := hide (cell_new w3 D)
          have HO3 := hide (kept_old w3 D)
          go_wp2_with (rw [zb32]; refine wpList_store_row rfl 43 (.tmp 15) _ rfl w3.heap.size (brow D) rfl rfl _ (zb 32) (heap_alloc_new _ _) (Tryd.szD hdl) (by rw [zb_size, brow_size, hdl]) (brow_one _) ?_)
          obtain ⟨w4, hw4⟩ : ∃ w4, (w3.alloc (.cells (zb 32) 43)).setRow w3.heap.size (brow D) = w4 := ⟨_, rfl⟩
          rw [hw4] at HN3 HO3 ⊢
          clear hw4
          have HK4 := hide ((unhide HK3).trans (unhide HO3) (by simp))
          refine (unhide HDL w4 (unhide HK4)).mono ?_
          rintro e w5 ⟨rfl, k5⟩
          have HN5 := hide (k5.heap (unhide HN3) (by simp))
          have HK5 := hide ((unhide HK4).trans k5 (by simp))
          clear k5 HN3 HO3 HK4 HK3
          have HN6 := hide (cell_new w5 D)
          have HO6 := hide (kept_old w5 D)
          have HM6 := hide ((unhide HO6).heap (unhide HN5) (by simp))
          have HK6 := hide ((unhide HK5).trans (unhide HO6) (by simp))
          go_wp2_with (first
            | (rw [zb32]; refine wpList_store_row rfl 43 (.tmp 17) _ rfl w5.heap.size (brow D) rfl rfl _ (zb 32) (heap_alloc_new _ _) (Tryd.szD hdl) (by rw [zb_size, brow_size, hdl]) (brow_one _) ?_)
            | (refine wpList_load_row rfl 43 (.tmp 15) rfl w3.heap.size rfl _ (brow D) (0, 0) _ (unhide HM6) Tryd.underlying43 rfl (Tryd.szD hdl) ?_)
            | (refine wpList_load_row rfl 43 (.tmp 17) rfl w5.heap.size rfl _ (brow D) (0, 0) _ (unhide HN6) Tryd.underlying43 rfl (Tryd.szD hdl) ?_))
          go_wp2_with fail
          refine ⟨⟨j + 1, by omega, by simp, ?_⟩, ?_⟩
          · exact HK6
          · simp [intOf]
            omega
        · have hjl' : ¬ (j : Int) < 7 := by omega
          have HKF := hide ((unhide HKW).trans (unhide HKQ) (by simp))
          go_wp2_with fail
          go_ret
          exact ⟨rfl, unhide HKF⟩
end Go.Proofs.YtcijeplafknokaaDoor
namespace Go.Proofs.YtcijeplafknokaaDoor
open Go.RowKit Go.BigFrame
set_option linter.unusedVariables false
set_option linter.unusedSimpArgs false

/-- Are the width and all leaves fit? -/
def fitB (z : Int) (ls : List (List Nat)) : Bool := widthB z && ls.all (formB z)

set_option maxRecDepth 100000 in
set_option maxHeartbeats 1000000 in
theorem fit_any (z : Int) (lv : Value) (ls : List (List Nat)) (w : World) (hz : -9223372036854775808 ≤ z ∧ z ≤ 9223372036854775807) (hl : RdD w lv ls) :
    Calls Tryd.prog 26 #[.int .i64 z, lv] w fun e w' => e = .returned (.bool (fitB z ls)) ∧ Kept [] w w' := by
  have HL := hide hl
  obtain ⟨ao, len, cap, rfl, h1, h2, h3, h4, h5⟩ := hl
  subst h1
  clear h4 h5
  obtain ⟨E, hE⟩ : ∃ E, fitB z ls = E := ⟨_, rfl⟩
  rw [hE]
  have HE := hide hE
  clear hE
  go_enter Tryd.func26, Tryd.ntmps26
  go_wp2_with fail
  refine (rwidth_any z w hz).mono ?_
  rintro e w0 ⟨rfl, rfl⟩
  cases hwd : widthB z with
  | false =>
    have HE1 := hide (by rw [← unhide HE]; unfold fitB; rw [hwd]; rfl : E = false)
    go_wp2_with fail
    go_ret
    exact ⟨by rw [unhide HE1]; rfl, Kept.refl _ _⟩
  | true =>
    have HWD := hide hwd
    clear hwd
    go_wp2_with fail
    go_loopw [12] (fun t12 wr => ∃ (i : Nat), i ≤ ls.length ∧ t12 = .int .i64 i ∧ Hid ((ls.take i).all (formB z) = true) ∧ Hid (Kept [] w0 wr)) (fun t _ => ls.length - (intOf t).toNat)
    case atStart => exact ⟨0, Nat.zero_le _, rfl, hide (by simp), hide (Kept.refl _ _)⟩
    case round =>
      obtain ⟨j, hj, rfl, HAJ, HKJ⟩ := hrel
      by_cases hjl : j < ls.length
      · have hjl' : (j : Int) < ls.length := by omega
        obtain ⟨ra, rl, rc, re, r1, r2, r3, r4, r5⟩ := unhide HL
        cases re
        obtain ⟨b, o, rfl, hcell⟩ := r5 (by omega)
        have HD := hide (r4 (ls.getD j []) (by rw [List.getD_eq_getElem?_getD, List.getElem?_eq_getElem hjl]; exact List.getElem_mem hjl))
        have HRG := hide (fun u v hv => (unhide HKJ).cell (hcell j hjl u v hv) (by simp) : wr.rangeAt b (o + j * 32) ((ls.getD j []).map Go.Proofs.YtcijeplafknokaaDoor.u8))
        have HN := hide (by rw [List.take_succ_eq_append_getElem hjl, List.all_append, unhide HAJ, List.getD_eq_getElem?_getD, List.getElem?_eq_getElem hjl]; simp : (ls.take (j + 1)).all (formB z) = formB z (ls.getD j []))
        have HM := hide (fun (h : formB z (ls.getD j []) = false) => by
          have h9 : ls.all (formB z) = false := by
            rw [List.all_eq_false]
            exact ⟨ls.getD j [], by rw [List.getD_eq_getElem?_getD, List.getElem?_eq_getElem hjl]; exact List.getElem_mem hjl, by rw [h]; decide⟩
          rw [← unhide HE]; unfold fitB; rw [h9, Bool.and_false] : formB z (ls.getD j []) = false → E = false)
        clear hcell r4 r5
        obtain ⟨d, hd⟩ : ∃ d, ls.getD j [] = d := ⟨_, rfl⟩
        rw [hd] at HD HRG HN HM
        clear hd
        have hdl := (unhide HD).1
        have HSZ := hide (by rw [brow_size, hdl]; exact Tryd.size_dig : (Tryd.prog.info? 43).map (·.size) = some (brow d).size)
        have HNW := hide (setRow_heap (wr.alloc (.cells (zb 32) 43)) wr.heap.size (zb 32) (brow d) 43 (0, 0) (heap_alloc_new _ _))
        have HKN := hide (((unhide HKJ).alloc (.cells (zb 32) 43)).setRow (g := wr.heap.size) (Or.inr (unhide HKJ).size) (brow d))
        go_wp2_with (first
          | (refine wpList_load_mid rfl 43 (.tmp 14) rfl b (o + j * 32) rfl (d.map Go.Proofs.YtcijeplafknokaaDoor.u8) _ (unhide HRG) Tryd.underlying43 rfl (by rw [List.length_map, hdl]; exact Tryd.size_dig) ?_)
          | (rw [zb32]; refine wpList_store_row rfl 43 (.tmp 6) _ rfl wr.heap.size (brow d) rfl rfl _ (zb 32) (heap_alloc_new _ _) (unhide HSZ) (by rw [zb_size, brow_size, hdl]) (brow_one _) ?_)
          | (refine wpList_load_row rfl 43 (.tmp 6) rfl wr.heap.size rfl _ (brow d) (0, 0) _ (unhide HNW) Tryd.underlying43 rfl (unhide HSZ) ?_))
        refine Calls.mono (docForm_any z d _ hz hdl (unhide HD).2) ?_
        rintro e w4 ⟨rfl, k4⟩
        have HK4 := hide ((unhide HKN).trans k4 (by simp))
        clear k4
        cases hf : formB z d with
        | true =>
          rw [hf] at HN
          clear hf
          go_wp2
          go_roundw
          case rel => exact ⟨j + 1, by omega, by go_num, HN, HK4⟩
          case measure => simp [intOf]; omega
        | false =>
          have HF := hide (unhide HM hf)
          clear hf
          go_wp2
          go_ret
          exact ⟨by rw [unhide HF]; rfl, unhide HK4⟩
      · have hjl' : ¬ (j : Int) < ls.length := by omega
        have hje : j = ls.length := by omega
        subst hje
        rw [List.take_length] at HAJ
        have HE1 := hide (by rw [← unhide HE]; unfold fitB; rw [unhide HWD, unhide HAJ]; rfl : E = true)
        go_wp2
        go_ret
        exact ⟨by rw [unhide HE1]; rfl, unhide HKJ⟩

theorem newT_all (z : Int) (w : World) :
    Calls Tryd.prog 10 #[.int .i64 z] w fun e w' => ∃ p er, e = .returned (.tuple #[.pointer p, .int .i64 er]) ∧ (widthB z = true → ∃ t, p = some ⟨t, 0, none⟩ ∧ TreeAt z w' t (.slice none 0 0) []) ∧ Kept [] w w' := by
  cases hw : widthB z with
  | false => exact (newT_bad z w hw).mono fun e w' h => ⟨_, _, h.1, fun h9 => by simp at h9, h.2⟩
  | true => exact (newT_any z w hw).mono fun e w' ⟨t, h1, _, h2, h3⟩ => ⟨_, _, h1, fun _ => ⟨t, rfl, h2⟩, h3⟩

/-- What grown answers. -/
def GrD (z : Int) (ls : List (List Nat)) (w : World) (e : Ending) (w' : World) : Prop :=
  (fitB z ls = true ∧ ls.length ≤ 400 → ∃ t v qs, e = .returned (.tuple #[.pointer (some ⟨t, 0, none⟩), .bool true]) ∧ TreeAt z w' t v qs ∧ leavesK qs = ls ∧ (qs = [] → v = .slice none 0 0)) ∧
  (¬ (fitB z ls = true ∧ ls.length ≤ 400) → e = .returned (.tuple #[.pointer none, .bool false])) ∧ Kept [] w w'

set_option maxRecDepth 100000 in
set_option maxHeartbeats 1000000 in
theorem grown_any (z : Int) (lv : Value) (ls : List (List Nat)) (st : Nat) (w : World) (hz : -9223372036854775808 ≤ z ∧ z ≤ 9223372036854775807) (hst : 1 ≤ st ∧ st ≤ 1000) (hl : RdD w lv ls) (hT : Tabs w) (h6 : Tab6 w) :
    Calls Tryd.prog 15 #[.int .i64 z, lv, .int .i64 st] w (GrD z ls w) := by
  have HL := hide hl
  have HTB := hide hT
  have H6 := hide h6
  obtain ⟨ao, len, cap, rfl, h1, h2, h3, h4, h5⟩ := hl
  subst h1
  clear h4 h5 hT h6
  go_enter Tryd.func15, Tryd.ntmps15
  go_wp2_with fail
  refine (newT_all z w).mono ?_
  rintro e w1 ⟨p, er, rfl, hp, k1⟩
  have HP := hide hp
  have HK1 := hide k1
  clear hp k1
  by_cases h400 : 400 < ls.length
  · have h400' : (400 : Int) < ls.length := by omega
    go_wp2_with fail
    exact bodyPost_ret (results_tmp2 rfl _ _ _) rfl ⟨fun h => by omega, fun _ => rfl, unhide HK1⟩
  · have h400' : ¬ (400 : Int) < ls.length := by omega
    go_wp2_with fail
    refine (fit_any z (.slice ao ls.length cap) ls w1 hz ((unhide HL).old (unhide HK1))).mono ?_
    rintro e w2 ⟨rfl, k2⟩
    have HK2 := hide ((unhide HK1).trans k2 (by simp))
    cases hfit : fitB z ls with
    | false =>
      clear k2
      go_wp2_with fail
      exact bodyPost_ret (results_tmp2 rfl _ _ _) rfl ⟨fun h => by rw [hfit] at h; simp at h, fun _ => rfl, unhide HK2⟩
    | true =>
      have hfit2 := hfit
      unfold fitB at hfit2
      rw [Bool.and_eq_true] at hfit2
      obtain ⟨t0, rfl, htr⟩ := unhide HP hfit2.1
      have HT0 := hide (htr.old k2)
      have HALL := hide hfit2.2
      have HFIT := hide hfit
      clear k2 hfit hfit2 htr HP
      go_wp2_with fail
      go_loopw [8, 10] (fun t8 t10 wr => ∃ (at_ t : Nat) (v : Value) (qs : List Pk), t8 = .pointer (some ⟨t, 0, none⟩) ∧ t10 = .int .i64 (at_ : Int) ∧ at_ ≤ 2000 ∧ Hid (TreeAt z wr t v qs) ∧ Hid (leavesK qs = ls.take at_) ∧ Hid (qs = [] → v = .slice none 0 0) ∧ Hid (Kept [] w wr)) (fun _ t _ => ls.length - (intOf t).toNat)
      case atStart => exact ⟨0, t0, _, [], rfl, rfl, by omega, HT0, hide rfl, hide (fun _ => rfl), HK2⟩
      case round =>
        obtain ⟨at_, t, v, qs, rfl, rfl, hat, HT, HLV, HNL, HKR⟩ := hrel
        by_cases hlt : at_ < ls.length
        · have hlt' : (at_ : Int) < ls.length := by omega
          obtain ⟨hi, hhi⟩ : ∃ hi, min (at_ + st) ls.length = hi := ⟨_, rfl⟩
          have hmin : min ((at_ : Int) + (st : Int)) (ls.length : Int) = (hi : Int) := by omega
          have hh1 : at_ ≤ hi ∧ hi ≤ ls.length := by omega
          have HPC := hide (fun (ao' : Option Addr) (ho : at_ < hi → ∀ b off, ao = some ⟨b, off, none⟩ → ao' = some ⟨b, off + at_ * 32, none⟩) => (RdD.piece (c' := cap - at_) (unhide HL) hh1.1 hh1.2 (by omega) ao' ho).old (unhide HKR))
          have HPF := hide (List.all_eq_true.2 (fun d hd => List.all_eq_true.1 (unhide HALL) d (List.mem_of_mem_drop (List.mem_of_mem_take hd))) : ((ls.drop at_).take (hi - at_)).all (formB z) = true)
          have HTK := hide (by
            have e1 : ls.take (at_ + st) = ls.take hi := by
              rcases Nat.le_total (at_ + st) ls.length with h9 | h9
              · rw [show hi = at_ + st by omega]
              · rw [List.take_of_length_le h9, List.take_of_length_le (by omega)]
            rw [e1]
            have e2 : hi = at_ + (hi - at_) := by omega
            conv => rhs; rw [e2, List.take_add]
            : ls.take at_ ++ (ls.drop at_).take (hi - at_) = ls.take (at_ + st))
          have HLN := hide (by rw [unhide HLV, List.length_take, List.length_take]; omega : (leavesK qs).length + ((ls.drop at_).take (hi - at_)).length ≤ 1000000000)
          have q1 : ¬ (hi : Int) < at_ := by omega
          have q2 : ¬ (cap : Int) < hi := by omega
          have q3 : ¬ cap = at_ := by omega
          have q4 : ¬ at_ = cap := by omega
          have q5 : ¬ (cap : Int) = at_ := by omega
          have q6 : ¬ (hi : Int) < 0 := by omega
          have w1' : IntKind.i64.wrap ((at_ : Int) + (st : Int)) = (at_ : Int) + (st : Int) := by simp [IntKind.wrap, IntKind.signed, IntKind.bits]; omega
          go_wp2_with (simp only [hmin])
          refine (appendT_any z t v (.slice (Option.map (fun x => x.add (at_ * 32)) ao) (hi - at_) (cap - at_)) qs ((ls.drop at_).take (hi - at_)) wr (unhide HT) (unhide HNL) (unhide HPC _ (fun _ b off e => by rw [e]; simp [Addr.add_mid])) (unhide HLN) ((unhide HTB).kept (unhide HKR) (by simp) (by simp)) ((unhide H6).kept (unhide HKR))).mono ?_
          rintro e w4 ⟨ha, _, k4⟩
          obtain ⟨t2, v2, rs, rfl, _, htr2, hlv2, hnl2⟩ := ha (unhide HPF)
          have HT2 := hide htr2
          have HLV2 := hide (by rw [hlv2, unhide HLV]; exact unhide HTK : leavesK rs = ls.take (at_ + st))
          have HNL2 := hide hnl2
          have HKR2 := hide ((unhide HKR).trans k4 (by simp))
          clear htr2 hlv2 hnl2 k4 ha HT HLV HNL HKR HPC HPF HTK HLN
          go_wp2_with fail
          refine ⟨⟨at_ + st, t2, v2, rs, rfl, by simp, by omega, HT2, HLV2, HNL2, HKR2⟩, ?_⟩
          simp [intOf]
          omega
        · have hlt' : ¬ (at_ : Int) < ls.length := by omega
          have HLV2 := hide (by rw [unhide HLV, List.take_of_length_le (by omega)] : leavesK qs = ls)
          go_wp2_with fail
          exact bodyPost_ret (results_tmp2 rfl _ _ _) rfl ⟨fun _ => ⟨t, v, qs, rfl, unhide HT, unhide HLV2, unhide HNL⟩, fun h => absurd ⟨unhide HFIT, by omega⟩ h, unhide HKR⟩
end Go.Proofs.YtcijeplafknokaaDoor
namespace Go.Proofs.YtcijeplafknokaaDoor
open Go.RowKit Go.BigFrame
set_option linter.unusedVariables false
set_option linter.unusedSimpArgs false

set_option maxRecDepth 100000 in
set_option maxHeartbeats 400000 in
theorem rooted_any (z : Int) (t : Nat) (v : Value) (ps : List Pk) (n : Nat) (w : World) (hT : TreeAt z w t v ps) (hn : n ≤ (leavesK ps).length) (hb : (leavesK ps).length < 4096) (hTb : Tabs w) (h6 : Tab6 w) :
    Calls Tryd.prog 28 #[.pointer (some ⟨t, 0, none⟩), .int .i64 n] w fun e w' => e = .returned (.tuple #[.agg (brow (rgD z (leavesK ps) 0 n)), .bool true]) ∧ Kept [] w w' := by
  have hdl := (rgD_len hT.pk 0 n).1
  have hE : rgE (leavesK ps) 0 n = 0 := if_neg (by omega)
  have k0 := (Kept.refl [] w).alloc (.cells (zb 32) 43)
  have HR := hide (rootT_all z t v ps n _ (hT.old k0) hb (hTb.kept k0 (by simp) (by simp)) (h6.kept k0))
  rw [hE] at HR
  have HZ := hide (heap_alloc_new w (.cells (zb 32) 43))
  have HK := hide k0
  have hwn : IntKind.u64.wrap (n : Int) = (n : Int) := by rw [wrU]; omega
  generalize rgD z (leavesK ps) 0 n = D at HR hdl ⊢
  clear k0 hT
  go_enter Tryd.func28, Tryd.ntmps28
  go_wp2_with (simp only [hwn])
  rw [zb32]
  refine (unhide HR).mono ?_
  rintro e w3 ⟨rfl, k3⟩
  have HZ3 := hide (k3.heap (unhide HZ) (by simp))
  have HK3 := hide ((unhide HK).trans k3 (by simp))
  clear k3
  have HN3 := hide (cell_new w3 D)
  have HO3 := hide (kept_old w3 D)
  have HZ4 := hide ((unhide HO3).heap (unhide HZ3) (by simp))
  have HK5 := hide (((unhide HK3).trans (unhide HO3) (by simp)).setRow (g := w.heap.size) (Or.inr (Nat.le_refl _)) (brow D))
  go_wp2_with (first
    | (rw [zb32]; refine wpList_store_row rfl 43 (.tmp 6) _ rfl w3.heap.size (brow D) rfl rfl _ (zb 32) (heap_alloc_new _ _) (Tryd.szD hdl) (by rw [zb_size, brow_size, hdl]) (brow_one _) ?_)
    | (refine wpList_load_row rfl 43 (.tmp 6) rfl w3.heap.size rfl _ (brow D) (0, 0) _ (unhide HN3) Tryd.underlying43 rfl (Tryd.szD hdl) ?_)
    | (refine wpList_store_row rfl 43 (.tmp 4) _ rfl w.heap.size (brow D) rfl rfl _ (zb 32) (unhide HZ4) (Tryd.szD hdl) (by rw [zb_size, brow_size, hdl]) (brow_one _) ?_))
  refine bodyPost_ret (v := .tuple #[.agg (brow D), .bool true]) ?_ rfl ⟨rfl, unhide HK5⟩
  exact results_cell_tmp rfl _ _ w.heap.size _ (brow D) (0, 0) _ rfl (setRow_heap _ _ _ _ _ _ (unhide HZ4)) Tryd.underlying43 rfl (Tryd.szD hdl) _ rfl
end Go.Proofs.YtcijeplafknokaaDoor
namespace Go.Proofs.YtcijeplafknokaaDoor
open Go.RowKit Go.BigFrame
set_option linter.unusedVariables false
set_option linter.unusedSimpArgs false

/-- The slice value v reads as these ints. -/
def RdI (w : World) (v : Value) (zs : List Int) : Prop :=
  ∃ (ao : Option Addr) (len cap : Nat), v = .slice ao len cap ∧ zs.length = len ∧ len ≤ cap ∧ cap ≤ 9223372036854775807 ∧
    (∀ x ∈ zs, -9223372036854775808 ≤ x ∧ x ≤ 9223372036854775807) ∧ (0 < len → ∃ b off, ao = some ⟨b, off, none⟩ ∧ ∀ i, i < len → w.cell? ⟨b, off + i, none⟩ = some (.int .i64 (zs.getD i 0)))
theorem RdI.old {w0 w : World} {v : Value} {ws : List Int} (h : RdI w0 v ws) (k : Kept [] w0 w) : RdI w v ws := by
  obtain ⟨ao, len, cap, rfl, h1, h2, h3, h5, h6⟩ := h
  refine ⟨ao, len, cap, rfl, h1, h2, h3, h5, fun hp => ?_⟩
  obtain ⟨b, off, rfl, hc⟩ := h6 hp
  exact ⟨b, off, rfl, fun i hi => k.cell (hc i hi) (by simp)⟩

end Go.Proofs.YtcijeplafknokaaDoor
namespace Go.Proofs.YtcijeplafknokaaDoor
open Go.RowKit
set_option linter.unusedVariables false
set_option linter.unusedSimpArgs false

/-- The slice value v reads as these numbers of 64 bits. -/
def RdQ (w : World) (v : Value) (xs : List Nat) : Prop :=
  ∃ (ao : Option Addr) (len cap : Nat), v = .slice ao len cap ∧ xs.length = len ∧ len ≤ cap ∧ cap ≤ 9223372036854775807 ∧ (∀ x ∈ xs, x < 18446744073709551616) ∧
    (0 < len → ∃ b off, ao = some ⟨b, off, none⟩ ∧ ∀ i, i < len → w.cell? ⟨b, off + i, none⟩ = some (.int .u64 ((xs.getD i 0 : Nat) : Int)))
theorem RdQ.old {w0 w : World} {v : Value} {ws : List Nat} (h : RdQ w0 v ws) (k : Kept [] w0 w) : RdQ w v ws := by
  obtain ⟨ao, len, cap, rfl, h1, h2, h3, h5, h6⟩ := h
  refine ⟨ao, len, cap, rfl, h1, h2, h3, h5, fun hp => ?_⟩
  obtain ⟨b, off, rfl, hc⟩ := h6 hp
  exact ⟨b, off, rfl, fun i hi => k.cell (hc i hi) (by simp)⟩
end Go.Proofs.YtcijeplafknokaaDoor
namespace Go.Proofs.YtcijeplafknokaaDoor
open Go.RowKit Go.BigFrame
set_option linter.unusedVariables false
set_option linter.unusedSimpArgs false

set_option maxRecDepth 100000 in
set_option maxHeartbeats 1000000 in
theorem mtreeSplits_go (z : Int) (lv av : Value) (ls : List (List Nat)) (us : List Int) (w : World) (hz : -9223372036854775808 ≤ z ∧ z ≤ 9223372036854775807) (hl : RdD w lv ls) (ha : RdI w av us) (hT : Tabs w) (h6 : Tab6 w) :
    Calls Tryd.prog 7 #[.int .i64 z, lv, av] w fun e w' => e = .returned (.bool true) ∧ Kept [] w w' := by
  have HTB := hide hT
  have H6 := hide h6
  have HU := hide ha
  have HL := hide hl
  obtain ⟨ao, len, cap, rfl, h1, h2, h3, h4, h5⟩ := ha
  obtain ⟨la, ll, lc, rfl, l1, l2, l3, _⟩ := hl
  have HL1 := hide h1
  have HLL := hide l1
  clear hT h6 h4 h5 h1 l1
  go_enter Tryd.func7, Tryd.ntmps7
  go_wp2_with fail
  refine (mtawake_any w (unhide HTB) (unhide H6)).mono ?_
  rintro e w1 ⟨rfl, k1⟩
  have HK1 := hide k1
  clear k1
  go_wp2_with fail
  refine (grown_any z (.slice la ll lc) ls 5 w1 hz (by omega) ((unhide HL).old (unhide HK1)) ((unhide HTB).kept (unhide HK1) (by simp) (by simp)) ((unhide H6).kept (unhide HK1))).mono ?_
  rintro e w2 ⟨hg1, hg2, k2⟩
  have HK2 := hide ((unhide HK1).trans k2 (by simp))
  clear k2 HK1
  by_cases hfit : fitB z ls = true ∧ ls.length ≤ 400
  · obtain ⟨t, v, qs, rfl, htr, hlv, _⟩ := hg1 hfit
    have HTR := hide htr
    have HLV := hide hlv
    have HLE := hide hfit.2
    have hl4 : ll ≤ 400 := by have := unhide HLL; have := hfit.2; omega
    have hwd : widthB z = true := by have h9 := hfit.1; unfold fitB at h9; rw [Bool.and_eq_true] at h9; exact h9.1
    clear hg1 hg2 htr hlv hfit
    by_cases hlen : len < 2
    · have hlen' : (len : Int) < 2 := by omega
      go_wp2_with fail
      refine wp_region_quiet_lit (by kernel_rfl) (by kernel_rfl) ?_
      iterate 5 (go_big_quiet_step (fail))
      refine wpQuiet_val rfl (.bool true) (fun w' hw' => by obtain ⟨m9, rfl⟩ := hw'; unfold execOp; go_simp) ?_
      simp only [Act.put, List.setIfInBounds_toArray, List.set_cons_succ, List.set_cons_zero]
      repeat (go_big_quiet_step (fail))
      refine wpQuiet_nil ?_
      rintro _ ⟨n1, rfl⟩
      have HK3 := hide ((unhide HK2).drewN n1)
      go_wp2_with fail
      go_ret
      exact ⟨rfl, unhide HK3⟩
    · have hlen' : ¬ (len : Int) < 2 := by omega
      obtain ⟨_, _, _, he, hel, _, _, hub, hcell⟩ := (unhide HU).old (unhide HK2)
      cases he
      obtain ⟨b, o, rfl, hc⟩ := hcell (by omega)
      have e0 := hc 0 (by omega)
      have e1 := hc 1 (by omega)
      generalize us.getD 0 0 = a0 at e0
      generalize us.getD 1 0 = a1 at e1
      rw [Nat.add_zero] at e0
      have hi0 : ¬ (len : Int) ≤ 0 := by omega
      have hi1 : ¬ (len : Int) ≤ 1 := by omega
      have hi2 : ¬ len = 0 := by omega
      have hi3 : ¬ len ≤ 1 := by omega
      clear hc hcell HU hub hel
      by_cases h0 : a0 < 0
      · go_wp2_with fail
        refine wp_region_quiet_lit (by kernel_rfl) (by kernel_rfl) ?_
        iterate 5 (go_big_quiet_step (fail))
        refine wpQuiet_val rfl (.bool false) (fun w' hw' => by obtain ⟨m9, rfl⟩ := hw'; unfold execOp; go_simp) ?_
        simp only [Act.put, List.setIfInBounds_toArray, List.set_cons_succ, List.set_cons_zero]
        iterate 5 (go_big_quiet_step (fail))
        refine wpQuiet_val rfl (.bool true) (fun w' hw' => by obtain ⟨m9, rfl⟩ := hw'; unfold execOp; go_simp) ?_
        simp only [Act.put, List.setIfInBounds_toArray, List.set_cons_succ, List.set_cons_zero]
        repeat (go_big_quiet_step (fail))
        refine wpQuiet_nil ?_
        rintro _ ⟨n1, rfl⟩
        have HK3 := hide ((unhide HK2).drewN n1)
        go_wp2_with fail
        go_ret
        exact ⟨rfl, unhide HK3⟩
      · by_cases h1 : a1 < a0
        · go_wp2_with fail
          refine wp_region_quiet_lit (by kernel_rfl) (by kernel_rfl) ?_
          iterate 5 (go_big_quiet_step (fail))
          refine wpQuiet_val rfl (.bool false) (fun w' hw' => by obtain ⟨m9, rfl⟩ := hw'; unfold execOp; go_simp) ?_
          simp only [Act.put, List.setIfInBounds_toArray, List.set_cons_succ, List.set_cons_zero]
          iterate 5 (go_big_quiet_step (fail))
          refine wpQuiet_val rfl (.bool false) (fun w' hw' => by obtain ⟨m9, rfl⟩ := hw'; unfold execOp; go_simp) ?_
          simp only [Act.put, List.setIfInBounds_toArray, List.set_cons_succ, List.set_cons_zero]
          iterate 8 (go_big_quiet_step (fail))
          refine wpQuiet_val rfl (.bool true) (fun w' hw' => by obtain ⟨m9, rfl⟩ := hw'; unfold execOp; go_simp) ?_
          simp only [Act.put, List.setIfInBounds_toArray, List.set_cons_succ, List.set_cons_zero]
          repeat (go_big_quiet_step (fail))
          refine wpQuiet_nil ?_
          rintro _ ⟨n1, rfl⟩
          have HK3 := hide ((unhide HK2).drewN n1)
          go_wp2_with fail
          go_ret
          exact ⟨rfl, unhide HK3⟩
        · by_cases h2 : (ll : Int) < a1
          · go_wp2_with fail
            refine wp_region_quiet_lit (by kernel_rfl) (by kernel_rfl) ?_
            iterate 5 (go_big_quiet_step (fail))
            refine wpQuiet_val rfl (.bool false) (fun w' hw' => by obtain ⟨m9, rfl⟩ := hw'; unfold execOp; go_simp) ?_
            simp only [Act.put, List.setIfInBounds_toArray, List.set_cons_succ, List.set_cons_zero]
            iterate 5 (go_big_quiet_step (fail))
            refine wpQuiet_val rfl (.bool false) (fun w' hw' => by obtain ⟨m9, rfl⟩ := hw'; unfold execOp; go_simp) ?_
            simp only [Act.put, List.setIfInBounds_toArray, List.set_cons_succ, List.set_cons_zero]
            iterate 8 (go_big_quiet_step (fail))
            refine wpQuiet_val rfl (.bool false) (fun w' hw' => by obtain ⟨m9, rfl⟩ := hw'; unfold execOp; go_simp) ?_
            simp only [Act.put, List.setIfInBounds_toArray, List.set_cons_succ, List.set_cons_zero]
            iterate 7 (go_big_quiet_step (fail))
            refine wpQuiet_val rfl (.bool true) (fun w' hw' => by obtain ⟨m9, rfl⟩ := hw'; unfold execOp; go_simp) ?_
            simp only [Act.put, List.setIfInBounds_toArray, List.set_cons_succ, List.set_cons_zero]
            repeat (go_big_quiet_step (fail))
            refine wpQuiet_nil ?_
            rintro _ ⟨n1, rfl⟩
            have HK3 := hide ((unhide HK2).drewN n1)
            go_wp2_with fail
            go_ret
            exact ⟨rfl, unhide HK3⟩
          · obtain ⟨lo, rfl⟩ : ∃ lo : Nat, a0 = (lo : Int) := ⟨a0.toNat, by omega⟩
            obtain ⟨hi, rfl⟩ : ∃ hi : Nat, a1 = (hi : Int) := ⟨a1.toNat, by omega⟩
            have hlh : lo ≤ hi ∧ hi ≤ ll := by omega
            go_wp2_with fail
            refine wp_region_quiet_lit (by kernel_rfl) (by kernel_rfl) ?_
            iterate 5 (go_big_quiet_step (fail))
            refine wpQuiet_val rfl (.bool false) (fun w' hw' => by obtain ⟨m9, rfl⟩ := hw'; unfold execOp; go_simp) ?_
            simp only [Act.put, List.setIfInBounds_toArray, List.set_cons_succ, List.set_cons_zero]
            iterate 5 (go_big_quiet_step (fail))
            refine wpQuiet_val rfl (.bool false) (fun w' hw' => by obtain ⟨m9, rfl⟩ := hw'; unfold execOp; go_simp) ?_
            simp only [Act.put, List.setIfInBounds_toArray, List.set_cons_succ, List.set_cons_zero]
            iterate 8 (go_big_quiet_step (fail))
            refine wpQuiet_val rfl (.bool false) (fun w' hw' => by obtain ⟨m9, rfl⟩ := hw'; unfold execOp; go_simp) ?_
            simp only [Act.put, List.setIfInBounds_toArray, List.set_cons_succ, List.set_cons_zero]
            iterate 7 (go_big_quiet_step (fail))
            refine wpQuiet_val rfl (.bool false) (fun w' hw' => by obtain ⟨m9, rfl⟩ := hw'; unfold execOp; go_simp) ?_
            simp only [Act.put, List.setIfInBounds_toArray, List.set_cons_succ, List.set_cons_zero]
            repeat (go_big_quiet_step (fail))
            refine wpQuiet_nil ?_
            rintro _ ⟨n1, rfl⟩
            obtain ⟨W0, hW0⟩ : ∃ W0, w2.drewN n1 = W0 := ⟨_, rfl⟩
            have HK20 := hide ((Kept.refl [] w2).drewN n1)
            have e0 : (w2.drewN n1).cell? ⟨b, o, none⟩ = some (.int .i64 (lo : Int)) := (unhide HK20).cell e0 (by simp)
            have e1 : (w2.drewN n1).cell? ⟨b, o + 1, none⟩ = some (.int .i64 (hi : Int)) := (unhide HK20).cell e1 (by simp)
            rw [hW0] at HK20 e0 e1 ⊢
            clear hW0
            have hwlo : IntKind.u64.wrap (lo : Int) = (lo : Int) := by rw [wrU]; omega
            have hwhi : IntKind.u64.wrap (hi : Int) = (hi : Int) := by rw [wrU]; omega
            go_wp2_with fail
            refine wp_region_quiet_lit (by kernel_rfl) (by kernel_rfl) ?_
            repeat (go_big_quiet_step (first | simp only [hwlo] | simp only [hwhi]))
            refine wpQuiet_nil ?_
            rintro _ ⟨n2, rfl⟩
            obtain ⟨W3, hW3⟩ : ∃ W3, W0.drewN n2 = W3 := ⟨_, rfl⟩
            have HK23 := hide ((unhide HK20).drewN n2)
            rw [hW3] at HK23 ⊢
            clear hW3 e0 e1
            obtain ⟨n, hn⟩ : ∃ n, hi - lo = n := ⟨_, rfl⟩
            have hsub : IntKind.u64.wrap ((hi : Int) - (lo : Int)) = (n : Int) := by rw [wrU]; omega
            have hb4 : (leavesK qs).length < 4096 := by rw [unhide HLV]; have := unhide HLE; omega
            have HRG := hide (fun x y (w' : World) (i : Kept [] w2 w') => rangeT_all z t v qs x y w' ((unhide HTR).old i) hb4 ((unhide HTB).kept ((unhide HK2).trans i (by simp)) (by simp) (by simp)) ((unhide H6).kept ((unhide HK2).trans i (by simp))))
            have HLF := hide (fun x (w' : World) (i : Kept [] w2 w') => leafT_all z t v qs x w' ((unhide HTR).old i) hb4)
            have HDG := hide (fun x y => rgD_len (unhide HTR).pk x y)
            have HDF := hide (fun x => lfD_dg (unhide HTR).pk x)
            have HFM := hide (fun d (hd : d ∈ ls) => (by have h9 := (unhide HTR).pk.leaves; rw [unhide HLV] at h9; exact h9 d hd : Dg d ∧ formB z d = true))
            rw [unhide HLV] at HRG HLF HDG HDF
            have hE0 : ∀ x y, x ≤ y → y ≤ ls.length → rgE ls x y = 0 := fun x y h1 h2 => if_neg (by omega)
            have HLLn := hide (by have := unhide HLL; omega : hi ≤ ls.length)
            have hdl := (unhide HDG lo hi).1
            have HR0 := hide (unhide HRG lo hi)
            rw [hE0 lo hi hlh.1 (unhide HLLn)] at HR0
            obtain ⟨D, hD⟩ : ∃ D, rgD z ls lo hi = D := ⟨_, rfl⟩
            rw [hD] at HR0 hdl
            have HD := hide hD
            have hqd : ∀ W, (Op.equalIn 10000 43 (.agg (brow D)) (.agg (brow D))).run Tryd.prog W = .ok true W := dig_same D hdl
            clear hD
            by_cases hn2 : n < 2
            · have hn2' : (n : Int) < 2 := by omega
              go_wp2_with fail
              refine (unhide HR0 W3 (unhide HK23)).mono ?_
              rintro e wa1 ⟨rfl, ka⟩
              have HKa1 := hide ((unhide HK23).trans ka (by simp))
              clear ka
              have HN1 := hide (cell_new wa1 D)
              have HO1 := hide (kept_old wa1 D)
              have HKb1 := hide ((unhide HKa1).trans (unhide HO1) (by simp))
              go_wp2_with (first
                | (rw [zb32]; refine wpList_store_row rfl 43 (.tmp 11) _ rfl wa1.heap.size (brow D) rfl rfl _ (zb 32) (heap_alloc_new _ _) (Tryd.szD hdl) (by rw [zb_size, brow_size, hdl]) (brow_one _) ?_)
                | (simp only [hsub]))
              obtain ⟨wb1, hwb⟩ : ∃ wb, (wa1.alloc (.cells (zb 32) 43)).setRow wa1.heap.size (brow D) = wb := ⟨_, rfl⟩
              rw [hwb] at HN1 HO1 HKb1 ⊢
              clear hwb
              have HNO := hide (fun W (i : Kept [] w2 W) => (by
                have h9 := nolog_all z W hz ((unhide HTB).kept ((unhide HK2).trans i (by simp)) (by simp) (by simp))
                rw [show sumE z = 0 from if_pos hwd] at h9
                exact h9 : Calls Tryd.prog 24 #[.int .i64 z] W fun e w' => e = .returned (.tuple #[.agg (brow (noT z)), .int .i64 ((0 : Nat) : Int)]) ∧ Kept [] W w'))
              have hc0 := (noT_dg z).1
              by_cases heq : lo = hi
              · have hgt : ¬ (lo : Int) < hi := by omega
                have hDN : noT z = D := by rw [← unhide HD, ← heq]; unfold rgD; rw [if_neg (by have := unhide HLLn; omega), rngD_self]
                rw [hDN] at HNO
                clear hDN hc0
                go_wp2_with (simp only [hsub])
                refine (unhide HNO wb1 (unhide HKb1)).mono ?_
                rintro e wa2 ⟨rfl, ka⟩
                have HKa2 := hide ((unhide HKb1).trans ka (by simp))
                have HN1a2 := hide (ka.heap (unhide HN1) (by simp))
                clear ka
                have HN2 := hide (cell_new wa2 D)
                have HO2 := hide (kept_old wa2 D)
                have HKb2 := hide ((unhide HKa2).trans (unhide HO2) (by simp))
                have HN1b2 := hide ((unhide HO2).heap (unhide HN1a2) (by simp))
                go_wp2_with (first
                  | (rw [zb32]; refine wpList_store_row rfl 43 (.tmp 13) _ rfl wa2.heap.size (brow D) rfl rfl _ (zb 32) (heap_alloc_new _ _) (Tryd.szD hdl) (by rw [zb_size, brow_size, hdl]) (brow_one _) ?_)
                  | (refine wpList_load_rowG rfl 43 (.tmp 11) rfl wa1.heap.size rfl _ (brow D) (0, 0) _ (unhide HN1b2) Tryd.underlying43 rfl (Tryd.szD hdl) ?_)
                  | (refine wpList_load_rowG rfl 43 (.tmp 13) rfl wa2.heap.size rfl _ (brow D) (0, 0) _ (unhide HN2) Tryd.underlying43 rfl (Tryd.szD hdl) ?_))
                have HKF := hide ((unhide HK2).trans (unhide HKb2) (by simp))
                go_ret
                exact ⟨rfl, unhide HKF⟩
              · have hgt : (lo : Int) < hi := by omega
                generalize noT z = C0 at HNO hc0
                go_wp2_with (simp only [hsub])
                refine (unhide HNO wb1 (unhide HKb1)).mono ?_
                rintro e wa2 ⟨rfl, ka⟩
                have HKa2 := hide ((unhide HKb1).trans ka (by simp))
                have HN1a2 := hide (ka.heap (unhide HN1) (by simp))
                clear ka
                have HN2 := hide (cell_new wa2 C0)
                have HO2 := hide (kept_old wa2 C0)
                have HKb2 := hide ((unhide HKa2).trans (unhide HO2) (by simp))
                have HN1b2 := hide ((unhide HO2).heap (unhide HN1a2) (by simp))
                go_wp2_with (first
                  | (rw [zb32]; refine wpList_store_row rfl 43 (.tmp 13) _ rfl wa2.heap.size (brow C0) rfl rfl _ (zb 32) (heap_alloc_new _ _) (Tryd.szD hc0) (by rw [zb_size, brow_size, hc0]) (brow_one _) ?_))
                obtain ⟨wb2, hwb⟩ : ∃ wb, (wa2.alloc (.cells (zb 32) 43)).setRow wa2.heap.size (brow C0) = wb := ⟨_, rfl⟩
                rw [hwb] at HN2 HO2 HKb2 HN1b2 ⊢
                clear hwb
                have HLQ := hide (unhide HLF lo)
                rw [show lfE ls lo = 0 from if_neg (by have := unhide HLLn; omega)] at HLQ
                have hDL : lfD ls lo = D := by
                  rw [← unhide HD]
                  unfold lfD rgD
                  rw [if_neg (by have := unhide HLLn; omega), if_neg (by have := unhide HLLn; omega)]
                  have hh : hi - lo = 2 ^ 0 := by omega
                  rw [rngD_pow hh (unhide HLLn) (by omega)]
                  simp [perT, List.getD_eq_getElem?_getD, List.getElem?_drop, List.getElem?_take]
                rw [hDL] at HLQ
                refine (unhide HLQ wb2 (unhide HKb2)).mono ?_
                rintro e wx ⟨rfl, kx⟩
                have HA := hide (kx.heap (unhide HN1b2) (by simp))
                have HB := hide (kx.heap (unhide HN2) (by simp))
                have hx2 : ¬ wa1.heap.size = wa2.heap.size := by have := lt_of_block (unhide HN1a2); omega
                have HA2 := hide ((setRow_other wx wa2.heap.size wa1.heap.size (brow D) hx2).trans (unhide HA))
                have HB2 := hide (setRow_heap wx wa2.heap.size (brow C0) (brow D) 43 (0, 0) (unhide HB))
                have HKF := hide (((unhide HK2).trans (unhide HKb2) (by simp)).trans kx (by simp) |>.setRow (g := wa2.heap.size) (Or.inr (by have := (unhide HK2).size; have := (unhide HKa2).size; omega)) (brow D))
                clear kx
                go_wp2_with (first
                  | (refine wpList_store_row rfl 43 (.tmp 13) _ rfl wa2.heap.size (brow D) rfl rfl _ (brow C0) (unhide HB) (Tryd.szD hdl) (by rw [brow_size, brow_size, hdl, hc0]) (brow_one _) ?_)
                  | (refine wpList_load_rowG rfl 43 (.tmp 11) rfl wa1.heap.size rfl _ (brow D) (0, 0) _ (unhide HA2) Tryd.underlying43 rfl (Tryd.szD hdl) ?_)
                  | (refine wpList_load_rowG rfl 43 (.tmp 13) rfl wa2.heap.size rfl _ (brow D) (0, 0) _ (unhide HB2) Tryd.underlying43 rfl (Tryd.szD hdl) ?_))
                go_ret
                exact ⟨rfl, unhide HKF⟩
            · have hn2' : ¬ (n : Int) < 2 := by omega
              go_wp2_with fail
              refine (unhide HR0 W3 (unhide HK23)).mono ?_
              rintro e wa1 ⟨rfl, ka⟩
              have HKa1 := hide ((unhide HK23).trans ka (by simp))
              clear ka
              have HN1 := hide (cell_new wa1 D)
              have HO1 := hide (kept_old wa1 D)
              have HKb1 := hide ((unhide HKa1).trans (unhide HO1) (by simp))
              go_wp2_with (first
                | (rw [zb32]; refine wpList_store_row rfl 43 (.tmp 11) _ rfl wa1.heap.size (brow D) rfl rfl _ (zb 32) (heap_alloc_new _ _) (Tryd.szD hdl) (by rw [zb_size, brow_size, hdl]) (brow_one _) ?_)
                | (simp only [hsub]))
              obtain ⟨wb1, hwb⟩ : ∃ wb, (wa1.alloc (.cells (zb 32) 43)).setRow wa1.heap.size (brow D) = wb := ⟨_, rfl⟩
              rw [hwb] at HN1 HO1 HKb1 ⊢
              clear hwb
              have hbl := belT_lt (n := n) (by omega)
              have HCUT := hide (by
                have h9 := unhide HD
                unfold rgD at h9
                rw [if_neg (by have := unhide HLLn; omega), rngD_cut (by omega) (unhide HLLn), hn] at h9
                exact h9.symm : D = nodT z (rngD z (noT z) ls lo (lo + belT n)) (rngD z (noT z) ls (lo + belT n) hi))
              have HBE := hide (fun j (h : 2 ^ j ≤ n - 1) (h' : n - 1 < 2 ^ (j + 1)) => (by unfold belT; rw [(Nat.log2_eq_iff (by omega)).2 ⟨h, h'⟩] : belT n = 2 ^ j))
              have HRa := hide (unhide HRG lo (lo + belT n))
              have HRb := hide (unhide HRG (lo + belT n) hi)
              rw [hE0 lo (lo + belT n) (by omega) (by have := unhide HLLn; omega)] at HRa
              rw [hE0 (lo + belT n) hi (by omega) (unhide HLLn)] at HRb
              have e9 : ∀ x y, x ≤ y → y ≤ ls.length → rgD z ls x y = rngD z (noT z) ls x y := fun x y h1 h2 => if_neg (by omega)
              rw [e9 lo (lo + belT n) (by omega) (by have := unhide HLLn; omega)] at HRa
              rw [e9 (lo + belT n) hi (by omega) (unhide HLLn)] at HRb
              have f1 : formB z (rngD z (noT z) ls lo (lo + belT n)) = true := log_form z (noT z) ((ls.drop lo).take (lo + belT n - lo)) hwd (noT_form hwd) (fun d hd => (unhide HFM d (List.mem_of_mem_drop (List.mem_of_mem_take hd))).2)
              have f2 : formB z (rngD z (noT z) ls (lo + belT n) hi) = true := log_form z (noT z) ((ls.drop (lo + belT n)).take (hi - (lo + belT n))) hwd (noT_form hwd) (fun d hd => (unhide HFM d (List.mem_of_mem_drop (List.mem_of_mem_take hd))).2)
              have g1 := log_dg z (noT z) ((ls.drop lo).take (lo + belT n - lo)) (noT_dg z) (fun d hd => (unhide HFM d (List.mem_of_mem_drop (List.mem_of_mem_take hd))).1)
              have g2 := log_dg z (noT z) ((ls.drop (lo + belT n)).take (hi - (lo + belT n))) (noT_dg z) (fun d hd => (unhide HFM d (List.mem_of_mem_drop (List.mem_of_mem_take hd))).1)
              have HND := hide (fun W (i : Kept [] w2 W) => (by
                have h9 := node_all z (rngD z (noT z) ls lo (lo + belT n)) (rngD z (noT z) ls (lo + belT n) hi) W hz g1.1 g2.1 g1.2 g2.2 ((unhide HTB).kept ((unhide HK2).trans i (by simp)) (by simp) (by simp))
                have hf : formedE z [rngD z (noT z) ls lo (lo + belT n), rngD z (noT z) ls (lo + belT n) hi] = 0 := by
                  simp [formedE, hwd, f1, f2]
                rw [hf, show sunE 0 z = 0 from (by unfold sunE sumE; rw [if_pos rfl, if_pos hwd])] at h9
                have h8 : sunD 0 z (nodeB z (rngD z (noT z) ls lo (lo + belT n)) (rngD z (noT z) ls (lo + belT n) hi)) = D := by rw [unhide HCUT]; rfl
                rw [h8] at h9
                exact h9 : Calls Tryd.prog 27 #[.int .i64 z, .agg (brow (rngD z (noT z) ls lo (lo + belT n))), .agg (brow (rngD z (noT z) ls (lo + belT n) hi))] W fun e w' => e = .returned (.tuple #[.agg (brow D), .int .i64 ((0 : Nat) : Int)]) ∧ Kept [] W w'))
              have hd1 : (rngD z (noT z) ls lo (lo + belT n)).length = 32 := g1.1
              have hd2 : (rngD z (noT z) ls (lo + belT n) hi).length = 32 := g2.1
              generalize rngD z (noT z) ls lo (lo + belT n) = D1 at HRa HND hd1
              generalize rngD z (noT z) ls (lo + belT n) hi = D2 at HRb HND hd2
              obtain ⟨B, hB⟩ : ∃ B, belT n = B := ⟨_, rfl⟩
              rw [hB] at HRa HRb HBE hbl
              have hlm : IntKind.u64.wrap ((lo : Int) + (B : Int)) = ((lo + B : Nat) : Int) := by rw [wrU]; omega
              clear HCUT f1 f2 g1 g2 hB e9
              go_loopw [15] (fun t15 wr => ∃ (m : Nat), t15 = .int .u64 (m : Int) ∧ 1 ≤ m ∧ m ≤ n - 1 ∧ Hid (∃ j, m = 2 ^ j) ∧ wr = wb1) (fun t _ => n - (intOf t).toNat)
              case atStart => exact ⟨1, rfl, by omega, by omega, hide ⟨0, rfl⟩, rfl⟩
              case round =>
                obtain ⟨m, rfl, hm1, hm2, HJ, hwr⟩ := hrel
                have HKR := hide (by rw [hwr]; exact unhide HKb1 : Kept [] w2 wr)
                have HN1r := hide (by rw [hwr]; exact unhide HN1 : wr.heap[wa1.heap.size]? = some (.cells (brow D) 43 (0, 0)))
                by_cases hle : 2 * m < n
                · have hle' : 2 * (m : Int) < (n : Int) := by omega
                  have hmul : IntKind.u64.wrap (2 * (m : Int)) = 2 * (m : Int) := by rw [wrU]; omega
                  have hmul2 : IntKind.u64.wrap ((m : Int) * 2) = ((2 * m : Nat) : Int) := by rw [wrU]; omega
                  have HJ2 := hide (by obtain ⟨j, hj⟩ := unhide HJ; exact ⟨j + 1, by rw [Nat.pow_succ]; omega⟩ : ∃ j, 2 * m = 2 ^ j)
                  go_wp2_with (first | simp only [hsub] | simp only [hmul] | simp only [hmul2])
                  refine ⟨⟨2 * m, rfl, by omega, by omega, HJ2, by trivial⟩, ?_⟩
                  simp [intOf]
                  omega
                · have hle' : ¬ 2 * (m : Int) < (n : Int) := by omega
                  have hmul : IntKind.u64.wrap (2 * (m : Int)) = 2 * (m : Int) := by rw [wrU]; omega
                  have hmB : m = B := by obtain ⟨j, hj⟩ := unhide HJ; rw [hj]; exact (unhide HBE j (by omega) (by rw [Nat.pow_succ]; omega)).symm
                  subst hmB
                  clear HJ HBE hwr
                  go_wp2_with (first | simp only [hsub] | simp only [hmul] | simp only [hlm])
                  refine (unhide HRa wr (unhide HKR)).mono ?_
                  rintro e wa3 ⟨rfl, ka⟩
                  have HKa3 := hide ((unhide HKR).trans ka (by simp))
                  have HN1ra3 := hide (ka.heap (unhide HN1r) (by simp))
                  clear ka
                  have HN3 := hide (cell_new wa3 D1)
                  have HO3 := hide (kept_old wa3 D1)
                  have HKb3 := hide ((unhide HKa3).trans (unhide HO3) (by simp))
                  have HN1rb3 := hide ((unhide HO3).heap (unhide HN1ra3) (by simp))
                  go_wp2_with (first
                    | (rw [zb32]; refine wpList_store_row rfl 43 (.tmp 16) _ rfl wa3.heap.size (brow D1) rfl rfl _ (zb 32) (heap_alloc_new _ _) (Tryd.szD hd1) (by rw [zb_size, brow_size, hd1]) (brow_one _) ?_)
                    | (simp only [hlm]))
                  obtain ⟨wb3, hwb⟩ : ∃ wb, (wa3.alloc (.cells (zb 32) 43)).setRow wa3.heap.size (brow D1) = wb := ⟨_, rfl⟩
                  rw [hwb] at HN3 HO3 HKb3 HN1rb3 ⊢
                  clear hwb
                  refine (unhide HRb wb3 (unhide HKb3)).mono ?_
                  rintro e wa4 ⟨rfl, ka⟩
                  have HKa4 := hide ((unhide HKb3).trans ka (by simp))
                  have HN1rb3a4 := hide (ka.heap (unhide HN1rb3) (by simp))
                  have HN3a4 := hide (ka.heap (unhide HN3) (by simp))
                  clear ka
                  have HN4 := hide (cell_new wa4 D2)
                  have HO4 := hide (kept_old wa4 D2)
                  have HKb4 := hide ((unhide HKa4).trans (unhide HO4) (by simp))
                  have HN1rb3b4 := hide ((unhide HO4).heap (unhide HN1rb3a4) (by simp))
                  have HN3b4 := hide ((unhide HO4).heap (unhide HN3a4) (by simp))
                  go_wp2_with (first
                    | (rw [zb32]; refine wpList_store_row rfl 43 (.tmp 17) _ rfl wa4.heap.size (brow D2) rfl rfl _ (zb 32) (heap_alloc_new _ _) (Tryd.szD hd2) (by rw [zb_size, brow_size, hd2]) (brow_one _) ?_)
                    | (refine wpList_load_rowG rfl 43 (.tmp 16) rfl wa3.heap.size rfl _ (brow D1) (0, 0) _ (unhide HN3b4) Tryd.underlying43 rfl (Tryd.szD hd1) ?_)
                    | (refine wpList_load_rowG rfl 43 (.tmp 17) rfl wa4.heap.size rfl _ (brow D2) (0, 0) _ (unhide HN4) Tryd.underlying43 rfl (Tryd.szD hd2) ?_))
                  refine (unhide HND _ (unhide HKb4)).mono ?_
                  rintro e wa5 ⟨rfl, ka⟩
                  have HKa5 := hide ((unhide HKb4).trans ka (by simp))
                  have HN1rb3b4a5 := hide (ka.heap (unhide HN1rb3b4) (by simp))
                  clear ka
                  have HN5 := hide (cell_new wa5 D)
                  have HO5 := hide (kept_old wa5 D)
                  have HKb5 := hide ((unhide HKa5).trans (unhide HO5) (by simp))
                  have HN1rb3b4b5 := hide ((unhide HO5).heap (unhide HN1rb3b4a5) (by simp))
                  go_wp2_with (first
                    | (rw [zb32]; refine wpList_store_row rfl 43 (.tmp 19) _ rfl wa5.heap.size (brow D) rfl rfl _ (zb 32) (heap_alloc_new _ _) (Tryd.szD hdl) (by rw [zb_size, brow_size, hdl]) (brow_one _) ?_)
                    | (refine wpList_load_rowG rfl 43 (.tmp 19) rfl wa5.heap.size rfl _ (brow D) (0, 0) _ (unhide HN5) Tryd.underlying43 rfl (Tryd.szD hdl) ?_)
                    | (refine wpList_load_rowG rfl 43 (.tmp 11) rfl wa1.heap.size rfl _ (brow D) (0, 0) _ (unhide HN1rb3b4b5) Tryd.underlying43 rfl (Tryd.szD hdl) ?_))
                  have HKF := hide ((unhide HK2).trans (unhide HKb5) (by simp))
                  go_ret
                  exact ⟨rfl, unhide HKF⟩
  · obtain rfl := hg2 hfit
    clear hg1 hg2
    go_wp2_with fail
    refine wp_region_quiet_lit (by kernel_rfl) (by kernel_rfl) ?_
    repeat (go_big_quiet_step (fail))
    refine wpQuiet_nil ?_
    rintro _ ⟨n1, rfl⟩
    have HK3 := hide ((unhide HK2).drewN n1)
    go_wp2_with fail
    go_ret
    exact ⟨rfl, unhide HK3⟩

theorem mtreeSplits_walk (z : Int) (lv : Value) (ls : List (List Nat)) (av : Value) (us : List Int) (w : World) (hz : -9223372036854775808 ≤ z ∧ z ≤ 9223372036854775807) (hl : RdD w lv ls) (hx : ls.length ≤ 1048576) (ha : RdI w av us) (h : Tabs w ∧ Tab6 w) :
    Calls Tryd.prog 7 #[.int .i64 z, lv, av] w fun e w' => e = .returned (.bool true) ∧ Below w.heap.size w w' :=
  (mtreeSplits_go z lv av ls us w hz hl ha h.1 h.2).mono fun e w' h9 => ⟨h9.1, h9.2.below (Nat.le_refl _) (by simp)⟩
end Go.Proofs.YtcijeplafknokaaDoor

namespace Go.Proofs.YtcijeplafknokaaDoor
open Go.ChangeShapes Go.WideShapes Go.ChangeAt Go.RowKit Go.Deep
set_option linter.unusedVariables false
set_option linter.unusedSimpArgs false

section
variable {H : Type} {enc : TypeId × Value → H} {W : World}

theorem open_intsl {fuel : Nat} {cs : List Value} {x : DataW H × List MemPlace} (h : DataW.trod enc Tryd.prog W 0 (fun _ => true) true fuel 59 cs = some x) :
    ∃ v ws, cs = [v] ∧ RdI W v ws := by
  rcases open_ints Tryd.underlying59 Tryd.underlying3 (by kernel_rfl) h with ⟨rfl, rfl⟩ | ⟨a, len, cap, zs, rfl, _, hl, hm, hz, rfl, hcell, hwz⟩
  · exact ⟨_, [], rfl, ⟨none, 0, 0, rfl, rfl, Nat.le_refl _, by omega, by simp, fun h => by omega⟩⟩
  · have hbl : (zs.take len).length = len := by simp at hz; simp; omega
    refine ⟨_, zs.take len, rfl, ⟨_, _, _, rfl, hbl, hl, by unfold maxLen at hm; omega, ?_, ?_⟩⟩
    · intro y hy
      exact int_of_wf (hwz y (List.mem_of_mem_take hy))
    · intro hp
      simp at hz
      have hc0 := hcell 0 (by omega)
      obtain ⟨b, off, spot⟩ := a
      have hspot : spot = none := by simpa [Addr.add] using World.cell?_spot hc0
      subst hspot
      refine ⟨b, off, rfl, fun i hi => ?_⟩
      have hc := hcell i (by omega)
      have hzi : i < zs.length := by omega
      rw [Addr.add_mid] at hc
      rw [hc]
      simp [List.getD_eq_getElem?_getD, List.getElem?_take, hi]
end
end Go.Proofs.YtcijeplafknokaaDoor
namespace Go.Proofs.YtcijeplafknokaaDoor
open Go Go.RowKit
set_option linter.unusedVariables false
set_option linter.unusedSimpArgs false
section
variable {H : Type} {enc : TypeId × Value → H} {W : World}

def natOf : Value → Nat
  | .int _ n => n.toNat
  | _ => 0
/-- A digest that came in. -/
theorem open_dig {fuel : Nat} {cs : List Value} {x : DataW H × List MemPlace} (h : DataW.trod enc Tryd.prog W 0 (fun _ => true) true fuel 43 cs = some x) :
    ∃ l : List Nat, cs = l.map u8 ∧ l.length = 32 ∧ ∀ y ∈ l, y < 256 := by
  obtain ⟨xs, m, _, rfl, hl, hn, hc⟩ := DataW.trod_array Tryd.underlying43 h
  rw [show Tryd.prog.cellsOf 43 = 32 from by kernel_rfl] at hl
  rw [show Tryd.prog.cellsOf 5 = 1 from by kernel_rfl] at hc
  have key : ∀ i (hi : i < cs.length), cs[i] = u8 (natOf cs[i]) ∧ natOf cs[i] < 256 := by
    intro i hi
    have h1 := hc i (by omega)
    rw [Nat.mul_one, List.getElem?_eq_getElem (by omega)] at h1
    obtain ⟨n, e, _, hw⟩ := DataW.trod_int Tryd.underlying5 h1
    rw [List.drop_eq_getElem_cons hi, List.take_succ_cons, List.take_zero] at e
    simp only [List.cons.injEq, and_true] at e
    have := byte_of_wf hw
    rw [e]
    refine ⟨?_, ?_⟩
    · simp [u8, natOf]; omega
    · simp [natOf]; omega
  refine ⟨cs.map natOf, ?_, by simp [hl], ?_⟩
  · rw [List.map_map]
    refine List.ext_getElem (by simp) fun i h1 h2 => ?_
    rw [List.getElem_map]
    exact (key i h1).1
  · intro y hy
    obtain ⟨v, hv, rfl⟩ := List.mem_map.1 hy
    obtain ⟨i, hi, rfl⟩ := List.getElem_of_mem hv
    exact (key i hi).2
set_option maxRecDepth 100000 in
theorem open_digv {b0 : Nat} {v : Value} {d : DataW H} {ps : List MemPlace} (hv : Value.okWide Tryd.prog W .any b0 43 v) (h : DataW.Trod enc Tryd.prog W 0 (fun _ => true) true 43 v d ps) :
    ∃ l : List Nat, v = .agg (brow l) ∧ l.length = 32 ∧ ∀ y ∈ l, y < 256 := by
  unfold Value.okWide at hv
  rw [Tryd.underlying43] at hv
  obtain ⟨cs, rfl, _, _⟩ := hv
  obtain ⟨fuel, hf⟩ := h
  obtain ⟨l, e, h1, h2⟩ := open_dig hf
  refine ⟨l, ?_, h1, h2⟩
  simp only [Value.cells] at e
  unfold brow
  rw [← e]
end
end Go.Proofs.YtcijeplafknokaaDoor
namespace Go.Proofs.YtcijeplafknokaaDoor
open Go.ChangeShapes Go.WideShapes Go.ChangeAt Go.RowKit Go.Deep
set_option linter.unusedVariables false
set_option linter.unusedSimpArgs false
section
variable {H : Type} {enc : TypeId × Value → H} {W : World}

/-- Digests that came in. -/
theorem open_digs2 {fuel : Nat} {cs : List Value} {x : DataW H × List MemPlace} (h : DataW.trod enc Tryd.prog W 0 (fun _ => true) true fuel 32 cs = some x) (hB : Rows.uptoBulk x.1 ≤ 1048576) :
    ∃ v ds, cs = [v] ∧ RdD W v ds ∧ ds.length ≤ 1048576 := by
  rcases open_slice Tryd.underlying32 h with ⟨rfl, rfl⟩ | ⟨a, len, cap, m, n, D, Pl, rfl, _, hl, hm, hmm, rfl, hx⟩
  · exact ⟨_, [], rfl, ⟨none, 0, 0, rfl, rfl, Nat.le_refl _, by omega, fun d hd => by simp at hd, fun h => by omega⟩, by simp⟩
  · have hC : Tryd.prog.cellsOf 43 = 32 := by kernel_rfl
    rw [hC] at hx
    simp only [if_true] at hmm
    simp only [Rows.uptoBulk] at hB
    have hcap : cap ≤ 1048576 := by
      have h1 := bulk_len ((List.range len).map D)
      have h2 := bulk_len ((List.range (m - len)).map fun j => D (len + j))
      simp at h1 h2
      omega
    obtain ⟨f, hf⟩ := choose_lt (α := List Nat) (n := len) (p := fun i o => (∀ j v, (o.map u8)[j]? = some v → W.cell? ((a.add (i * 32)).add j) = some v) ∧ o.length = 32 ∧ ∀ y ∈ o, y < 256) (by
      intro i hi
      obtain ⟨cs', h1, h2⟩ := hx i (by omega)
      obtain ⟨l, rfl, hl1, hl2⟩ := open_dig h2
      obtain ⟨_, hlen, hc⟩ := World.cells?_some h1
      refine ⟨l, fun j v hv => ?_, hl1, hl2⟩
      have hj := (List.getElem?_eq_some_iff.1 hv).1
      have := hc j (by rw [List.length_map] at hj; omega)
      rw [this, ← hv, List.getElem?_eq_getElem hj])
    refine ⟨_, (List.range len).map f, rfl, ⟨some a, len, cap, rfl, by simp, hl, by omega, ?_, ?_⟩, by simp; omega⟩
    · intro d hd
      obtain ⟨i, hi, rfl⟩ := List.mem_map.1 hd
      exact (hf i (List.mem_range.1 hi)).2
    · intro hp
      obtain ⟨b, off, spot⟩ := a
      have h0 := hf 0 hp
      have hc0 := h0.1 0 (u8 ((f 0).getD 0 0)) (by rw [List.getElem?_map, List.getD_eq_getElem?_getD, List.getElem?_eq_getElem (by omega)]; rfl)
      have hspot : spot = none := by simpa [Addr.add] using World.cell?_spot hc0
      subst hspot
      refine ⟨b, off, rfl, fun i hi j v hv => ?_⟩
      have e9 : ((List.range len).map f).getD i [] = f i := by simp [List.getD_eq_getElem?_getD, hi]
      rw [e9] at hv
      have := (hf i hi).1 j v hv
      rw [Addr.add_mid, Addr.add_mid] at this
      exact this

/-- Numbers of 64 bits that came in. -/
theorem open_u64s {fuel : Nat} {cs : List Value} {x : DataW H × List MemPlace} (h : DataW.trod enc Tryd.prog W 0 (fun _ => true) true fuel 39 cs = some x) :
    ∃ v ws, cs = [v] ∧ RdQ W v ws := by
  rcases open_ints Tryd.underlying39 Tryd.underlying46 (by kernel_rfl) h with ⟨rfl, rfl⟩ | ⟨a, len, cap, zs, rfl, _, hl, hm, hz, rfl, hcell, hwz⟩
  · exact ⟨_, [], rfl, ⟨none, 0, 0, rfl, rfl, Nat.le_refl _, by omega, by simp, fun h => by omega⟩⟩
  · have hbl : ((zs.take len).map Int.toNat).length = len := by simp at hz; simp; omega
    have hwf : ∀ y ∈ zs, 0 ≤ y ∧ y < 18446744073709551616 := by
      intro y hy
      have h9 := hwz y hy
      simp [Lit.wf, IntKind.min, IntKind.max, IntKind.signed, IntKind.bits] at h9
      omega
    refine ⟨_, (zs.take len).map Int.toNat, rfl, ⟨_, _, _, rfl, hbl, hl, by unfold maxLen at hm; omega, ?_, ?_⟩⟩
    · intro y hy
      obtain ⟨u, hu, rfl⟩ := List.mem_map.1 hy
      have := hwf u (List.mem_of_mem_take hu)
      omega
    · intro hp
      simp at hz
      have hc0 := hcell 0 (by omega)
      obtain ⟨b, off, spot⟩ := a
      have hspot : spot = none := by simpa [Addr.add] using World.cell?_spot hc0
      subst hspot
      refine ⟨b, off, rfl, fun i hi => ?_⟩
      have hc := hcell i (by omega)
      have hzi : i < zs.length := by omega
      have hzm := hwf (zs[i]) (List.getElem_mem hzi)
      rw [Addr.add_mid] at hc
      rw [hc]
      simp [List.getD_eq_getElem?_getD, List.getElem?_take, hi, hzi]
      omega
end
end Go.Proofs.YtcijeplafknokaaDoor
