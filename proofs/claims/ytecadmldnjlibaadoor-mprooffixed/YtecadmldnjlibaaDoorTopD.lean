import Derived.Test.YtecadmldnjlibaaDoorRowz
import Derived.Deep.RegionHeld3
import Derived.Test.YtecadmldnjlibaaDoorTopC
import Derived.Test.YtecadmldnjlibaaDoorTopA
import Derived.Test.YtecadmldnjlibaaDoorTopB
import Derived.Test.YtecadmldnjlibaaDoorMTMath
/-
  Laws for drawn regions, by genreg.py. No program.
-/
namespace Go.Proofs.YtecadmldnjlibaaDoor
open Go Go.RowKit Go.BigFrame
set_option linter.unusedVariables false
set_option linter.unusedSimpArgs false
section
variable {P : Program} {Q : Exit → Act → World → Prop}
theorem wp_ap16 {id : Nat} {o0 o1 o2 o3 o4 o5 o6 o7 o8 o9 o10 o11 o12 o13 o14 o15 : Oper} {a : Act} {w : World} (hm : P.follows .mixedOrders = true) (hs : Region.noSelect #[o0, o1, o2, o3, o4, o5, o6, o7, o8, o9, o10, o11, o12, o13, o14, o15] = true)
    (f0 : Region.free .any #[o0, o1, o2, o3, o4, o5, o6, o7, o8, o9, o10, o11, o12, o13, o14, o15] #[false, false, false, false, false, false, false, false, false, false, false, false, false, false, false, false] 0 = true) (r0 : (Region.ready .any #[o0, o1, o2, o3, o4, o5, o6, o7, o8, o9, o10, o11, o12, o13, o14, o15] #[false, false, false, false, false, false, false, false, false, false, false, false, false, false, false, false]).contains 0 = true)
    (f1 : Region.free .any #[o0, o1, o2, o3, o4, o5, o6, o7, o8, o9, o10, o11, o12, o13, o14, o15] #[true, false, false, false, false, false, false, false, false, false, false, false, false, false, false, false] 1 = true) (r1 : (Region.ready .any #[o0, o1, o2, o3, o4, o5, o6, o7, o8, o9, o10, o11, o12, o13, o14, o15] #[true, false, false, false, false, false, false, false, false, false, false, false, false, false, false, false]).contains 1 = true)
    (f2 : Region.free .any #[o0, o1, o2, o3, o4, o5, o6, o7, o8, o9, o10, o11, o12, o13, o14, o15] #[true, true, false, false, false, false, false, false, false, false, false, false, false, false, false, false] 2 = true) (r2 : (Region.ready .any #[o0, o1, o2, o3, o4, o5, o6, o7, o8, o9, o10, o11, o12, o13, o14, o15] #[true, true, false, false, false, false, false, false, false, false, false, false, false, false, false, false]).contains 2 = true)
    (f3 : Region.free .any #[o0, o1, o2, o3, o4, o5, o6, o7, o8, o9, o10, o11, o12, o13, o14, o15] #[true, true, true, false, false, false, false, false, false, false, false, false, false, false, false, false] 3 = true) (r3 : (Region.ready .any #[o0, o1, o2, o3, o4, o5, o6, o7, o8, o9, o10, o11, o12, o13, o14, o15] #[true, true, true, false, false, false, false, false, false, false, false, false, false, false, false, false]).contains 3 = true)
    (f4 : Region.free .any #[o0, o1, o2, o3, o4, o5, o6, o7, o8, o9, o10, o11, o12, o13, o14, o15] #[true, true, true, true, false, false, false, false, false, false, false, false, false, false, false, false] 4 = true) (r4 : (Region.ready .any #[o0, o1, o2, o3, o4, o5, o6, o7, o8, o9, o10, o11, o12, o13, o14, o15] #[true, true, true, true, false, false, false, false, false, false, false, false, false, false, false, false]).contains 4 = true)
    (f5 : Region.free .any #[o0, o1, o2, o3, o4, o5, o6, o7, o8, o9, o10, o11, o12, o13, o14, o15] #[true, true, true, true, true, false, false, false, false, false, false, false, false, false, false, false] 5 = true) (r5 : (Region.ready .any #[o0, o1, o2, o3, o4, o5, o6, o7, o8, o9, o10, o11, o12, o13, o14, o15] #[true, true, true, true, true, false, false, false, false, false, false, false, false, false, false, false]).contains 5 = true)
    (f6 : Region.free .any #[o0, o1, o2, o3, o4, o5, o6, o7, o8, o9, o10, o11, o12, o13, o14, o15] #[true, true, true, true, true, true, false, false, false, false, false, false, false, false, false, false] 6 = true) (r6 : (Region.ready .any #[o0, o1, o2, o3, o4, o5, o6, o7, o8, o9, o10, o11, o12, o13, o14, o15] #[true, true, true, true, true, true, false, false, false, false, false, false, false, false, false, false]).contains 6 = true)
    (f7 : Region.free .any #[o0, o1, o2, o3, o4, o5, o6, o7, o8, o9, o10, o11, o12, o13, o14, o15] #[true, true, true, true, true, true, true, false, false, false, false, false, false, false, false, false] 7 = true) (r7 : (Region.ready .any #[o0, o1, o2, o3, o4, o5, o6, o7, o8, o9, o10, o11, o12, o13, o14, o15] #[true, true, true, true, true, true, true, false, false, false, false, false, false, false, false, false]).contains 7 = true)
    (f8 : Region.free .any #[o0, o1, o2, o3, o4, o5, o6, o7, o8, o9, o10, o11, o12, o13, o14, o15] #[true, true, true, true, true, true, true, true, false, false, false, false, false, false, false, false] 8 = true) (r8 : (Region.ready .any #[o0, o1, o2, o3, o4, o5, o6, o7, o8, o9, o10, o11, o12, o13, o14, o15] #[true, true, true, true, true, true, true, true, false, false, false, false, false, false, false, false]).contains 8 = true)
    (f9 : Region.free .any #[o0, o1, o2, o3, o4, o5, o6, o7, o8, o9, o10, o11, o12, o13, o14, o15] #[true, true, true, true, true, true, true, true, true, false, false, false, false, false, false, false] 9 = true) (r9 : (Region.ready .any #[o0, o1, o2, o3, o4, o5, o6, o7, o8, o9, o10, o11, o12, o13, o14, o15] #[true, true, true, true, true, true, true, true, true, false, false, false, false, false, false, false]).contains 9 = true)
    (f10 : Region.free .any #[o0, o1, o2, o3, o4, o5, o6, o7, o8, o9, o10, o11, o12, o13, o14, o15] #[true, true, true, true, true, true, true, true, true, true, false, false, false, false, false, false] 10 = true) (r10 : (Region.ready .any #[o0, o1, o2, o3, o4, o5, o6, o7, o8, o9, o10, o11, o12, o13, o14, o15] #[true, true, true, true, true, true, true, true, true, true, false, false, false, false, false, false]).contains 10 = true)
    (f11 : Region.free .any #[o0, o1, o2, o3, o4, o5, o6, o7, o8, o9, o10, o11, o12, o13, o14, o15] #[true, true, true, true, true, true, true, true, true, true, true, false, false, false, false, false] 11 = true) (r11 : (Region.ready .any #[o0, o1, o2, o3, o4, o5, o6, o7, o8, o9, o10, o11, o12, o13, o14, o15] #[true, true, true, true, true, true, true, true, true, true, true, false, false, false, false, false]).contains 11 = true)
    (q_ : Region.ready .any #[o0, o1, o2, o3, o4, o5, o6, o7, o8, o9, o10, o11, o12, o13, o14, o15] #[true, true, true, true, true, true, true, true, true, true, true, true, false, false, false, false] = [12])
    (f_12_13 : Region.free .any #[o0, o1, o2, o3, o4, o5, o6, o7, o8, o9, o10, o11, o12, o13, o14, o15] #[true, true, true, true, true, true, true, true, true, true, true, true, true, false, false, false] 13 = true) (r_12_13 : (Region.ready .any #[o0, o1, o2, o3, o4, o5, o6, o7, o8, o9, o10, o11, o12, o13, o14, o15] #[true, true, true, true, true, true, true, true, true, true, true, true, true, false, false, false]).contains 13 = true)
    (q12_ : Region.ready .any #[o0, o1, o2, o3, o4, o5, o6, o7, o8, o9, o10, o11, o12, o13, o14, o15] #[true, true, true, true, true, true, true, true, true, true, true, true, true, true, false, false] = [14])
    (f12_14_15 : Region.free .any #[o0, o1, o2, o3, o4, o5, o6, o7, o8, o9, o10, o11, o12, o13, o14, o15] #[true, true, true, true, true, true, true, true, true, true, true, true, true, true, true, false] 15 = true) (r12_14_15 : (Region.ready .any #[o0, o1, o2, o3, o4, o5, o6, o7, o8, o9, o10, o11, o12, o13, o14, o15] #[true, true, true, true, true, true, true, true, true, true, true, true, true, true, true, false]).contains 15 = true)
    (q12_14_ : Region.ready .any #[o0, o1, o2, o3, o4, o5, o6, o7, o8, o9, o10, o11, o12, o13, o14, o15] #[true, true, true, true, true, true, true, true, true, true, true, true, true, true, true, true] = [])
    (g12 : o12.guard = none)    (g14 : o14.guard = none)
    (v0 v1 v2 v3 v4 v5 v6 v7 v8 v9 v10 v11 : Value) (A0 A1 A2 A3 A4 A5 A6 A7 A8 A9 A10 A11 : Act)
    (S : World → Prop)
    (I_ : World → Prop)
    (I12_ : Value → World → Prop)
    (I12_14_ : Value → Value → World → Prop)
    (v13 : Value → Value)
    (v15 : Value → Value)
    (p0 : a.put o0.dst v0 = A0) (hy0 : YieldsIf P #[o0, o1, o2, o3, o4, o5, o6, o7, o8, o9, o10, o11, o12, o13, o14, o15] S o0 v0 a)
    (p1 : A0.put o1.dst v1 = A1) (hy1 : YieldsIf P #[o0, o1, o2, o3, o4, o5, o6, o7, o8, o9, o10, o11, o12, o13, o14, o15] S o1 v1 A0)
    (p2 : A1.put o2.dst v2 = A2) (hy2 : YieldsIf P #[o0, o1, o2, o3, o4, o5, o6, o7, o8, o9, o10, o11, o12, o13, o14, o15] S o2 v2 A1)
    (p3 : A2.put o3.dst v3 = A3) (hy3 : YieldsIf P #[o0, o1, o2, o3, o4, o5, o6, o7, o8, o9, o10, o11, o12, o13, o14, o15] S o3 v3 A2)
    (p4 : A3.put o4.dst v4 = A4) (hy4 : YieldsIf P #[o0, o1, o2, o3, o4, o5, o6, o7, o8, o9, o10, o11, o12, o13, o14, o15] S o4 v4 A3)
    (p5 : A4.put o5.dst v5 = A5) (hy5 : YieldsIf P #[o0, o1, o2, o3, o4, o5, o6, o7, o8, o9, o10, o11, o12, o13, o14, o15] S o5 v5 A4)
    (p6 : A5.put o6.dst v6 = A6) (hy6 : YieldsIf P #[o0, o1, o2, o3, o4, o5, o6, o7, o8, o9, o10, o11, o12, o13, o14, o15] S o6 v6 A5)
    (p7 : A6.put o7.dst v7 = A7) (hy7 : YieldsIf P #[o0, o1, o2, o3, o4, o5, o6, o7, o8, o9, o10, o11, o12, o13, o14, o15] S o7 v7 A6)
    (p8 : A7.put o8.dst v8 = A8) (hy8 : YieldsIf P #[o0, o1, o2, o3, o4, o5, o6, o7, o8, o9, o10, o11, o12, o13, o14, o15] S o8 v8 A7)
    (p9 : A8.put o9.dst v9 = A9) (hy9 : YieldsIf P #[o0, o1, o2, o3, o4, o5, o6, o7, o8, o9, o10, o11, o12, o13, o14, o15] S o9 v9 A8)
    (p10 : A9.put o10.dst v10 = A10) (hy10 : YieldsIf P #[o0, o1, o2, o3, o4, o5, o6, o7, o8, o9, o10, o11, o12, o13, o14, o15] S o10 v10 A9)
    (p11 : A10.put o11.dst v11 = A11) (hy11 : YieldsIf P #[o0, o1, o2, o3, o4, o5, o6, o7, o8, o9, o10, o11, o12, o13, o14, o15] S o11 v11 A10)
    (i0 : I_ w.drew)
    (hIS : (∀ w', I_  w' → S w') ∧ (∀ (u12 : Value) w', I12_ u12 w' → S w') ∧ (∀ (u12 u14 : Value) w', I12_14_ u12 u14 w' → S w'))
    (s_12 : ∀ w', I_  w' → ∀ K : Act → World → Prop, (∀ (u12 : Value) w2, I12_ u12 w2 → K (A11.put o12.dst u12) w2) → o12.wp P A11 w' K (NoPanic Q))
    (s12_14 : ∀ (u12 : Value) w', I12_ u12 w' → ∀ K : Act → World → Prop, (∀ (u14 : Value) w2, I12_14_ u12 u14 w2 → K (((A11.put o12.dst u12).put o13.dst (v13 u12)).put o14.dst u14) w2) → o14.wp P ((A11.put o12.dst u12).put o13.dst (v13 u12)) w' K (NoPanic Q))
    (y_12_13 : ∀ (u12 : Value) w', I12_ u12 w' → YieldsIf P #[o0, o1, o2, o3, o4, o5, o6, o7, o8, o9, o10, o11, o12, o13, o14, o15] S o13 (v13 u12) (A11.put o12.dst u12))
    (y12_14_15 : ∀ (u12 u14 : Value) w', I12_14_ u12 u14 w' → YieldsIf P #[o0, o1, o2, o3, o4, o5, o6, o7, o8, o9, o10, o11, o12, o13, o14, o15] S o15 (v15 u14) (((A11.put o12.dst u12).put o13.dst (v13 u12)).put o14.dst u14))
    (h : ∀ (u12 u14 : Value) w', I12_14_ u12 u14 w' → Q .normal ((((A11.put o12.dst u12).put o13.dst (v13 u12)).put o14.dst u14).put o15.dst (v15 u14)) w') :
    (Code.region id #[o0, o1, o2, o3, o4, o5, o6, o7, o8, o9, o10, o11, o12, o13, o14, o15] true).wp P Q a w := by
  subst p0 p1 p2 p3 p4 p5 p6 p7 p8 p9 p10 p11
  obtain ⟨z_, z12_, z12_14_⟩ := hIS
  refine wp_region_noPanic ?_
  refine wp_region_held_drew (S := S) hm (z_ _ i0) (fun hH => ?_)
  show wpAnyH P .any #[o0, o1, o2, o3, o4, o5, o6, o7, o8, o9, o10, o11, o12, o13, o14, o15] (NoPanic Q) S 16 #[false, false, false, false, false, false, false, false, false, false, false, false, false, false, false, false] a w.drew
  refine wpAnyH_take (i := 0) (oi := o0) rfl hs f0 r0 (fun _ _ _ h => h) hy0 hH ?_
  refine wpAnyH_take (i := 1) (oi := o1) rfl hs f1 r1 (fun _ _ _ h => h) hy1 hH ?_
  refine wpAnyH_take (i := 2) (oi := o2) rfl hs f2 r2 (fun _ _ _ h => h) hy2 hH ?_
  refine wpAnyH_take (i := 3) (oi := o3) rfl hs f3 r3 (fun _ _ _ h => h) hy3 hH ?_
  refine wpAnyH_take (i := 4) (oi := o4) rfl hs f4 r4 (fun _ _ _ h => h) hy4 hH ?_
  refine wpAnyH_take (i := 5) (oi := o5) rfl hs f5 r5 (fun _ _ _ h => h) hy5 hH ?_
  refine wpAnyH_take (i := 6) (oi := o6) rfl hs f6 r6 (fun _ _ _ h => h) hy6 hH ?_
  refine wpAnyH_take (i := 7) (oi := o7) rfl hs f7 r7 (fun _ _ _ h => h) hy7 hH ?_
  refine wpAnyH_take (i := 8) (oi := o8) rfl hs f8 r8 (fun _ _ _ h => h) hy8 hH ?_
  refine wpAnyH_take (i := 9) (oi := o9) rfl hs f9 r9 (fun _ _ _ h => h) hy9 hH ?_
  refine wpAnyH_take (i := 10) (oi := o10) rfl hs f10 r10 (fun _ _ _ h => h) hy10 hH ?_
  refine wpAnyH_take (i := 11) (oi := o11) rfl hs f11 r11 (fun _ _ _ h => h) hy11 hH ?_
  generalize ((((((((((((a.put o0.dst v0).put o1.dst v1).put o2.dst v2).put o3.dst v3).put o4.dst v4).put o5.dst v5).put o6.dst v6).put o7.dst v7).put o8.dst v8).put o9.dst v9).put o10.dst v10).put o11.dst v11) = B at *
  have wa12 : ∀ y, Region.wanted o12 y = true := fun y => by unfold Region.wanted; rw [g12]
  have wa14 : ∀ y, Region.wanted o14 y = true := fun y => by unfold Region.wanted; rw [g14]
  have t12_14_ : ∀ (u12 u14 : Value) w', I12_14_ u12 u14 w' → wpAnyH P .any #[o0, o1, o2, o3, o4, o5, o6, o7, o8, o9, o10, o11, o12, o13, o14, o15] (NoPanic Q) S 0 #[true, true, true, true, true, true, true, true, true, true, true, true, true, true, true, true] ((((B.put o12.dst u12).put o13.dst (v13 u12)).put o14.dst u14).put o15.dst (v15 u14)) w' := by
    intro u12 u14 w0 i0
    exact ⟨q12_14_, NoPanic.normal (h u12 u14 w0 i0)⟩
  have t12_ : ∀ (u12 : Value) w', I12_ u12 w' → wpAnyH P .any #[o0, o1, o2, o3, o4, o5, o6, o7, o8, o9, o10, o11, o12, o13, o14, o15] (NoPanic Q) S 2 #[true, true, true, true, true, true, true, true, true, true, true, true, true, true, false, false] ((B.put o12.dst u12).put o13.dst (v13 u12)) w' := by
    intro u12 w0 i0
    refine wpAnyH_ready (rs := [14]) q12_ (by simp) (AllReadyH.cons (o := o14) rfl (fun K hK => ?_) AllReadyH.nil)
    · rw [if_pos (wa14 _)]
      refine s12_14 u12 w0 i0 K (fun u14 w1 i1 => hK.out _ _ (z12_14_ u12 u14 w1 i1) (fun _ => ?_))
      clear hK
      refine wpAnyH_take (i := 15) (oi := o15) rfl hs f12_14_15 r12_14_15 (fun _ _ _ h => h) (y12_14_15 u12 u14 w1 i1) (z12_14_ u12 u14 w1 i1) ?_
      exact t12_14_ u12 u14 w1 i1
  have t_ : ∀ w', I_  w' → wpAnyH P .any #[o0, o1, o2, o3, o4, o5, o6, o7, o8, o9, o10, o11, o12, o13, o14, o15] (NoPanic Q) S 4 #[true, true, true, true, true, true, true, true, true, true, true, true, false, false, false, false] B w' := by
    intro w0 i0
    refine wpAnyH_ready (rs := [12]) q_ (by simp) (AllReadyH.cons (o := o12) rfl (fun K hK => ?_) AllReadyH.nil)
    · rw [if_pos (wa12 _)]
      refine s_12  w0 i0 K (fun u12 w1 i1 => hK.out _ _ (z12_ u12 w1 i1) (fun _ => ?_))
      clear hK
      refine wpAnyH_take (i := 13) (oi := o13) rfl hs f_12_13 r_12_13 (fun _ _ _ h => h) (y_12_13 u12 w1 i1) (z12_ u12 w1 i1) ?_
      exact t12_ u12 w1 i1
  exact t_ w.drew i0

end
end Go.Proofs.YtecadmldnjlibaaDoor
namespace Go.Proofs.YtecadmldnjlibaaDoor
open Go.RowKit Go.BigFrame
set_option linter.unusedVariables false
set_option linter.unusedSimpArgs false

theorem appendT_nil (lv : Value) (w : World) : Calls Tryd.prog 12 #[.pointer none, lv] w fun e w' => e = .returned (.tuple #[.pointer none, .int .i64 5]) ∧ w' = w := by
  go_enter Tryd.func12, Tryd.ntmps12
  go_wp2
  exact bodyPost_ret (results_tmp2 rfl _ _ _) rfl ⟨rfl, rfl⟩

/-- What Append answers. -/
def AppD (z : Int) (ps : List Pk) (ls : List (List Nat)) (w : World) (e : Ending) (w' : World) : Prop :=
  (ls.all (formB z) = true → ∃ t' v' qs, e = .returned (.tuple #[.pointer (some ⟨t', 0, none⟩), .int .i64 0]) ∧ w.heap.size ≤ t' ∧ TreeAt z w' t' v' qs ∧ leavesK qs = leavesK ps ++ ls ∧ (qs = [] → v' = .slice none 0 0)) ∧
  (ls.all (formB z) = false → e = .returned (.tuple #[.pointer none, .int .i64 3])) ∧ Kept [] w w'
/-- What Append answers, and that its peaks lie in new memory of their own. -/
def AppO (z : Int) (ps : List Pk) (ls : List (List Nat)) (w : World) (e : Ending) (w' : World) : Prop :=
  (ls.all (formB z) = true → ∃ t' v' qs, e = .returned (.tuple #[.pointer (some ⟨t', 0, none⟩), .int .i64 0]) ∧ w.heap.size ≤ t' ∧ TreeAt z w' t' v' qs ∧ leavesK qs = leavesK ps ++ ls ∧ (qs = [] → v' = .slice none 0 0) ∧ w'.ownsRow w.heap.size 75 33 v' qs.length (cellsK qs)) ∧
  (ls.all (formB z) = false → e = .returned (.tuple #[.pointer none, .int .i64 3])) ∧ Kept [] w w'

set_option maxRecDepth 100000 in
set_option maxHeartbeats 1000000 in
theorem appendT_own (z : Int) (t : Nat) (v lv : Value) (ps : List Pk) (ls : List (List Nat)) (w : World) (h : TreeAt z w t v ps) (hnil : ps = [] → v = .slice none 0 0) (hl : RdD w lv ls) (hN : (leavesK ps).length + ls.length ≤ 1000000000) (hT : Tabs w) (h6 : Tab6 w) :
    Calls Tryd.prog 12 #[.pointer (some ⟨t, 0, none⟩), lv] w (AppO z ps ls w) := by
  have hz : 1 ≤ z ∧ z ≤ 32 := by simpa [widthB] using h.wid
  have hz2 : -9223372036854775808 ≤ z ∧ z ≤ 9223372036854775807 := by omega
  have HT := hide h
  have HL := hide hl
  obtain ⟨ao, len, cap, rfl, h1, h2, h3, h4, h5⟩ := hl
  subst h1
  clear h4 h5 h
  have cz := cell_of_row _ _ 0 _ _ _ (unhide HT).row
  simp at cz
  have HTB := hide hT
  have H6B := hide h6
  have HNL := hide hnil
  clear hT h6 hnil
  go_enter Tryd.func12, Tryd.ntmps12
  go_wp2_with fail
  go_loopw [15] (fun t15 wr => ∃ (i : Nat), i ≤ ls.length ∧ t15 = .int .i64 i ∧ Hid ((ls.take i).all (formB z) = true) ∧ Hid (Kept [] w wr)) (fun t _ => ls.length - (intOf t).toNat)
  case atStart => exact ⟨0, Nat.zero_le _, rfl, hide (by simp), hide (Kept.refl _ _)⟩
  case round =>
    obtain ⟨j, hj, rfl, HAJ, HKJ⟩ := hrel
    by_cases hjl : j < ls.length
    · have hjl' : (j : Int) < ls.length := by omega
      obtain ⟨ra, rl, rc, re, r1, r2, r3, r4, r5⟩ := unhide HL
      cases re
      obtain ⟨b, o, rfl, hcell⟩ := r5 (by omega)
      have HD := hide (r4 (ls.getD j []) (by rw [List.getD_eq_getElem?_getD, List.getElem?_eq_getElem hjl]; exact List.getElem_mem hjl))
      have HRG := hide (fun u v hv => (unhide HKJ).cell (hcell j hjl u v hv) (by simp) : wr.rangeAt b (o + j * 32) ((ls.getD j []).map Go.Proofs.YtecadmldnjlibaaDoor.u8))
      have HN := hide (by rw [List.take_succ_eq_append_getElem hjl, List.all_append, unhide HAJ, List.getD_eq_getElem?_getD, List.getElem?_eq_getElem hjl]; simp : (ls.take (j + 1)).all (formB z) = formB z (ls.getD j []))
      have HM := hide (fun (h : formB z (ls.getD j []) = false) => by
        rw [List.all_eq_false]
        exact ⟨ls.getD j [], by rw [List.getD_eq_getElem?_getD, List.getElem?_eq_getElem hjl]; exact List.getElem_mem hjl, by rw [h]; decide⟩ : formB z (ls.getD j []) = false → ls.all (formB z) = false)
      clear hcell r4 r5
      obtain ⟨d, hd⟩ : ∃ d, ls.getD j [] = d := ⟨_, rfl⟩
      rw [hd] at HD HRG HN HM
      clear hd
      have hdl := (unhide HD).1
      have HSZ := hide (by rw [brow_size, hdl]; exact Tryd.size_dig : (Tryd.prog.info? 41).map (·.size) = some (brow d).size)
      have HNW := hide (setRow_heap (wr.alloc (.cells (zb 32) 41)) wr.heap.size (zb 32) (brow d) 41 (0, 0) (heap_alloc_new _ _))
      have HKN := hide (((unhide HKJ).alloc (.cells (zb 32) 41)).setRow (g := wr.heap.size) (Or.inr (unhide HKJ).size) (brow d))
      go_wp2_with (first
        | (refine wpList_load_mid rfl 41 (.tmp 17) rfl b (o + j * 32) rfl (d.map Go.Proofs.YtecadmldnjlibaaDoor.u8) _ (unhide HRG) Tryd.underlying41 rfl (by rw [List.length_map, hdl]; exact Tryd.size_dig) ?_)
        | (rw [zb32]; refine wpList_store_row rfl 41 (.tmp 7) _ rfl wr.heap.size (brow d) rfl rfl _ (zb 32) (heap_alloc_new _ _) (unhide HSZ) (by rw [zb_size, brow_size, hdl]) (brow_one _) ?_))
      obtain ⟨W, hW⟩ : ∃ W, (wr.alloc (.cells (zb 32) 41)).setRow wr.heap.size (brow d) = W := ⟨_, rfl⟩
      rw [hW] at HNW HKN ⊢
      clear hW
      have cz4 := (unhide HKN).cell cz (by simp)
      have HFO := hide (fun w' (hw' : Kept [] W w') => (form_any z d w' hz2 hdl (unhide HD).2).mono (fun e w2 (h2 : _ ∧ _) => (⟨h2.1, hw'.trans h2.2 (by simp)⟩ : _ ∧ Kept [] W w2)))
      cases hf : formB z d with
      | true =>
        rw [hf] at HN HFO
        clear hf
        have hne : ∀ p : Prop, (∀ w', Kept [] W w' → p) = p := fun p => propext ⟨fun h => h W (Kept.refl [] W), fun h _ _ => h⟩
        refine wp_region_keep (by kernel_rfl) (by kernel_rfl) ?_
        iterate 3 (go_big_quiet_step (fail))
        refine wpQuiet_val rfl (.int .i64 z) (fun w' hw' => run_load1 3 (.tmp 21) rfl ⟨t, 0, none⟩ rfl w' _ .i64 Tryd.underlying3 (hw'.cell cz4 (by simp))) ?_
        simp only [Act.put, List.setIfInBounds_toArray, List.set_cons_succ, List.set_cons_zero]
        refine wpQuiet_row rfl 41 (.tmp 7) rfl wr.heap.size rfl _ (brow d) (0, 0) _ (fun w' hw' => hw'.heap (unhide HNW) (by simp)) Tryd.underlying41 rfl (unhide HSZ) ?_
        simp only [Act.put, List.setIfInBounds_toArray, List.set_cons_succ, List.set_cons_zero]
        go_big_quiet_want
        go_big_quiet_op
        apply Exists.intro
        refine ⟨fun w' hw' => ?_, ?_⟩
        · exact unhide HFO w' hw'
        go_big_quiet_on
        repeat (go_big_quiet_step (fail))
        refine wpQuiet_nil ?_
        intro w6 hw6
        have HK6 := hide ((unhide HKN).trans hw6 (by simp))
        clear hw6
        go_wp2_with fail
        refine ⟨⟨j + 1, by omega, by go_num, HN, HK6⟩, ?_⟩
        simp [intOf]; omega
      | false =>
        have HF := hide (unhide HM hf)
        rw [hf] at HFO
        clear hf
        have hne : ∀ p : Prop, (∀ w', Kept [] W w' → p) = p := fun p => propext ⟨fun h => h W (Kept.refl [] W), fun h _ _ => h⟩
        refine wp_region_keep (by kernel_rfl) (by kernel_rfl) ?_
        iterate 3 (go_big_quiet_step (fail))
        refine wpQuiet_val rfl (.int .i64 z) (fun w' hw' => run_load1 3 (.tmp 21) rfl ⟨t, 0, none⟩ rfl w' _ .i64 Tryd.underlying3 (hw'.cell cz4 (by simp))) ?_
        simp only [Act.put, List.setIfInBounds_toArray, List.set_cons_succ, List.set_cons_zero]
        refine wpQuiet_row rfl 41 (.tmp 7) rfl wr.heap.size rfl _ (brow d) (0, 0) _ (fun w' hw' => hw'.heap (unhide HNW) (by simp)) Tryd.underlying41 rfl (unhide HSZ) ?_
        simp only [Act.put, List.setIfInBounds_toArray, List.set_cons_succ, List.set_cons_zero]
        go_big_quiet_want
        go_big_quiet_op
        apply Exists.intro
        refine ⟨fun w' hw' => ?_, ?_⟩
        · exact unhide HFO w' hw'
        go_big_quiet_on
        repeat (go_big_quiet_step (fail))
        refine wpQuiet_nil ?_
        intro w6 hw6
        have HK6 := hide ((unhide HKN).trans hw6 (by simp))
        clear hw6
        go_wp2_with fail
        exact bodyPost_ret (results_tmp2 rfl _ _ _) rfl ⟨fun h => absurd h (by rw [unhide HF]; decide), fun _ => rfl, unhide HK6⟩
    · have hjl' : ¬ (j : Int) < ls.length := by omega
      have hje : j = ls.length := by omega
      subst hje
      rw [List.take_length] at HAJ
      go_wp2_with fail
      have hN0 : (leavesK ps).length ≤ 1000000000 := by omega
      obtain ⟨va, vn, vc, rfl⟩ : ∃ a n c, v = .slice a n c := by obtain ⟨a, c, h9, _⟩ := (unhide HT).rd; exact ⟨_, _, _, h9⟩
      have c0 := (unhide HKJ).cell cz (by simp)
      have c1 : wr.cell? ⟨t, 1, none⟩ = some (.int .u64 ((leavesK ps).length : Int)) := (unhide HKJ).cell (by have := cell_of_row _ _ 1 _ _ _ (unhide HT).row; simpa using this) (by simp)
      have c2 : wr.cell? ⟨t, 2, none⟩ = some (.slice va vn vc) := (unhide HKJ).cell (by have := cell_of_row _ _ 2 _ _ _ (unhide HT).row; simpa using this) (by simp)
      have hpl : ps.length ≤ 1000000000 := by
        have h8 := len_le_sum (ps.reverse.map (·.h)); rw [← leavesK_len (unhide HT).pk.ok] at h8; simp at h8; omega
      have HCL := hide (fun w' (k : Kept [] wr w') => cloneK_any z (.slice va vn vc) ps w' (((unhide HT).rd.old (unhide HKJ)).old k) (((unhide HT).pk.old (unhide HKJ)).old k) (unhide HNL) hpl)
      refine wp_ap16 (by kernel_rfl) (by kernel_rfl) (by kernel_rfl) (by kernel_rfl) (by kernel_rfl) (by kernel_rfl) (by kernel_rfl) (by kernel_rfl) (by kernel_rfl) (by kernel_rfl) (by kernel_rfl) (by kernel_rfl) (by kernel_rfl) (by kernel_rfl) (by kernel_rfl) (by kernel_rfl) (by kernel_rfl) (by kernel_rfl) (by kernel_rfl) (by kernel_rfl) (by kernel_rfl) (by kernel_rfl) (by kernel_rfl) (by kernel_rfl) (by kernel_rfl) (by kernel_rfl) (by kernel_rfl) (by kernel_rfl) (by kernel_rfl) (by kernel_rfl) (by kernel_rfl) (by kernel_rfl) (by kernel_rfl) rfl rfl
        (.pointer (some ⟨t, 0, none⟩)) (.pointer (some ⟨t, 0, none⟩)) (.pointer (some ⟨t, 0, none⟩)) (.int .i64 z) (.pointer (some ⟨t, 0, none⟩)) (.pointer (some ⟨t, 0, none⟩)) (.pointer (some ⟨t, 1, none⟩)) (.int .u64 ((leavesK ps).length : Int)) (.pointer (some ⟨t, 0, none⟩)) (.pointer (some ⟨t, 0, none⟩)) (.pointer (some ⟨t, 2, none⟩)) (.slice va vn vc) _ _ _ _ _ _ _ _ _ _ _ _
        (fun w' => Kept [] wr w')
        (fun w' => Kept [] wr w')
        (fun u w' => (∃ a n c, u = .slice a n c ∧ w'.ownsRow wr.heap.size 75 33 (.slice a n c) ps.length (cellsK ps) ∧ (ps = [] → Value.slice a n c = .slice none 0 0)) ∧ Kept [] wr w')
        (fun u x w' => (∃ a n c t', u = .slice a n c ∧ w'.ownsRow wr.heap.size 75 33 (.slice a n c) ps.length (cellsK ps) ∧ (ps = [] → Value.slice a n c = .slice none 0 0) ∧ x = .pointer (some ⟨t', 0, none⟩) ∧ wr.heap.size ≤ t' ∧ w'.heap[t']? = some (.cells #[.int .i64 z, .int .u64 ((leavesK ps).length : Int), .slice a n c] 65 (0, 0))) ∧ Kept [] wr w')
        (fun u => .agg #[.int .i64 z, .int .u64 ((leavesK ps).length : Int), u]) (fun x => x)
        (by simp only [Act.put, List.setIfInBounds_toArray, List.set_cons_zero, List.set_cons_succ]; rfl) (by exact Or.inl ⟨by rfl, fun W' hW' => by go_simp⟩)
        (by simp only [Act.put, List.setIfInBounds_toArray, List.set_cons_zero, List.set_cons_succ]; rfl) (by exact Or.inl ⟨by rfl, fun W' hW' => by go_simp⟩)
        (by simp only [Act.put, List.setIfInBounds_toArray, List.set_cons_zero, List.set_cons_succ]; rfl) (by exact Or.inl ⟨by rfl, fun W' hW' => by go_simp⟩)
        (by simp only [Act.put, List.setIfInBounds_toArray, List.set_cons_zero, List.set_cons_succ]; rfl) (by exact Or.inl ⟨by rfl, fun W' hW' => by have h9 := hW'.cell c0 (by simp); go_simp⟩)
        (by simp only [Act.put, List.setIfInBounds_toArray, List.set_cons_zero, List.set_cons_succ]; rfl) (by exact Or.inl ⟨by rfl, fun W' hW' => by go_simp⟩)
        (by simp only [Act.put, List.setIfInBounds_toArray, List.set_cons_zero, List.set_cons_succ]; rfl) (by exact Or.inl ⟨by rfl, fun W' hW' => by go_simp⟩)
        (by simp only [Act.put, List.setIfInBounds_toArray, List.set_cons_zero, List.set_cons_succ]; rfl) (by exact Or.inl ⟨by rfl, fun W' hW' => by go_simp⟩)
        (by simp only [Act.put, List.setIfInBounds_toArray, List.set_cons_zero, List.set_cons_succ]; rfl) (by exact Or.inl ⟨by rfl, fun W' hW' => by have h9 := hW'.cell c1 (by simp); go_simp⟩)
        (by simp only [Act.put, List.setIfInBounds_toArray, List.set_cons_zero, List.set_cons_succ]; rfl) (by exact Or.inl ⟨by rfl, fun W' hW' => by go_simp⟩)
        (by simp only [Act.put, List.setIfInBounds_toArray, List.set_cons_zero, List.set_cons_succ]; rfl) (by exact Or.inl ⟨by rfl, fun W' hW' => by go_simp⟩)
        (by simp only [Act.put, List.setIfInBounds_toArray, List.set_cons_zero, List.set_cons_succ]; rfl) (by exact Or.inl ⟨by rfl, fun W' hW' => by go_simp⟩)
        (by simp only [Act.put, List.setIfInBounds_toArray, List.set_cons_zero, List.set_cons_succ]; rfl) (by exact Or.inl ⟨by rfl, fun W' hW' => by have h9 := hW'.cell c2 (by simp); go_simp⟩)
        (Kept.refl [] wr).drew
        ⟨fun w' h => h, fun u w' h => h.2, fun u x w' h => h.2⟩
        (by intro w' i K hK; refine wp_callN rfl Tryd.call35 [.slice va vn vc] rfl (unhide HCL w' i) ?_; rintro e w2 ⟨v', rfl, ho, hn, k2⟩; obtain ⟨a, n, c, rfl⟩ : ∃ a n c, v' = .slice a n c := by (rcases ho.2 with ⟨h9, _⟩ | ⟨g, cp, cur, h9, _⟩ <;> exact ⟨_, _, _, h9⟩)
            exact ⟨_, rfl, hK _ _ ⟨⟨a, n, c, rfl, owns_baseK ho i.size, hn⟩, i.trans k2 (by simp)⟩⟩)
        (by
          intro u w' hh K hK
          simp only [Act.put, List.setIfInBounds_toArray, List.set_cons_zero, List.set_cons_succ] at hK ⊢
          obtain ⟨⟨a, n, c, rfl, ho, hn⟩, i⟩ := hh
          unfold Oper.wp execOp
          go_simp
          exact hK _ _ ⟨⟨a, n, c, _, rfl, ((Kept.refl [] w').alloc _).owns ho (by simp), hn, rfl, i.size, heap_alloc_new _ _⟩, i.alloc _⟩)
        (by rintro u w' ⟨⟨a, n, c, rfl, _⟩, _⟩; exact Or.inl ⟨by rfl, fun W' hW' => by unfold execOp; go_simp⟩)
        (by rintro u x w' ⟨⟨a, n, c, t', rfl, _, _, rfl, _⟩, _⟩; exact Or.inl ⟨by rfl, fun W' hW' => by go_simp⟩)
        ?_
      rintro u x Y ⟨⟨a, n, c, t', rfl, ho, hn, rfl, ht', hrow⟩, kY⟩
      simp only [Act.put, List.setIfInBounds_toArray, List.set_cons_zero, List.set_cons_succ]
      have HO := hide ho
      have HNN := hide hn
      have HRW := hide hrow
      have HKY := hide ((unhide HKJ).trans kY (by simp))
      have HPK := hide ((unhide HT).pk.old ((unhide HKJ).trans kY (by simp)))
      have hszw := (unhide HKJ).size
      clear ho hn hrow kY HCL c0 c1 c2
      go_wp2_with fail
      have HI0 := hide (⟨by simpa using unhide HRW, unhide HO, unhide HPK, by simp, unhide HNN, unhide HKY, hszw, Nat.le_trans hszw ht', by have := (unhide HO).lt; have := lt_of_block (unhide HRW); omega⟩ : AppI z ps ls w t' wr.heap.size 0 (.slice a n c) ps Y)
      have hwid := hide (unhide HT).wid
      clear HO HNN HRW HKY HPK hpl HNL
      obtain ⟨base, hbase⟩ : ∃ base, base = wr.heap.size := ⟨_, rfl⟩
      rw [← hbase] at HI0
      clear hszw ht' hbase
      go_loopw [44] (fun t44 wq => ∃ (i : Nat) (v' : Value) (qs : List Pk), i ≤ ls.length ∧ t44 = .int .i64 i ∧ Hid (AppI z ps ls w t' base i v' qs wq)) (fun t _ => ls.length - (intOf t).toNat)
      case atStart => exact ⟨0, _, _, Nat.zero_le _, rfl, HI0⟩
      case round =>
        obtain ⟨i, v', qs, hi, rfl, HI⟩ := hrel
        by_cases hil : i < ls.length
        · have hil' : (i : Int) < ls.length := by omega
          obtain ⟨ra, rl, rc, re, r1, r2, r3, r4, r5⟩ := unhide HL
          cases re
          obtain ⟨b, o, rfl, hcell⟩ := r5 (by omega)
          have hmem : ls.getD i [] ∈ ls := by rw [List.getD_eq_getElem?_getD, List.getElem?_eq_getElem hil]; exact List.getElem_mem hil
          have HD := hide (r4 (ls.getD i []) hmem)
          have HFD := hide (List.all_eq_true.1 (unhide HAJ) _ hmem)
          have HRG := hide (fun u v hv => (unhide HI).kept.cell (hcell i hil u v hv) (by simp) : wr.rangeAt b (o + i * 32) ((ls.getD i []).map Go.Proofs.YtecadmldnjlibaaDoor.u8))
          clear hcell r4 r5 hmem
          obtain ⟨d, hd⟩ : ∃ d, ls.getD i [] = d := ⟨_, rfl⟩
          have HDD := hide hd
          rw [hd] at HD HRG HFD
          clear hd
          have hdl := (unhide HD).1
          have HSZ := hide (by rw [brow_size, hdl]; exact Tryd.size_dig : (Tryd.prog.info? 41).map (·.size) = some (brow d).size)
          have HNW := hide (setRow_heap (wr.alloc (.cells (zb 32) 41)) wr.heap.size (zb 32) (brow d) 41 (0, 0) (heap_alloc_new _ _))
          have HKN := hide (((Kept.refl [] wr).alloc (.cells (zb 32) 41)).setRow (g := wr.heap.size) (Or.inr (Nat.le_refl _)) (brow d))
          go_wp2_with (first
            | (refine wpList_load_mid rfl 41 (.tmp 46) rfl b (o + i * 32) rfl (d.map Go.Proofs.YtecadmldnjlibaaDoor.u8) _ (unhide HRG) Tryd.underlying41 rfl (by rw [List.length_map, hdl]; exact Tryd.size_dig) ?_)
            | (rw [zb32]; refine wpList_store_row rfl 41 (.tmp 10) _ rfl wr.heap.size (brow d) rfl rfl _ (zb 32) (heap_alloc_new _ _) (unhide HSZ) (by rw [zb_size, brow_size, hdl]) (brow_one _) ?_)
            | (refine wpList_load_row rfl 41 (.tmp 10) rfl wr.heap.size rfl _ (brow d) (0, 0) _ (unhide HNW) Tryd.underlying41 rfl (unhide HSZ) ?_))
          obtain ⟨W, hW⟩ : ∃ W, (wr.alloc (.cells (zb 32) 41)).setRow wr.heap.size (brow d) = W := ⟨_, rfl⟩
          rw [hW] at HKN ⊢
          clear hW HNW
          refine Calls.mono (push_any z t' ((leavesK ps).length + i) base v' qs d W ((unhide HKN).heap (unhide HI).row (by simp)) ((unhide HKN).owns (unhide HI).own (by simp)) ((unhide HI).pk.old (unhide HKN)) ((unhide HI).len hi) (by omega) (Nat.le_trans (unhide HI).br (unhide HKN).size) (unhide hwid) ((unhide HI).far (unhide HTB) (unhide H6B)) ⟨hdl, (unhide HD).2⟩ (unhide HFD) ((unhide HTB).kept ((unhide HI).kept.trans (unhide HKN) (by simp)) (by simp) (by simp)) ((unhide H6B).kept ((unhide HI).kept.trans (unhide HKN) (by simp)))) ?_
          rintro e w4 ⟨rfl, hpd⟩
          obtain ⟨v2, rs, hi2⟩ := (unhide HI).step hil (unhide HKN) (by rw [unhide HDD]; exact hpd)
          have HI2 := hide hi2
          clear hpd hi2 HI HKN
          go_wp2_with fail
          refine ⟨⟨i + 1, _, _, by omega, by go_num, HI2⟩, ?_⟩
          simp [intOf]; omega
        · have hil' : ¬ (i : Int) < ls.length := by omega
          have hie : i = ls.length := by omega
          subst hie
          have HF := hide ((unhide HI).fin (unhide hwid))
          go_wp2_with fail
          exact bodyPost_ret (results_tmp2 rfl _ _ _) rfl ⟨fun _ => ⟨t', v', qs, rfl, (unhide HI).bt, (unhide HF).1, (unhide HF).2, (unhide HI).nil, owns_baseK (unhide HI).own (unhide HI).bw⟩, fun h => absurd h (by rw [unhide HAJ]; decide), (unhide HI).kept⟩

theorem appendT_any (z : Int) (t : Nat) (v lv : Value) (ps : List Pk) (ls : List (List Nat)) (w : World) (h : TreeAt z w t v ps) (hnil : ps = [] → v = .slice none 0 0) (hl : RdD w lv ls) (hN : (leavesK ps).length + ls.length ≤ 1000000000) (hT : Tabs w) (h6 : Tab6 w) :
    Calls Tryd.prog 12 #[.pointer (some ⟨t, 0, none⟩), lv] w (AppD z ps ls w) :=
  (appendT_own z t v lv ps ls w h hnil hl hN hT h6).mono fun e w' h9 => ⟨fun ha => by
    obtain ⟨t', v', qs, h1, h2, h3, h4, h5, _⟩ := h9.1 ha
    exact ⟨t', v', qs, h1, h2, h3, h4, h5⟩, h9.2⟩

end Go.Proofs.YtecadmldnjlibaaDoor
namespace Go.Proofs.YtecadmldnjlibaaDoor
open Go.RowKit Go.BigFrame
set_option linter.unusedVariables false
set_option linter.unusedSimpArgs false

def d7 : List Nat := 7 :: List.replicate 31 0
def d9 : List Nat := 9 :: List.replicate 31 0
theorem d7_dg : Dg d7 := ⟨rfl, by decide⟩
theorem d9_dg : Dg d9 := ⟨rfl, by decide⟩
theorem d79_form : [d7, d9].all (formB 1) = true := by decide +kernel
theorem rg79 : rgD 1 [d7, d9] 0 2 = nodS 1 d7 d9 := by
  unfold rgD
  rw [if_neg (by decide)]
  rw [rngD_cut (by decide) (by decide)]
  rfl

set_option maxRecDepth 100000 in
set_option maxHeartbeats 1000000 in
theorem mtawake_any (w : World) (hT : Tabs w) (h6 : Tab6 w) :
    Calls Tryd.prog 8 #[] w fun e w' => e = .returned (.bool true) ∧ Kept [] w w' := by
  have HTB := hide hT
  have H6 := hide h6
  clear hT h6
  go_enter Tryd.func8, Tryd.ntmps8
  go_wp2_with fail
  refine (newT_any 1 w (by decide)).mono ?_
  rintro e w1 ⟨t, rfl, ht, htr, k1⟩
  have HT1 := hide htr
  have HK1 := hide k1
  clear htr k1 ht
  go_wp2_with fail
  have HG := hide (heap_alloc_new w1 (.cells (d7.map Go.Proofs.YtecadmldnjlibaaDoor.u8 ++ d9.map Go.Proofs.YtecadmldnjlibaaDoor.u8).toArray 41))
  have kA := (Kept.refl [] w1).alloc (.cells (d7.map Go.Proofs.YtecadmldnjlibaaDoor.u8 ++ d9.map Go.Proofs.YtecadmldnjlibaaDoor.u8).toArray 41)
  have kB := (unhide HK1).trans kA (by simp)
  refine Calls.mono (appendT_any 1 t (.slice none 0 0) (.slice (some ⟨w1.heap.size, 0, none⟩) 2 2) [] [d7, d9] (w1.alloc (.cells (d7.map Go.Proofs.YtecadmldnjlibaaDoor.u8 ++ d9.map Go.Proofs.YtecadmldnjlibaaDoor.u8).toArray 41)) ((unhide HT1).old kA) (fun _ => rfl) (RdD.two (unhide HG) d7_dg.1 d9_dg.1 d7_dg.2 d9_dg.2) (by decide) ((unhide HTB).kept kB (by simp) (by simp)) ((unhide H6).kept kB)) ?_
  rintro e w2 ⟨ha, _, k2⟩
  obtain ⟨t2, v2, qs, rfl, ht2, htr2, hlv, _⟩ := ha d79_form
  have hlv2 : leavesK qs = [d7, d9] := hlv
  have HT2 := hide htr2
  have HT1b := hide (((unhide HT1).old kA).old k2)
  have HK2 := hide (kB.trans k2 (by simp))
  have HLV := hide hlv2
  clear htr2 k2 ha hlv hlv2 HG kA kB HK1 HT1 ht2
  have HL1 := hide (by rw [unhide HLV]; rfl : ((leavesK qs).length : Int) = 2)
  have HB := hide (by rw [unhide HLV]; decide : (leavesK qs).length < 32768)
  go_wp2_with fail
  refine (sizeT_any t2 1 v2 qs w2 (unhide HT2)).mono ?_
  rintro e _ ⟨rfl, rfl⟩
  rw [unhide HL1]
  go_wp2_with fail
  refine (sizeT_any t 1 (.slice none 0 0) [] _ (unhide HT1b)).mono ?_
  rintro e _ ⟨rfl, rfl⟩
  rw [show ((leavesK []).length : Int) = 0 from rfl]
  go_wp2_with fail
  refine (widthT_any t2 1 v2 qs _ (unhide HT2)).mono ?_
  rintro e _ ⟨rfl, rfl⟩
  go_wp2_with fail
  refine (leafT_all 1 t2 v2 qs 1 _ (unhide HT2) (unhide HB)).mono ?_
  rintro e w3 ⟨rfl, k3⟩
  rw [show lfD (leavesK qs) 1 = d9 from by rw [unhide HLV]; rfl, show lfE (leavesK qs) 1 = 0 from by rw [unhide HLV]; rfl]
  have HT3 := hide ((unhide HT2).old k3)
  have HK3 := hide ((unhide HK2).trans k3 (by simp))
  clear k3 HT2 HT1b HK2
  have HN3 := hide (cell_new w3 d9)
  have HO3 := hide (kept_old w3 d9)
  have h9l : d9.length = 32 := rfl
  go_wp2_with (rw [zb32]; refine wpList_store_row rfl 41 (.tmp 5) _ rfl w3.heap.size (brow d9) rfl rfl _ (zb 32) (heap_alloc_new _ _) (Tryd.szD h9l) rfl (brow_one _) ?_)
  obtain ⟨w4, hw4⟩ : ∃ w4, (w3.alloc (.cells (zb 32) 41)).setRow w3.heap.size (brow d9) = w4 := ⟨_, rfl⟩
  rw [hw4] at HN3 HO3 ⊢
  clear hw4
  have HT4 := hide ((unhide HT3).old (unhide HO3))
  have HK4 := hide ((unhide HK3).trans (unhide HO3) (by simp))
  refine (rootT_all 1 t2 v2 qs 2 _ (unhide HT4) (unhide HB) ((unhide HTB).kept (unhide HK4) (by simp) (by simp)) ((unhide H6).kept (unhide HK4))).mono ?_
  rintro e w5 ⟨rfl, k5⟩
  rw [show rgD 1 (leavesK qs) 0 2 = nodS 1 d7 d9 from by rw [unhide HLV]; exact rg79, show rgE (leavesK qs) 0 2 = 0 from by rw [unhide HLV]; rfl]
  have HR := hide (fun W => refNode_any 1 d7 d9 W (by omega) d7_dg d9_dg)
  have hnl := (nodS_dg 1 d7 d9).1
  have HR2 := hide (fun W => (unhide HR W : Calls Tryd.prog 30 #[.int .i64 1, .agg (brow d7), .agg (brow d9)] W fun e w' => e = .returned (.agg (brow (nodS 1 d7 d9))) ∧ Kept [] W w'))
  generalize nodS 1 d7 d9 = D at HR2 hnl ⊢
  have HN5 := hide (k5.heap (unhide HN3) (by simp))
  have HK5 := hide ((unhide HK4).trans k5 (by simp))
  clear k5 HR HN3 HO3 HT3 HT4 HK4
  have HN6 := hide (cell_new w5 D)
  have HO6 := hide (kept_old w5 D)
  go_wp2_with (rw [zb32]; refine wpList_store_row rfl 41 (.tmp 7) _ rfl w5.heap.size (brow D) rfl rfl _ (zb 32) (heap_alloc_new _ _) (Tryd.szD hnl) (by rw [zb_size, brow_size, hnl]) (brow_one _) ?_)
  obtain ⟨w6, hw6⟩ : ∃ w6, (w5.alloc (.cells (zb 32) 41)).setRow w5.heap.size (brow D) = w6 := ⟨_, rfl⟩
  rw [hw6] at HN6 HO6 ⊢
  clear hw6
  have HM6 := hide ((unhide HO6).heap (unhide HN5) (by simp))
  have HK6 := hide ((unhide HK5).trans (unhide HO6) (by simp))
  clear HN5 HK5 HO6
  have hne : ∀ p : Prop, (∀ w', Kept [] w6 w' → p) = p := fun p => propext ⟨fun h => h w6 (Kept.refl [] w6), fun h _ _ => h⟩
  refine wp_region_keep (by kernel_rfl) (by kernel_rfl) ?_
  iterate 3 (go_big_quiet_step (fail))
  have HCT := hide (fun w' (hw' : Kept [] w6 w') => (unhide HR2 w').mono (fun e w2 (h2 : _ ∧ _) => (⟨h2.1, hw'.trans h2.2 (by simp)⟩ : _ ∧ Kept [] w6 w2)))
  refine wpQuiet_row rfl 41 (.tmp 5) rfl w3.heap.size rfl _ (brow d9) (0, 0) _ (fun w' hw' => hw'.heap (unhide HM6) (by simp)) Tryd.underlying41 rfl (Tryd.szD h9l) ?_
  simp only [Act.put, List.setIfInBounds_toArray, List.set_cons_succ, List.set_cons_zero]
  go_big_quiet_step (fail)
  refine wpQuiet_val rfl (.bool true) (fun w' _ => run_eql 41 (.tmp 61) (.tmp 62) 41 rfl (brow d9) (brow d9) rfl rfl w' true (by kernel_rfl) (by rw [dig_eq w' d9 d9 rfl rfl]; simp)) ?_
  simp only [Act.put, List.setIfInBounds_toArray, List.set_cons_succ, List.set_cons_zero]
  iterate 6 (go_big_quiet_step (fail))
  refine wpQuiet_row rfl 41 (.tmp 7) rfl w5.heap.size rfl _ (brow D) (0, 0) _ (fun w' hw' => hw'.heap (unhide HN6) (by simp)) Tryd.underlying41 rfl (Tryd.szD hnl) ?_
  simp only [Act.put, List.setIfInBounds_toArray, List.set_cons_succ, List.set_cons_zero]
  iterate 2 (go_big_quiet_step (fail))
  go_big_quiet_want
  go_big_quiet_op
  apply Exists.intro
  refine ⟨fun w' hw' => ?_, ?_⟩
  · exact unhide HCT w' hw'
  go_big_quiet_on
  refine wpQuiet_val rfl (.bool true) (fun w' _ => run_eql 41 (.tmp 70) (.tmp 73) 41 rfl (brow D) (brow D) rfl rfl w' true (by kernel_rfl) (by rw [dig_eq w' D D hnl hnl]; simp)) ?_
  simp only [Act.put, List.setIfInBounds_toArray, List.set_cons_succ, List.set_cons_zero]
  repeat (go_big_quiet_step (fail))
  refine wpQuiet_nil ?_
  intro w7 hw7
  have HK7 := hide ((unhide HK6).trans hw7 (by simp))
  clear hw7 hne
  go_wp2_with fail
  go_ret
  exact ⟨rfl, unhide HK7⟩
end Go.Proofs.YtecadmldnjlibaaDoor
namespace Go.Proofs.YtecadmldnjlibaaDoor
open Go.RowKit Go.BigFrame
set_option linter.unusedVariables false
set_option linter.unusedSimpArgs false

set_option maxRecDepth 100000 in
set_option maxHeartbeats 1000000 in
theorem reads_any (k : Nat) (hk : 1 ≤ k ∧ k ≤ 32) (t : Nat) (v lv : Value) (ps : List Pk) (w : World) (hT : TreeAt k w t v ps) (hl : RdD w lv (leavesK ps)) (hb : (leavesK ps).length < 4000) (hTb : Tabs w) (h6 : Tab6 w) :
    Calls Tryd.prog 11 #[.pointer (some ⟨t, 0, none⟩), .int .i64 k, lv] w fun e w' => e = .returned (.bool true) ∧ Kept [] w w' := by
  have HT := hide hT
  have HL := hide hl
  have HTB := hide hTb
  have H6 := hide h6
  have HPK := hide hT.pk
  obtain ⟨ao, len, cap, rfl, h1, h2, h3, h4, h5⟩ := hl
  obtain ⟨n, hn⟩ : ∃ n, (leavesK ps).length = n := ⟨_, rfl⟩
  have hnl : len = n := by rw [← h1, hn]
  subst hnl
  have HN := hide hn
  rw [hn] at hb
  have hwn : IntKind.u64.wrap (len : Int) = (len : Int) := by rw [wrU]; omega
  clear h4 h5 hT hTb h6 h1 hn
  go_enter Tryd.func11, Tryd.ntmps11
  go_wp2_with (simp only [hwn])
  refine (widthT_any t k v ps w (unhide HT)).mono ?_
  rintro e _ ⟨rfl, rfl⟩
  go_wp2_with fail
  refine (sizeT_any t k v ps _ (unhide HT)).mono ?_
  rintro e w0 ⟨rfl, rfl⟩
  rw [unhide HN]
  go_wp2_with fail
  have hn2 : IntKind.u64.wrap ((len : Int) + 2) = (len : Int) + 2 := by rw [wrU]; omega
  go_loopw [8] (fun t8 wr => ∃ (i : Nat), i ≤ len + 2 ∧ t8 = .int .u64 (i : Int) ∧ Hid (Kept [] w0 wr)) (fun t _ => len + 2 - (intOf t).toNat)
  case atStart => exact ⟨0, by omega, rfl, hide (Kept.refl _ _)⟩
  case round =>
    obtain ⟨i, hi, rfl, HKR⟩ := hrel
    by_cases hlt : i < len + 2
    · have hlt' : (i : Int) < (len : Int) + 2 := by omega
      have hadd : IntKind.u64.wrap ((i : Int) + 1) = ((i + 1 : Nat) : Int) := by rw [wrU]; omega
      have hdl := (lfD_dg (unhide HPK) i).1
      have HLF := hide (fun W (kk : Kept [] w0 W) => leafT_all k t v ps i W ((unhide HT).old kk) (by rw [unhide HN]; omega))
      have HDL := hide (fun W (kk : Kept [] w0 W) => docLeaf_all (.slice ao len cap) (leavesK ps) i W ((unhide HL).old kk) (by rw [unhide HN]; omega))
      generalize lfD (leavesK ps) i = D at HLF HDL hdl
      generalize lfE (leavesK ps) i = E at HLF HDL
      have hqd : ∀ W, (Op.equalIn 10000 41 (.agg (brow D)) (.agg (brow D))).run Tryd.prog W = .ok true W := dig_same D hdl
      go_wp2_with (simp only [hn2])
      refine (unhide HLF wr (unhide HKR)).mono ?_
      rintro e w3 ⟨rfl, k3⟩
      have HK3 := hide ((unhide HKR).trans k3 (by simp))
      clear k3
      have HN3 := hide (cell_new w3 D)
      have HO3 := hide (kept_old w3 D)
      go_wp2_with (rw [zb32]; refine wpList_store_row rfl 41 (.tmp 9) _ rfl w3.heap.size (brow D) rfl rfl _ (zb 32) (heap_alloc_new _ _) (Tryd.szD hdl) (by rw [zb_size, brow_size, hdl]) (brow_one _) ?_)
      obtain ⟨w4, hw4⟩ : ∃ w4, (w3.alloc (.cells (zb 32) 41)).setRow w3.heap.size (brow D) = w4 := ⟨_, rfl⟩
      rw [hw4] at HN3 HO3 ⊢
      clear hw4
      have HK4 := hide ((unhide HK3).trans (unhide HO3) (by simp))
      refine (unhide HDL w4 (unhide HK4)).mono ?_
      rintro e w5 ⟨rfl, k5⟩
      have HN5 := hide (k5.heap (unhide HN3) (by simp))
      have HK5 := hide ((unhide HK4).trans k5 (by simp))
      clear k5 HN3 HO3 HK4 HK3
      have HN6 := hide (cell_new w5 D)
      have HO6 := hide (kept_old w5 D)
      have HM6 := hide ((unhide HO6).heap (unhide HN5) (by simp))
      have HK6 := hide ((unhide HK5).trans (unhide HO6) (by simp))
      go_wp2_with (first
        | (rw [zb32]; refine wpList_store_row rfl 41 (.tmp 11) _ rfl w5.heap.size (brow D) rfl rfl _ (zb 32) (heap_alloc_new _ _) (Tryd.szD hdl) (by rw [zb_size, brow_size, hdl]) (brow_one _) ?_)
        | (refine wpList_load_row rfl 41 (.tmp 9) rfl w3.heap.size rfl _ (brow D) (0, 0) _ (unhide HM6) Tryd.underlying41 rfl (Tryd.szD hdl) ?_)
        | (refine wpList_load_row rfl 41 (.tmp 11) rfl w5.heap.size rfl _ (brow D) (0, 0) _ (unhide HN6) Tryd.underlying41 rfl (Tryd.szD hdl) ?_))
      go_wp2_with (simp only [hadd])
      refine ⟨⟨i + 1, by omega, by simp, HK6⟩, ?_⟩
      simp [intOf]
      omega
    · have hlt' : ¬ (i : Int) < (len : Int) + 2 := by omega
      go_wp2_with (simp only [hn2])
      have HG0 := hide (heap_alloc_new wr (.cells #[.int .u64 0, .int .u64 1, .int .u64 ((len : Int) / 2), .int .u64 (IntKind.u64.wrap ((len : Int) - 1)), .int .u64 (len : Int), .int .u64 ((len : Int) + 1), .int .u64 18446744073709551615] 49))
      have HKW := hide ((unhide HKR).alloc (.cells #[.int .u64 0, .int .u64 1, .int .u64 ((len : Int) / 2), .int .u64 (IntKind.u64.wrap ((len : Int) - 1)), .int .u64 (len : Int), .int .u64 ((len : Int) + 1), .int .u64 18446744073709551615] 49))
      obtain ⟨W2, hW2⟩ : ∃ W2, wr.alloc (.cells #[.int .u64 0, .int .u64 1, .int .u64 ((len : Int) / 2), .int .u64 (IntKind.u64.wrap ((len : Int) - 1)), .int .u64 (len : Int), .int .u64 ((len : Int) + 1), .int .u64 18446744073709551615] 49) = W2 := ⟨_, rfl⟩
      rw [hW2] at HG0 HKW ⊢
      have HAT := hide (fun j (hj : j < 7) => (by
        have h9 := cell_of_row _ _ j _ _ _ (unhide HG0)
        rw [h9]
        rcases (by omega : j = 0 ∨ j = 1 ∨ j = 2 ∨ j = 3 ∨ j = 4 ∨ j = 5 ∨ j = 6) with rfl | rfl | rfl | rfl | rfl | rfl | rfl
        · exact ⟨0, rfl, by omega⟩
        · exact ⟨1, rfl, by omega⟩
        · exact ⟨len / 2, by simp, by omega⟩
        · refine ⟨(IntKind.u64.wrap ((len : Int) - 1)).toNat, ?_, ?_⟩
          · rw [wrU, Int.toNat_of_nonneg (by omega)]; rfl
          · rw [wrU]; omega
        · exact ⟨len, rfl, by omega⟩
        · exact ⟨len + 1, by simp, by omega⟩
        · exact ⟨18446744073709551615, rfl, by omega⟩ : ∃ a : Nat, W2.cell? ⟨wr.heap.size, j, none⟩ = some (.int .u64 (a : Int)) ∧ a < 18446744073709551616))
      obtain ⟨g, hg⟩ : ∃ g, wr.heap.size = g := ⟨_, rfl⟩
      rw [hg] at HAT ⊢
      clear hW2 HG0 hg HKR
      go_loopw [71] (fun t71 wq => ∃ (j : Nat), j ≤ 7 ∧ t71 = .int .i64 (j : Int) ∧ Hid (Kept [] W2 wq)) (fun t _ => 7 - (intOf t).toNat)
      case atStart => exact ⟨0, by omega, rfl, hide (Kept.refl _ _)⟩
      case round =>
        obtain ⟨j, hj, rfl, HKQ⟩ := hrel
        by_cases hjl : j < 7
        · have hjl' : (j : Int) < 7 := by omega
          obtain ⟨a, hca, ha⟩ := unhide HAT j hjl
          have hca2 := (unhide HKQ).cell hca (by simp)
          have HKR := hide (unhide HKQ)
          have hdl := (rgD_len (unhide HPK) 0 a).1
          have HLF := hide (fun W (kk : Kept [] W2 W) => rootT_all k t v ps a W ((unhide HT).old ((unhide HKW).trans kk (by simp))) (by rw [unhide HN]; omega) ((unhide HTB).kept ((unhide HKW).trans kk (by simp)) (by simp) (by simp)) ((unhide H6).kept ((unhide HKW).trans kk (by simp))))
          have HDL := hide (fun W (kk : Kept [] W2 W) => docRange_all k hk (.slice ao len cap) (leavesK ps) 0 a W ((unhide HL).old ((unhide HKW).trans kk (by simp))) (by rw [unhide HN]; omega))
          generalize rgD k (leavesK ps) 0 a = D at HLF HDL hdl
          generalize rgE (leavesK ps) 0 a = E at HLF HDL
          have hqd : ∀ W, (Op.equalIn 10000 41 (.agg (brow D)) (.agg (brow D))).run Tryd.prog W = .ok true W := dig_same D hdl
          clear hca
          go_wp2_with fail
          refine (unhide HLF wr (unhide HKR)).mono ?_
          rintro e w3 ⟨rfl, k3⟩
          have HK3 := hide ((unhide HKR).trans k3 (by simp))
          clear k3
          have HN3 := hide (cell_new w3 D)
          have HO3 := hide (kept_old w3 D)
          go_wp2_with (rw [zb32]; refine wpList_store_row rfl 41 (.tmp 15) _ rfl w3.heap.size (brow D) rfl rfl _ (zb 32) (heap_alloc_new _ _) (Tryd.szD hdl) (by rw [zb_size, brow_size, hdl]) (brow_one _) ?_)
          obtain ⟨w4, hw4⟩ : ∃ w4, (w3.alloc (.cells (zb 32) 41)).setRow w3.heap.size (brow D) = w4 := ⟨_, rfl⟩
          rw [hw4] at HN3 HO3 ⊢
          clear hw4
          have HK4 := hide ((unhide HK3).trans (unhide HO3) (by simp))
          refine (unhide HDL w4 (unhide HK4)).mono ?_
          rintro e w5 ⟨rfl, k5⟩
          have HN5 := hide (k5.heap (unhide HN3) (by simp))
          have HK5 := hide ((unhide HK4).trans k5 (by simp))
          clear k5 HN3 HO3 HK4 HK3
          have HN6 := hide (cell_new w5 D)
          have HO6 := hide (kept_old w5 D)
          have HM6 := hide ((unhide HO6).heap (unhide HN5) (by simp))
          have HK6 := hide ((unhide HK5).trans (unhide HO6) (by simp))
          go_wp2_with (first
            | (rw [zb32]; refine wpList_store_row rfl 41 (.tmp 17) _ rfl w5.heap.size (brow D) rfl rfl _ (zb 32) (heap_alloc_new _ _) (Tryd.szD hdl) (by rw [zb_size, brow_size, hdl]) (brow_one _) ?_)
            | (refine wpList_load_row rfl 41 (.tmp 15) rfl w3.heap.size rfl _ (brow D) (0, 0) _ (unhide HM6) Tryd.underlying41 rfl (Tryd.szD hdl) ?_)
            | (refine wpList_load_row rfl 41 (.tmp 17) rfl w5.heap.size rfl _ (brow D) (0, 0) _ (unhide HN6) Tryd.underlying41 rfl (Tryd.szD hdl) ?_))
          go_wp2_with fail
          refine ⟨⟨j + 1, by omega, by simp, ?_⟩, ?_⟩
          · exact HK6
          · simp [intOf]
            omega
        · have hjl' : ¬ (j : Int) < 7 := by omega
          have HKF := hide ((unhide HKW).trans (unhide HKQ) (by simp))
          go_wp2_with fail
          go_ret
          exact ⟨rfl, unhide HKF⟩
end Go.Proofs.YtecadmldnjlibaaDoor
namespace Go.Proofs.YtecadmldnjlibaaDoor
open Go.RowKit Go.BigFrame
set_option linter.unusedVariables false
set_option linter.unusedSimpArgs false

/-- Are the width and all leaves fit? -/
def fitB (z : Int) (ls : List (List Nat)) : Bool := widthB z && ls.all (formB z)

set_option maxRecDepth 100000 in
set_option maxHeartbeats 1000000 in
theorem fit_any (z : Int) (lv : Value) (ls : List (List Nat)) (w : World) (hz : -9223372036854775808 ≤ z ∧ z ≤ 9223372036854775807) (hl : RdD w lv ls) :
    Calls Tryd.prog 14 #[.int .i64 z, lv] w fun e w' => e = .returned (.bool (fitB z ls)) ∧ Kept [] w w' := by
  have HL := hide hl
  obtain ⟨ao, len, cap, rfl, h1, h2, h3, h4, h5⟩ := hl
  subst h1
  clear h4 h5
  obtain ⟨E, hE⟩ : ∃ E, fitB z ls = E := ⟨_, rfl⟩
  rw [hE]
  have HE := hide hE
  clear hE
  go_enter Tryd.func14, Tryd.ntmps14
  go_wp2_with fail
  refine (rwidth_any z w hz).mono ?_
  rintro e w0 ⟨rfl, rfl⟩
  cases hwd : widthB z with
  | false =>
    have HE1 := hide (by rw [← unhide HE]; unfold fitB; rw [hwd]; rfl : E = false)
    go_wp2_with fail
    go_ret
    exact ⟨by rw [unhide HE1]; rfl, Kept.refl _ _⟩
  | true =>
    have HWD := hide hwd
    clear hwd
    go_wp2_with fail
    go_loopw [12] (fun t12 wr => ∃ (i : Nat), i ≤ ls.length ∧ t12 = .int .i64 i ∧ Hid ((ls.take i).all (formB z) = true) ∧ Hid (Kept [] w0 wr)) (fun t _ => ls.length - (intOf t).toNat)
    case atStart => exact ⟨0, Nat.zero_le _, rfl, hide (by simp), hide (Kept.refl _ _)⟩
    case round =>
      obtain ⟨j, hj, rfl, HAJ, HKJ⟩ := hrel
      by_cases hjl : j < ls.length
      · have hjl' : (j : Int) < ls.length := by omega
        obtain ⟨ra, rl, rc, re, r1, r2, r3, r4, r5⟩ := unhide HL
        cases re
        obtain ⟨b, o, rfl, hcell⟩ := r5 (by omega)
        have HD := hide (r4 (ls.getD j []) (by rw [List.getD_eq_getElem?_getD, List.getElem?_eq_getElem hjl]; exact List.getElem_mem hjl))
        have HRG := hide (fun u v hv => (unhide HKJ).cell (hcell j hjl u v hv) (by simp) : wr.rangeAt b (o + j * 32) ((ls.getD j []).map Go.Proofs.YtecadmldnjlibaaDoor.u8))
        have HN := hide (by rw [List.take_succ_eq_append_getElem hjl, List.all_append, unhide HAJ, List.getD_eq_getElem?_getD, List.getElem?_eq_getElem hjl]; simp : (ls.take (j + 1)).all (formB z) = formB z (ls.getD j []))
        have HM := hide (fun (h : formB z (ls.getD j []) = false) => by
          have h9 : ls.all (formB z) = false := by
            rw [List.all_eq_false]
            exact ⟨ls.getD j [], by rw [List.getD_eq_getElem?_getD, List.getElem?_eq_getElem hjl]; exact List.getElem_mem hjl, by rw [h]; decide⟩
          rw [← unhide HE]; unfold fitB; rw [h9, Bool.and_false] : formB z (ls.getD j []) = false → E = false)
        clear hcell r4 r5
        obtain ⟨d, hd⟩ : ∃ d, ls.getD j [] = d := ⟨_, rfl⟩
        rw [hd] at HD HRG HN HM
        clear hd
        have hdl := (unhide HD).1
        have HSZ := hide (by rw [brow_size, hdl]; exact Tryd.size_dig : (Tryd.prog.info? 41).map (·.size) = some (brow d).size)
        have HNW := hide (setRow_heap (wr.alloc (.cells (zb 32) 41)) wr.heap.size (zb 32) (brow d) 41 (0, 0) (heap_alloc_new _ _))
        have HKN := hide (((unhide HKJ).alloc (.cells (zb 32) 41)).setRow (g := wr.heap.size) (Or.inr (unhide HKJ).size) (brow d))
        go_wp2_with (first
          | (refine wpList_load_mid rfl 41 (.tmp 14) rfl b (o + j * 32) rfl (d.map Go.Proofs.YtecadmldnjlibaaDoor.u8) _ (unhide HRG) Tryd.underlying41 rfl (by rw [List.length_map, hdl]; exact Tryd.size_dig) ?_)
          | (rw [zb32]; refine wpList_store_row rfl 41 (.tmp 6) _ rfl wr.heap.size (brow d) rfl rfl _ (zb 32) (heap_alloc_new _ _) (unhide HSZ) (by rw [zb_size, brow_size, hdl]) (brow_one _) ?_)
          | (refine wpList_load_row rfl 41 (.tmp 6) rfl wr.heap.size rfl _ (brow d) (0, 0) _ (unhide HNW) Tryd.underlying41 rfl (unhide HSZ) ?_))
        refine Calls.mono (docForm_any z d _ hz hdl (unhide HD).2) ?_
        rintro e w4 ⟨rfl, k4⟩
        have HK4 := hide ((unhide HKN).trans k4 (by simp))
        clear k4
        cases hf : formB z d with
        | true =>
          rw [hf] at HN
          clear hf
          go_wp2
          go_roundw
          case rel => exact ⟨j + 1, by omega, by go_num, HN, HK4⟩
          case measure => simp [intOf]; omega
        | false =>
          have HF := hide (unhide HM hf)
          clear hf
          go_wp2
          go_ret
          exact ⟨by rw [unhide HF]; rfl, unhide HK4⟩
      · have hjl' : ¬ (j : Int) < ls.length := by omega
        have hje : j = ls.length := by omega
        subst hje
        rw [List.take_length] at HAJ
        have HE1 := hide (by rw [← unhide HE]; unfold fitB; rw [unhide HWD, unhide HAJ]; rfl : E = true)
        go_wp2
        go_ret
        exact ⟨by rw [unhide HE1]; rfl, unhide HKJ⟩

theorem newT_all (z : Int) (w : World) :
    Calls Tryd.prog 9 #[.int .i64 z] w fun e w' => ∃ p er, e = .returned (.tuple #[.pointer p, .int .i64 er]) ∧ (widthB z = true → ∃ t, p = some ⟨t, 0, none⟩ ∧ TreeAt z w' t (.slice none 0 0) []) ∧ Kept [] w w' := by
  cases hw : widthB z with
  | false => exact (newT_bad z w hw).mono fun e w' h => ⟨_, _, h.1, fun h9 => by simp at h9, h.2⟩
  | true => exact (newT_any z w hw).mono fun e w' ⟨t, h1, _, h2, h3⟩ => ⟨_, _, h1, fun _ => ⟨t, rfl, h2⟩, h3⟩

/-- What grown answers. -/
def GrD (z : Int) (ls : List (List Nat)) (w : World) (e : Ending) (w' : World) : Prop :=
  (fitB z ls = true ∧ ls.length ≤ 400 → ∃ t v qs, e = .returned (.tuple #[.pointer (some ⟨t, 0, none⟩), .bool true]) ∧ TreeAt z w' t v qs ∧ leavesK qs = ls ∧ (qs = [] → v = .slice none 0 0)) ∧
  (¬ (fitB z ls = true ∧ ls.length ≤ 400) → e = .returned (.tuple #[.pointer none, .bool false])) ∧ Kept [] w w'

end Go.Proofs.YtecadmldnjlibaaDoor
namespace Go.Proofs.YtecadmldnjlibaaDoor
set_option linter.unusedVariables false
set_option linter.unusedSimpArgs false

theorem belT_half {n c : Nat} (h2 : 2 ≤ n) (hn : n ≤ 2 ^ (c + 1)) : belT n ≤ 2 ^ c ∧ n - belT n ≤ 2 ^ c := by
  have h := belT_lt h2
  have h1 : belT n ≤ 2 ^ c := by
    unfold belT
    refine Nat.pow_le_pow_right (by omega) ?_
    have := (Nat.log2_lt (n := n - 1) (k := c + 1) (by omega)).2 (by omega)
    omega
  exact ⟨h1, by omega⟩
/-- The ranges of an inclusion proof, from the leaf up. -/
def pathF (i : Nat) : Nat → Nat → Nat → List (Nat × Nat)
  | 0, _, _ => []
  | c + 1, lo, hi => if hi - lo ≤ 1 then [] else if i < lo + belT (hi - lo) then pathF i c lo (lo + belT (hi - lo)) ++ [(lo + belT (hi - lo), hi)] else pathF i c (lo + belT (hi - lo)) hi ++ [(lo, lo + belT (hi - lo))]
theorem pathF_one (i c : Nat) {lo hi : Nat} (h : hi - lo ≤ 1) : pathF i c lo hi = [] := by
  cases c with
  | zero => rfl
  | succ c => rw [pathF, if_pos h]
theorem pathF_l {i c lo hi : Nat} (h : ¬ hi - lo ≤ 1) (hi' : i < lo + belT (hi - lo)) : pathF i (c + 1) lo hi = pathF i c lo (lo + belT (hi - lo)) ++ [(lo + belT (hi - lo), hi)] := by
  rw [pathF, if_neg h, if_pos hi']
theorem pathF_r {i c lo hi : Nat} (h : ¬ hi - lo ≤ 1) (hi' : ¬ i < lo + belT (hi - lo)) : pathF i (c + 1) lo hi = pathF i c (lo + belT (hi - lo)) hi ++ [(lo, lo + belT (hi - lo))] := by
  rw [pathF, if_neg h, if_neg hi']
theorem pathF_len (i : Nat) : ∀ (c lo hi : Nat), (pathF i c lo hi).length ≤ c
  | 0, _, _ => Nat.le_refl _
  | c + 1, lo, hi => by
    by_cases h : hi - lo ≤ 1
    · rw [pathF_one i _ h]; simp
    · by_cases hi' : i < lo + belT (hi - lo)
      · rw [pathF_l h hi', List.length_append]; have := pathF_len i c lo (lo + belT (hi - lo)); simp; omega
      · rw [pathF_r h hi', List.length_append]; have := pathF_len i c (lo + belT (hi - lo)) hi; simp; omega
theorem pathF_in (i : Nat) : ∀ (c lo hi : Nat), ∀ s ∈ pathF i c lo hi, lo ≤ s.1 ∧ s.1 < s.2 ∧ s.2 ≤ hi
  | 0, _, _, s, hs => by simp [pathF] at hs
  | c + 1, lo, hi, s, hs => by
    by_cases h : hi - lo ≤ 1
    · rw [pathF_one i _ h] at hs; simp at hs
    · have hb := belT_lt (n := hi - lo) (by omega)
      by_cases hi' : i < lo + belT (hi - lo)
      · rw [pathF_l h hi', List.mem_append, List.mem_singleton] at hs
        rcases hs with hs | rfl
        · have := pathF_in i c _ _ s hs; omega
        · show lo ≤ lo + belT (hi - lo) ∧ lo + belT (hi - lo) < hi ∧ hi ≤ hi
          omega
      · rw [pathF_r h hi', List.mem_append, List.mem_singleton] at hs
        rcases hs with hs | rfl
        · have := pathF_in i c _ _ s hs; omega
        · show lo ≤ lo ∧ lo < lo + belT (hi - lo) ∧ lo + belT (hi - lo) ≤ hi
          omega
theorem pathF_fuel (i : Nat) : ∀ (c lo hi : Nat), hi - lo ≤ 2 ^ c → pathF i (c + 1) lo hi = pathF i c lo hi
  | 0, lo, hi, h => by rw [pathF_one i _ (by simpa using h), pathF_one i _ (by simpa using h)]
  | c + 1, lo, hi, h => by
    by_cases h1 : hi - lo ≤ 1
    · rw [pathF_one i _ h1, pathF_one i _ h1]
    · have hb := belT_half (n := hi - lo) (c := c) (by omega) h
      have hb2 := belT_lt (n := hi - lo) (by omega)
      by_cases hi' : i < lo + belT (hi - lo)
      · rw [pathF_l h1 hi', pathF_l h1 hi', pathF_fuel i c _ _ (by omega)]
      · rw [pathF_r h1 hi', pathF_r h1 hi', pathF_fuel i c _ _ (by omega)]
/-- The brother's number of the node on the way at a height. -/
def broN (i h : Nat) : Nat := if i / 2 ^ h % 2 = 0 then i / 2 ^ h + 1 else i / 2 ^ h - 1
def broS (N i h : Nat) : Option (Nat × Nat) := if broN i h * 2 ^ h < N then some (broN i h * 2 ^ h, min ((broN i h + 1) * 2 ^ h) N) else none
def levs (N i c : Nat) : List (Nat × Nat) := (List.range c).filterMap (broS N i)
theorem levs_succ (N i c : Nat) : levs N i (c + 1) = levs N i c ++ (broS N i c).toList := by
  unfold levs
  rw [List.range_succ, List.filterMap_append]
  cases h : broS N i c <;> simp [List.filterMap_cons, h]
/-- From above as from below. -/
theorem path_levs (N i : Nat) : ∀ (c lo hi : Nat), lo ≤ i → i < hi → 2 ^ c ∣ lo → hi - lo ≤ 2 ^ c → hi ≤ N → (hi = N ∨ hi - lo = 2 ^ c) → pathF i c lo hi = levs N i c
  | 0, lo, hi, _, _, _, _, _, _ => rfl
  | c + 1, lo, hi, h1, h2, h3, h4, h5, h6 => by
    obtain ⟨q, rfl⟩ := h3
    have hp : 1 ≤ 2 ^ c := Nat.one_le_two_pow
    have hps : 2 ^ (c + 1) = 2 * 2 ^ c := by rw [Nat.pow_succ]; omega
    have hlo : 2 ^ (c + 1) * q = 2 ^ c * (2 * q) := by rw [hps, Nat.mul_assoc, Nat.mul_left_comm]
    rw [levs_succ]
    by_cases hn : hi - 2 ^ (c + 1) * q ≤ 2 ^ c
    · have hN : hi = N := by omega
      rw [pathF_fuel i c _ _ hn, path_levs N i c _ hi h1 h2 ⟨2 * q, hlo⟩ hn h5 (Or.inl hN)]
      have hd : i / 2 ^ c = 2 * q := by
        obtain ⟨r, hr⟩ : ∃ r, i = 2 ^ c * (2 * q) + r := ⟨i - 2 ^ c * (2 * q), by omega⟩
        rw [hr, Nat.mul_add_div (by omega), Nat.div_eq_of_lt (by omega)]; rfl
      have hb : broN i c * 2 ^ c = 2 ^ c * (2 * q) + 2 ^ c := by
        unfold broN
        rw [hd, if_pos (by omega), Nat.mul_comm, Nat.mul_add, Nat.mul_one]
      have : broS N i c = none := by
        unfold broS
        rw [if_neg (by rw [hb]; omega)]
      rw [this]; simp
    · have hbel : belT (hi - 2 ^ (c + 1) * q) = 2 ^ c := by
        unfold belT
        congr 1
        rw [Nat.log2_eq_iff (by omega)]
        omega
      have hge : ¬ hi - 2 ^ (c + 1) * q ≤ 1 := by omega
      by_cases hm : i < 2 ^ (c + 1) * q + 2 ^ c
      · rw [pathF_l hge (by rw [hbel]; exact hm), hbel, path_levs N i c _ _ h1 hm ⟨2 * q, hlo⟩ (by omega) (by omega) (Or.inr (by omega))]
        have hd : i / 2 ^ c = 2 * q := by
          obtain ⟨r, hr⟩ : ∃ r, i = 2 ^ c * (2 * q) + r := ⟨i - 2 ^ c * (2 * q), by omega⟩
          rw [hr, Nat.mul_add_div (by omega), Nat.div_eq_of_lt (by omega)]; rfl
        have hbn : broN i c = 2 * q + 1 := by unfold broN; rw [hd, if_pos (by omega)]
        have e1 : (2 * q + 1) * 2 ^ c = 2 ^ c * (2 * q) + 2 ^ c := by rw [Nat.mul_comm, Nat.mul_add, Nat.mul_one]
        have e2 : (2 * q + 1 + 1) * 2 ^ c = 2 ^ c * (2 * q) + 2 * 2 ^ c := by rw [Nat.add_assoc, Nat.add_mul, Nat.mul_comm (2 * q)]
        unfold broS
        rw [hbn, e1, e2, if_pos (by omega), ← hlo, Nat.min_def]
        split
        · have : hi = 2 ^ (c + 1) * q + 2 * 2 ^ c := by omega
          simp [this]
        · have : hi = N := by omega
          simp [this]
      · rw [pathF_r hge (by rw [hbel]; exact hm), hbel, path_levs N i c _ _ (by omega) h2 ⟨2 * q + 1, by rw [hlo, Nat.mul_add, Nat.mul_one]⟩ (by omega) h5 (by omega)]
        have hd : i / 2 ^ c = 2 * q + 1 := by
          obtain ⟨r, hr⟩ : ∃ r, i = 2 ^ c * (2 * q + 1) + r := ⟨i - 2 ^ c * (2 * q + 1), by rw [Nat.mul_add]; omega⟩
          have : r < 2 ^ c := by rw [Nat.mul_add] at hr; omega
          rw [hr, Nat.mul_add_div (by omega), Nat.div_eq_of_lt this]
        have hbn : broN i c = 2 * q := by unfold broN; rw [hd, if_neg (by omega), Nat.add_sub_cancel]
        have e1 : 2 * q * 2 ^ c = 2 ^ c * (2 * q) := by rw [Nat.mul_comm]
        have e2 : (2 * q + 1) * 2 ^ c = 2 ^ c * (2 * q) + 2 ^ c := by rw [Nat.mul_comm, Nat.mul_add, Nat.mul_one]
        unfold broS
        rw [hbn, e1, e2, if_pos (by omega), ← hlo, Nat.min_eq_left (by omega)]
        simp
theorem path_all {N i c : Nat} (hi : i < N) (hN : N ≤ 2 ^ c) : pathF i c 0 N = levs N i c := path_levs N i c 0 N (by omega) hi (Nat.dvd_zero _) (by omega) (Nat.le_refl _) (Or.inl rfl)
/-- How many brothers the node i of n has on its way up. -/
def stL : Nat → Nat → Nat → Nat
  | 0, _, _ => 0
  | c + 1, i, n => if n ≤ 1 then 0 else (if i % 2 = 1 ∨ i + 1 < n then 1 else 0) + stL c (i / 2) (n / 2 + n % 2)
theorem bro_up (N i h : Nat) : (broN i (h + 1) * 2 ^ (h + 1) < N) = (broN (i / 2) h * 2 ^ h < N / 2 + N % 2) := by
  have e : i / 2 ^ (h + 1) = i / 2 / 2 ^ h := by rw [Nat.pow_succ, Nat.mul_comm, Nat.div_div_eq_div_mul]
  have e2 : broN i (h + 1) = broN (i / 2) h := by unfold broN; rw [e]
  rw [e2, Nat.pow_succ, ← Nat.mul_assoc]
  generalize broN (i / 2) h * 2 ^ h = y
  apply propext
  omega
theorem levs_len (N i c : Nat) : (levs N i c).length = ((List.range c).filter (fun h => decide (broN i h * 2 ^ h < N))).length := by
  unfold levs
  induction List.range c with
  | nil => rfl
  | cons h r ih =>
    rw [List.filterMap_cons, List.filter_cons]
    by_cases hb : broN i h * 2 ^ h < N
    · have hs : broS N i h = some (broN i h * 2 ^ h, min ((broN i h + 1) * 2 ^ h) N) := by unfold broS; rw [if_pos hb]
      simp only [hs, decide_eq_true hb, List.length_cons, if_true, ih]
    · have hs : broS N i h = none := by unfold broS; rw [if_neg hb]
      simp only [hs, decide_eq_false hb, Bool.false_eq_true, if_false, ih]
theorem levs_steps : ∀ (c i N : Nat), i < N → N ≤ 2 ^ c → (levs N i c).length = stL c i N
  | 0, i, N, _, _ => rfl
  | c + 1, i, N, h1, h2 => by
    have hps : 2 ^ (c + 1) = 2 * 2 ^ c := by rw [Nat.pow_succ]; omega
    have ih := levs_steps c (i / 2) (N / 2 + N % 2) (by omega) (by omega)
    rw [levs_len] at ih ⊢
    rw [List.range_succ_eq_map, List.filter_cons, List.filter_map, stL]
    have e : ((fun h => decide (broN i h * 2 ^ h < N)) ∘ Nat.succ) = (fun h => decide (broN (i / 2) h * 2 ^ h < N / 2 + N % 2)) := by
      funext h
      simp only [Function.comp, Nat.succ_eq_add_one, bro_up N i h]
    have e0 : (broN i 0 * 2 ^ 0 < N) ↔ (i % 2 = 1 ∨ i + 1 < N) := by
      unfold broN
      rw [Nat.pow_zero, Nat.div_one, Nat.mul_one]
      split <;> omega
    by_cases hN : N ≤ 1
    · have hi : i = 0 := by omega
      subst hi
      rw [if_pos hN, e, decide_eq_false (by rw [e0]; omega)]
      have hN1 : N / 2 + N % 2 = 1 := by omega
      have : ∀ h ∈ List.range c, ¬ (decide (broN (0 / 2) h * 2 ^ h < N / 2 + N % 2) = true) := by
        intro h _
        rw [hN1]
        have hp : 1 ≤ 2 ^ h := Nat.one_le_two_pow
        simp [broN]
      rw [List.filter_eq_nil_iff.2 this]
      rfl
    · rw [if_neg hN, e]
      by_cases hb : i % 2 = 1 ∨ i + 1 < N
      · rw [decide_eq_true (e0.2 hb), if_pos rfl, if_pos hb, List.length_cons, List.length_map, ih]; omega
      · rw [decide_eq_false (fun h => hb (e0.1 h)), if_neg hb]
        simp only [Bool.false_eq_true, if_false, List.length_map]
        rw [ih]; omega
/-- The ranges of a consistency proof. -/
def seamF (m : Nat) : Nat → Nat → Nat → Bool → List (Nat × Nat)
  | 0, lo, hi, wh => if wh then [] else [(lo, hi)]
  | c + 1, lo, hi, wh => if m = hi then (if wh then [] else [(lo, hi)]) else if m ≤ lo + belT (hi - lo) then seamF m c lo (lo + belT (hi - lo)) wh ++ [(lo + belT (hi - lo), hi)] else seamF m c (lo + belT (hi - lo)) hi false ++ [(lo, lo + belT (hi - lo))]
theorem seamF_end {m c lo hi : Nat} {wh : Bool} (h : m = hi) : seamF m c lo hi wh = if wh then [] else [(lo, hi)] := by
  cases c with
  | zero => rfl
  | succ c => rw [seamF, if_pos h]
theorem seamF_l {m c lo hi : Nat} {wh : Bool} (h : ¬ m = hi) (h2 : m ≤ lo + belT (hi - lo)) : seamF m (c + 1) lo hi wh = seamF m c lo (lo + belT (hi - lo)) wh ++ [(lo + belT (hi - lo), hi)] := by
  rw [seamF, if_neg h, if_pos h2]
theorem seamF_r {m c lo hi : Nat} {wh : Bool} (h : ¬ m = hi) (h2 : ¬ m ≤ lo + belT (hi - lo)) : seamF m (c + 1) lo hi wh = seamF m c (lo + belT (hi - lo)) hi false ++ [(lo, lo + belT (hi - lo))] := by
  rw [seamF, if_neg h, if_neg h2]
theorem seamF_len (m : Nat) : ∀ (c lo hi : Nat) (wh : Bool), (seamF m c lo hi wh).length ≤ c + 1
  | 0, lo, hi, wh => by unfold seamF; split <;> simp
  | c + 1, lo, hi, wh => by
    by_cases h : m = hi
    · rw [seamF_end h]; split <;> simp
    · by_cases h2 : m ≤ lo + belT (hi - lo)
      · rw [seamF_l h h2, List.length_append]; have := seamF_len m c lo (lo + belT (hi - lo)) wh; simp; omega
      · rw [seamF_r h h2, List.length_append]; have := seamF_len m c (lo + belT (hi - lo)) hi false; simp; omega
theorem seamF_in (m : Nat) : ∀ (c lo hi : Nat) (wh : Bool), lo < m → m ≤ hi → hi - lo ≤ 2 ^ c → ∀ s ∈ seamF m c lo hi wh, lo ≤ s.1 ∧ s.1 < s.2 ∧ s.2 ≤ hi
  | 0, lo, hi, wh, h1, h2, h3, s, hs => by
    unfold seamF at hs
    split at hs
    · simp at hs
    · rw [List.mem_singleton] at hs; subst hs; simp; omega
  | c + 1, lo, hi, wh, h1, h2, h3, s, hs => by
    by_cases h : m = hi
    · rw [seamF_end h] at hs
      split at hs
      · simp at hs
      · rw [List.mem_singleton] at hs; subst hs; simp; omega
    · have hb := belT_lt (n := hi - lo) (by omega)
      have hb2 := belT_half (n := hi - lo) (c := c) (by omega) h3
      by_cases h4 : m ≤ lo + belT (hi - lo)
      · rw [seamF_l h h4, List.mem_append, List.mem_singleton] at hs
        rcases hs with hs | rfl
        · have := seamF_in m c _ _ _ h1 h4 (by omega) s hs; omega
        · show lo ≤ lo + belT (hi - lo) ∧ lo + belT (hi - lo) < hi ∧ hi ≤ hi
          omega
      · rw [seamF_r h h4, List.mem_append, List.mem_singleton] at hs
        rcases hs with hs | rfl
        · have := seamF_in m c _ _ _ (by omega) h2 (by omega) s hs; omega
        · show lo ≤ lo ∧ lo < lo + belT (hi - lo) ∧ lo + belT (hi - lo) ≤ hi
          omega
def sinL : Nat → Nat → Nat → Bool → Nat
  | 0, _, _, wh => if wh then 0 else 1
  | c + 1, m, n, wh => if m = n then (if wh then 0 else 1) else 1 + (if m ≤ belT n then sinL c m (belT n) wh else sinL c (m - belT n) (n - belT n) false)
theorem seam_sin (m : Nat) : ∀ (c lo hi : Nat) (wh : Bool), lo < m → m ≤ hi → hi - lo ≤ 2 ^ c → (seamF m c lo hi wh).length = sinL c (m - lo) (hi - lo) wh
  | 0, lo, hi, wh, _, _, _ => by unfold seamF sinL; split <;> rfl
  | c + 1, lo, hi, wh, h1, h2, h3 => by
    by_cases h : m = hi
    · rw [seamF_end h]
      unfold sinL
      rw [if_pos (show m - lo = hi - lo by omega)]
      cases wh <;> rfl
    · have hb := belT_lt (n := hi - lo) (by omega)
      have hb2 := belT_half (n := hi - lo) (c := c) (by omega) h3
      rw [sinL, if_neg (by omega)]
      by_cases h4 : m ≤ lo + belT (hi - lo)
      · rw [seamF_l h h4, List.length_append, seam_sin m c _ _ _ h1 h4 (by omega), if_pos (by omega), show lo + belT (hi - lo) - lo = belT (hi - lo) by omega]
        simp; omega
      · rw [seamF_r h h4, List.length_append, seam_sin m c _ _ _ (by omega) h2 (by omega), if_neg (by omega), show m - (lo + belT (hi - lo)) = m - lo - belT (hi - lo) by omega, show hi - (lo + belT (hi - lo)) = hi - lo - belT (hi - lo) by omega]
        simp; omega
end Go.Proofs.YtecadmldnjlibaaDoor
namespace Go.Proofs.YtecadmldnjlibaaDoor
open Go.RowKit Go.BigFrame
set_option linter.unusedVariables false
set_option linter.unusedSimpArgs false

theorem wrM (y : Int) : IntKind.u64.wrap y = y % 18446744073709551616 := by simp [IntKind.wrap, IntKind.signed, IntKind.bits]

set_option maxRecDepth 100000 in
set_option maxHeartbeats 1000000 in
theorem msplit_any (lo hi : Nat) (w : World) (h2 : 2 ≤ hi - lo) (hn : hi < 18446744073709551616) :
    Calls Tryd.prog 55 #[.int .u64 lo, .int .u64 hi] w fun e w' => e = .returned (.int .u64 ((lo + belT (hi - lo) : Nat) : Int)) ∧ Kept [] w w' := by
  obtain ⟨n, hn1⟩ : ∃ n, hi - lo = n := ⟨_, rfl⟩
  rw [hn1] at h2 ⊢
  have hb := bitLen_log (n - 1) (by omega) (by omega)
  have hl : (n - 1).log2 < 64 := (Nat.log2_lt (by omega)).2 (by omega)
  have hlt := belT_lt h2
  obtain ⟨S, hS⟩ : ∃ S, belT n = S := ⟨_, rfl⟩
  rw [hS] at hlt ⊢
  unfold belT at hS
  have hsub : IntKind.u64.wrap ((hi : Int) - (lo : Int)) = (n : Int) := by rw [wrM]; omega
  have hsub1 : IntKind.u64.wrap ((n : Int) - 1) = ((n - 1 : Nat) : Int) := by rw [wrM]; omega
  have hadd : IntKind.u64.wrap ((lo : Int) + (S : Int)) = ((lo + S : Nat) : Int) := by rw [wrM]; omega
  have HLE := hide (len64_any (n - 1) w (by omega))
  rw [hb] at HLE
  obtain ⟨m, hm⟩ : ∃ m, (n - 1).log2 = m := ⟨_, rfl⟩
  rw [hm] at hl HLE hS
  obtain ⟨n1, hn2⟩ : ∃ n1, n - 1 = n1 := ⟨_, rfl⟩
  rw [hn2] at hsub1 HLE
  obtain ⟨T, hT⟩ : ∃ T, lo + S = T := ⟨_, rfl⟩
  rw [hT] at hadd ⊢
  clear hm hb hn1 hn2 hT h2 hlt hn
  have HP := hide hS
  have q2 : wrap64 (((m + 1 : Nat) : Int) - 1) = (m : Int) := by unfold wrap64; omega
  clear hS
  go_enter Tryd.func55, Tryd.ntmps55
  go_wp2_with (first | simp only [hsub] | simp only [hsub1])
  refine (unhide HLE).mono ?_
  rintro e w1 ⟨rfl, k1⟩
  have HK1 := hide k1
  clear k1
  go_wp2_with (first | simp only [hadd] | (refine wpList_shl1 rfl 49 3 (.tmp 11) rfl m hl (by simp [Act.eval, q2]) ?_; rw [unhide HP]))
  go_ret
  exact ⟨rfl, unhide HK1⟩

theorem wp_callD {o : Oper} {a : Act} {w : World} {K : Act → World → Prop} {Q : Exit → Act → World → Prop} {f : FuncId} {c : Operand} {xs : Array Operand} {ts : Array TypeId} (ho : o.op = .call { callee := .value c, args := xs, argTypes := ts })
    (cap : Array Value) (hc0 : a.eval c = .func (.func f) #[] cap)
    (hcl : ∀ args W, (callFunc f args).run Tryd.prog W = .ok (.enter f args) W) (us : List Value) (he : xs.toList.map a.eval = us) {R : Ending → World → Prop}
    (hc : Calls Tryd.prog f (us.toArray ++ cap) w R) (h : ∀ e w', R e w' → ∃ v, e = .returned v ∧ K (a.put o.dst v) w') : o.wp Tryd.prog a w K Q := by
  have he2 : xs.map a.eval = us.toArray := by rw [← he]; cases xs; simp only [List.map_toArray]
  unfold Oper.wp execOp
  simp only [ho]
  simp only [resolve, invoke, hc0, he2, Sem.run_bind, Sem.run_pure, Result.andThen_ok, hcl]
  simp [Deferred.ofValue, hcl, go_sem]
  refine hc.mono ?_
  intro e w2 h2
  obtain ⟨v, rfl, h3⟩ := h e w2 h2
  exact h3

def cellsS (ss : List (Nat × Nat)) : List Value := ss.flatMap fun s => [.int .u64 (s.1 : Int), .int .u64 (s.2 : Int)]
theorem cellsS_app (a b : List (Nat × Nat)) : cellsS (a ++ b) = cellsS a ++ cellsS b := by simp [cellsS]
theorem cellsS_get : ∀ (ss : List (Nat × Nat)) (i : Nat) (h : i < ss.length), (cellsS ss)[2 * i]? = some (.int .u64 (ss[i].1 : Int)) ∧ (cellsS ss)[2 * i + 1]? = some (.int .u64 (ss[i].2 : Int))
  | [], i, h => by simp at h
  | s :: r, 0, h => ⟨rfl, rfl⟩
  | s :: r, i + 1, h => by
    have := cellsS_get r i (by simpa using h)
    have e : cellsS (s :: r) = [.int .u64 (s.1 : Int), .int .u64 (s.2 : Int)] ++ cellsS r := by simp [cellsS]
    rw [e, show 2 * (i + 1) = 2 + 2 * i by omega, show 2 + 2 * i + 1 = 2 + (2 * i + 1) by omega]
    rw [List.getElem?_append_right (by simp), List.getElem?_append_right (by simp)]
    simpa [Nat.add_sub_cancel_left] using this
theorem Tryd.infoS : (Tryd.prog.info? 92).map (fun i => (i.zero, i.size, i.bytes)) = some (some (.agg #[.int .u64 0, .int .u64 0]), 2, 16) := by kernel_rfl
/-- One range more. -/
theorem pushSp (w : World) (base : Nat) (v : Value) (ss : List (Nat × Nat)) (x y : Nat) (H : Nat) (h : w.ownsRow base 92 2 v ss.length (cellsS ss)) (hnew : w.heap[H]? = some (.cells #[.int .u64 (x : Int), .int .u64 (y : Int)] 92 (0, 0))) (hl : ss.length + 1 ≤ 1000000000000) (hb : base ≤ w.heap.size) :
    ∃ g cap w1, (Builtin.append_ #[80, 80] 80 #[v, .slice (some ⟨H, 0, none⟩) 1 1]).run Tryd.prog w = .ok (.slice (some ⟨g, 0, none⟩) (ss.length + 1) cap) w1 ∧
      w1.ownsRow base 92 2 (.slice (some ⟨g, 0, none⟩) (ss.length + 1) cap) (ss ++ [(x, y)]).length (cellsS (ss ++ [(x, y)])) ∧ w.grownBy w1 v.ownBlock := by
  obtain ⟨i0, hi, hz0, hz1, hz2⟩ := info_parts Tryd.infoS
  obtain ⟨g, cap, w1, hr, hown, hgrow, hat, hlt⟩ := run_append_lies (P := Tryd.prog) w 80 80 base 92 i0 (.agg #[.int .u64 0, .int .u64 0]) 2 16 Tryd.underlying80 hi hz0 hz1 hz2 rfl (by decide)
    v ss.length (cellsS ss) h ⟨H, 0, none⟩ 1 1 [.int .u64 (x : Int), .int .u64 (y : Int)] rfl (World.news_of_block hnew) (by intro u hu; simp at hu; rcases hu with rfl | rfl <;> rfl) (by decide) (by unfold maxLen; omega) (by omega) hb _ rfl
  refine ⟨g, cap, w1, hr, ?_, hgrow⟩
  rw [cellsS_app, List.length_append]
  exact hown
theorem wpList_pushSp {ops : Array Oper} {rest : List Oper} {o : Oper} {a : Act} {Q : Exit → Act → World → Prop} (hgd : o.guard = none) (s x : Operand)
    (ho : o.op = .call { callee := .builtin .append, args := #[s, x], argTypes := #[80, 80] }) (hty : o.type = 80)
    (w : World) (base : Nat) (v : Value) (ss : List (Nat × Nat)) (p q : Nat) (H : Nat) (h : w.ownsRow base 92 2 v ss.length (cellsS ss)) (hnew : w.heap[H]? = some (.cells #[.int .u64 (p : Int), .int .u64 (q : Int)] 92 (0, 0))) (hl : ss.length + 1 ≤ 1000000000000) (hb : base ≤ w.heap.size)
    (hs : a.eval s = v) (hx : a.eval x = .slice (some ⟨H, 0, none⟩) 1 1)
    (hK : ∀ g cap w1, Hid (w1.ownsRow base 92 2 (.slice (some ⟨g, 0, none⟩) (ss.length + 1) cap) (ss ++ [(p, q)]).length (cellsS (ss ++ [(p, q)]))) → Hid (w.grownBy w1 v.ownBlock) →
      wpList Tryd.prog ops Q rest (a.put o.dst (.slice (some ⟨g, 0, none⟩) (ss.length + 1) cap)) w1) :
    wpList Tryd.prog ops Q (o :: rest) a w := by
  obtain ⟨g, cap, w1, hrun, h2, h3⟩ := pushSp w base v ss p q H h hnew hl hb
  refine wpList_plain hgd fun K hK' => ?_
  unfold Oper.wp execOp
  simp only [ho, hty, resolve, invoke, builtin, Sem.run_bind, Sem.run_pure, Result.andThen_ok, List.map_toArray, List.map_cons, List.map_nil, hs, hx, hrun]
  exact hK' _ _ (hK g cap w1 h2 h3)

/-- The list of ranges behind a captured variable. -/
structure Lst (W0 : World) (bl : Nat) (ss : List (Nat × Nat)) (w : World) (v : Value) : Prop where
  kept : Kept [bl] W0 w
  row : w.heap[bl]? = some (.cells #[v] 80 (0, 0))
  own : w.ownsRow W0.heap.size 92 2 v ss.length (cellsS ss)
  lt : bl < W0.heap.size
theorem Lst.old {W0 w w' : World} {bl : Nat} {ss : List (Nat × Nat)} {v : Value} (h : Lst W0 bl ss w v) (k : Kept [] w w') : Lst W0 bl ss w' v :=
  ⟨h.kept.trans k (by simp), k.heap h.row (by simp), k.owns h.own (by simp), h.lt⟩
theorem Lst.push {W0 w w1 : World} {bl : Nat} {ss : List (Nat × Nat)} {v u : Value} {x y : Nat} (h : Lst W0 bl ss w v) {ss' : List (Nat × Nat)} (own : w1.ownsRow W0.heap.size 92 2 u ss'.length (cellsS ss')) (gr : w.grownBy w1 v.ownBlock) :
    Lst W0 bl ss' (w1.setCell ⟨bl, 0, none⟩ u) u ∧ w1.cell? ⟨bl, 0, none⟩ = some v ∧ w1.heap[bl]? = some (.cells #[v] 80 (0, 0)) := by
  have hv : ∀ k, v.ownBlock = some k → k ≠ bl := by
    intro k hk e
    have := (h.own.lt k hk).1
    have := h.lt
    omega
  have k1 : Kept v.ownBlock.toList w w1 := (Kept.refl _ w).grown gr (by intro k hk; left; simp [hk])
  have r1 : w1.heap[bl]? = some (.cells #[v] 80 (0, 0)) := k1.heap h.row (by intro hm; simp at hm; exact hv bl hm rfl)
  have k3 : Kept [bl] W0 w1 := h.kept.grown gr (by intro k hk; right; exact (h.own.lt k hk).1)
  have k4 := (Kept.refl [bl] w1).setCell (p := ⟨bl, 0, none⟩) (Or.inl (by simp)) u
  refine ⟨⟨k3.setCell (p := ⟨bl, 0, none⟩) (Or.inl (by simp)) u, ?_, ?_, h.lt⟩, ?_, r1⟩
  · have h9 := heap_setCell_same w1 bl 0 _ 80 u r1
    simpa using h9
  · refine k4.owns own ?_
    intro k hk
    have := (own.lt k hk).1
    have := h.lt
    simp
    omega
  · have h9 := cell_of_row _ _ 0 _ _ _ r1
    simpa using h9
end Go.Proofs.YtecadmldnjlibaaDoor
namespace Go.Proofs.YtecadmldnjlibaaDoor
open Go.RowKit Go.BigFrame
set_option linter.unusedVariables false
set_option linter.unusedSimpArgs false

def pathV (bi bc bl : Nat) : Value := .func (.func 54) #[] #[.pointer (some ⟨bi, 0, none⟩), .pointer (some ⟨bc, 0, none⟩), .pointer (some ⟨bl, 0, none⟩)]
structure PathW (bi bc i : Nat) (bl : Nat) (W0 w : World) : Prop where
  hc : w.heap[bc]? = some (.cells #[pathV bi bc bl] 93 (0, 0))
  hi : w.heap[bi]? = some (.cells #[.int .u64 i] 49 (0, 0))
  lt : bc < W0.heap.size ∧ bi < W0.heap.size
  ne : bc ≠ bl ∧ bi ≠ bl
theorem PathW.kept {bi bc i bl : Nat} {W0 w w' : World} (h : PathW bi bc i bl W0 w) (hl : W0.heap.size ≤ w.heap.size) {L : List Nat} (k : Kept L w w') (hL : ∀ b ∈ L, b = bl ∨ W0.heap.size ≤ b) : PathW bi bc i bl W0 w' := by
  refine ⟨k.heap h.hc ?_, k.heap h.hi ?_, h.lt, h.ne⟩
  · intro hm; rcases hL _ hm with e | e
    · exact h.ne.1 e
    · have := h.lt.1; omega
  · intro hm; rcases hL _ hm with e | e
    · exact h.ne.2 e
    · have := h.lt.2; omega

theorem Tryd.callPath : ∀ args W, (callFunc 54 args).run Tryd.prog W = .ok (.enter 54 args) W := by
  intro args W
  exact Tryd.call54 args W

set_option maxRecDepth 100000 in
set_option maxHeartbeats 1000000 in
theorem pathC_any (W0 : World) (bi bc bl i : Nat) : ∀ (c lo hi : Nat) (ss : List (Nat × Nat)) (v : Value) (w : World), lo < hi → hi - lo ≤ 2 ^ c → hi < 18446744073709551616 → ss.length + c ≤ 1000000 → Lst W0 bl ss w v → PathW bi bc i bl W0 w →
    Calls Tryd.prog 54 #[.int .u64 lo, .int .u64 hi, .pointer (some ⟨bi, 0, none⟩), .pointer (some ⟨bc, 0, none⟩), .pointer (some ⟨bl, 0, none⟩)] w fun e w' => e = .returned (.tuple #[]) ∧ ∃ u, Lst W0 bl (ss ++ pathF i c lo hi) w' u ∧ PathW bi bc i bl W0 w' := by
  intro c
  induction c with
  | zero =>
    intro lo hi ss v w h1 h2 h3 h4 HL HP
    have hsub : IntKind.u64.wrap ((hi : Int) - (lo : Int)) = 1 := by rw [wrM]; simp at h2; omega
    go_enter Tryd.func54, Tryd.ntmps54
    have HL := hide HL
    have HP := hide HP
    go_wp2_with (first | simp only [hsub])
    exact ⟨rfl, _, results_none rfl _ _ _, rfl, v, by rw [pathF, List.append_nil]; exact unhide HL, unhide HP⟩
  | succ c ih =>
    intro lo hi ss v w h1 h2 h3 h4 HL HP
    have HL := hide HL
    have HP := hide HP
    have HIH := hide ih
    have HS := hide h4
    clear ih h4
    by_cases hone : hi - lo ≤ 1
    · have hsub : IntKind.u64.wrap ((hi : Int) - (lo : Int)) = 1 := by rw [wrM]; omega
      clear h2
      go_enter Tryd.func54, Tryd.ntmps54
      go_wp2_with (first | simp only [hsub])
      exact ⟨rfl, _, results_none rfl _ _ _, rfl, v, by rw [pathF_one i _ hone, List.append_nil]; exact unhide HL, unhide HP⟩
    · have hsub : IntKind.u64.wrap ((hi : Int) - (lo : Int)) = ((hi - lo : Nat) : Int) := by rw [wrM]; omega
      have hne : ¬ ((hi - lo : Nat) : Int) = 1 := by omega
      have HSP := hide (msplit_any lo hi w (by omega) h3)
      have hb := belT_lt (n := hi - lo) (by omega)
      have hb2 := belT_half (n := hi - lo) (c := c) (by omega) h2
      have HPL := hide (fun h => pathF_l (i := i) (c := c) (lo := lo) (hi := hi) hone h)
      have HPR := hide (fun h => pathF_r (i := i) (c := c) (lo := lo) (hi := hi) hone h)
      obtain ⟨m, hm⟩ : ∃ m, lo + belT (hi - lo) = m := ⟨_, rfl⟩
      rw [hm] at HSP HPL HPR
      have hm1 : lo < m := by omega
      have hm2 : m < hi := by omega
      have HB := hide (by omega : m - lo ≤ 2 ^ c ∧ hi - m ≤ 2 ^ c)
      have HSZ := hide (unhide HL).kept.size
      obtain ⟨n, hn⟩ : ∃ n, hi - lo = n := ⟨_, rfl⟩
      rw [hn] at hsub hne
      clear hb hb2 hone h2 hm hn
      go_enter Tryd.func54, Tryd.ntmps54
      go_wp2_with (first | simp only [hsub])
      refine (unhide HSP).mono ?_
      rintro e w1 ⟨rfl, k1⟩
      have HL1 := hide ((unhide HL).old k1)
      have HP1 := hide ((unhide HP).kept (unhide HSZ) k1 (by simp))
      have HSZ1 := hide (unhide HL1).kept.size
      clear HL HP k1 HSP HSZ
      have ci := cell_of_row _ _ 0 _ _ _ (unhide HP1).hi
      have cc := cell_of_row _ _ 0 _ _ _ (unhide HP1).hc
      unfold pathV at cc
      simp at ci cc
      by_cases him : i < m
      · have him' : (i : Int) < (m : Int) := by omega
        have HR1 := hide (unhide HIH lo m ss v w1 (by omega) (unhide HB).1 (by omega) (by have := unhide HS; omega) (unhide HL1) (unhide HP1))
        have HSL := hide (by have := unhide HS; have := pathF_len i c lo m; rw [List.length_append]; omega : (ss ++ pathF i c lo m).length + 1 ≤ 1000000000000)
        have HEQ := hide (unhide HPL him)
        clear HIH HB HPL HPR
        go_wp2_with fail
        refine (unhide HR1).mono ?_
        rintro e w2 ⟨rfl, u, l2, p2⟩
        have HL2 := hide (l2.old ((Kept.refl [] w2).alloc (.cells #[.int .u64 (m : Int), .int .u64 (hi : Int)] 92)))
        have HP2 := hide (p2.kept l2.kept.size ((Kept.refl [] w2).alloc (.cells #[.int .u64 (m : Int), .int .u64 (hi : Int)] 92)) (by simp))
        have HN2 := hide (heap_alloc_new w2 (.cells #[.int .u64 (m : Int), .int .u64 (hi : Int)] 92))
        have cl := cell_of_row _ _ 0 _ _ _ l2.row
        simp at cl
        have HBB := hide (unhide HL2).kept.size
        clear l2 p2 HR1 HL1 HP1 ci cc HSZ1
        obtain ⟨ts, hts⟩ : ∃ ts, ss ++ pathF i c lo m = ts := ⟨_, rfl⟩
        rw [hts] at HL2 HSL
        have HTS := hide hts
        clear hts
        go_wp2_with ((at_builtin; refine wpList_pushSp rfl (.tmp 22) (.tmp 26) rfl rfl _ W0.heap.size u ts m hi w2.heap.size (unhide HL2).own (unhide HN2) (unhide HSL) (unhide HBB) rfl rfl ?_; intro g cap w3 HO3 HG3; have HLP := hide ((unhide HL2).push (x := m) (y := hi) (unhide HO3) (unhide HG3)); have cb := (unhide HLP).2.1; have zb := frozen_of_row _ _ 0 _ _ (unhide HLP).2.2; have HKW := hide ((Kept.refl u.ownBlock.toList (w2.alloc (.cells #[.int .u64 (m : Int), .int .u64 (hi : Int)] 92))).grown (unhide HG3) (by intro k hk; left; simp [hk])); clear HO3 HG3))
        refine ⟨rfl, _, results_none rfl _ _ _, rfl, _, by rw [unhide HEQ, ← List.append_assoc, unhide HTS]; exact (unhide HLP).1, ?_⟩
        refine ((unhide HP2).kept (unhide HBB) (unhide HKW) ?_).kept (Nat.le_trans (unhide HBB) (unhide HKW).size) ((Kept.refl [bl] w3).setCell (p := ⟨bl, 0, none⟩) (Or.inl (by simp)) _) ?_
        · intro b hb
          right
          exact ((unhide HL2).own.lt b (by simpa using hb)).1
        · intro b hb
          left
          simpa using hb
      · have him' : ¬ (i : Int) < (m : Int) := by omega
        have HR1 := hide (unhide HIH m hi ss v w1 (by omega) (unhide HB).2 (by omega) (by have := unhide HS; omega) (unhide HL1) (unhide HP1))
        have HSL := hide (by have := unhide HS; have := pathF_len i c m hi; rw [List.length_append]; omega : (ss ++ pathF i c m hi).length + 1 ≤ 1000000000000)
        have HEQ := hide (unhide HPR him)
        clear HIH HB HPL HPR
        go_wp2_with fail
        refine (unhide HR1).mono ?_
        rintro e w2 ⟨rfl, u, l2, p2⟩
        have HL2 := hide (l2.old ((Kept.refl [] w2).alloc (.cells #[.int .u64 (lo : Int), .int .u64 (m : Int)] 92)))
        have HP2 := hide (p2.kept l2.kept.size ((Kept.refl [] w2).alloc (.cells #[.int .u64 (lo : Int), .int .u64 (m : Int)] 92)) (by simp))
        have HN2 := hide (heap_alloc_new w2 (.cells #[.int .u64 (lo : Int), .int .u64 (m : Int)] 92))
        have cl := cell_of_row _ _ 0 _ _ _ l2.row
        simp at cl
        have HBB := hide (unhide HL2).kept.size
        clear l2 p2 HR1 HL1 HP1 ci cc HSZ1
        obtain ⟨ts, hts⟩ : ∃ ts, ss ++ pathF i c m hi = ts := ⟨_, rfl⟩
        rw [hts] at HL2 HSL
        have HTS := hide hts
        clear hts
        go_wp2_with ((at_builtin; refine wpList_pushSp rfl (.tmp 32) (.tmp 36) rfl rfl _ W0.heap.size u ts lo m w2.heap.size (unhide HL2).own (unhide HN2) (unhide HSL) (unhide HBB) rfl rfl ?_; intro g cap w3 HO3 HG3; have HLP := hide ((unhide HL2).push (x := lo) (y := m) (unhide HO3) (unhide HG3)); have cb := (unhide HLP).2.1; have zb := frozen_of_row _ _ 0 _ _ (unhide HLP).2.2; have HKW := hide ((Kept.refl u.ownBlock.toList (w2.alloc (.cells #[.int .u64 (lo : Int), .int .u64 (m : Int)] 92))).grown (unhide HG3) (by intro k hk; left; simp [hk])); clear HO3 HG3))
        refine ⟨rfl, _, results_none rfl _ _ _, rfl, _, by rw [unhide HEQ, ← List.append_assoc, unhide HTS]; exact (unhide HLP).1, ?_⟩
        refine ((unhide HP2).kept (unhide HBB) (unhide HKW) ?_).kept (Nat.le_trans (unhide HBB) (unhide HKW).size) ((Kept.refl [bl] w3).setCell (p := ⟨bl, 0, none⟩) (Or.inl (by simp)) _) ?_
        · intro b hb
          right
          exact ((unhide HL2).own.lt b (by simpa using hb)).1
        · intro b hb
          left
          simpa using hb
end Go.Proofs.YtecadmldnjlibaaDoor
namespace Go.Proofs.YtecadmldnjlibaaDoor
open Go.RowKit Go.BigFrame
set_option linter.unusedVariables false
set_option linter.unusedSimpArgs false

def seamV (bi bl bc : Nat) : Value := .func (.func 56) #[] #[.pointer (some ⟨bi, 0, none⟩), .pointer (some ⟨bl, 0, none⟩), .pointer (some ⟨bc, 0, none⟩)]
structure SeamW (bi bc i : Nat) (bl : Nat) (W0 w : World) : Prop where
  hc : w.heap[bc]? = some (.cells #[seamV bi bl bc] 95 (0, 0))
  hi : w.heap[bi]? = some (.cells #[.int .u64 i] 49 (0, 0))
  lt : bc < W0.heap.size ∧ bi < W0.heap.size
  ne : bc ≠ bl ∧ bi ≠ bl
theorem SeamW.kept {bi bc i bl : Nat} {W0 w w' : World} (h : SeamW bi bc i bl W0 w) (hl : W0.heap.size ≤ w.heap.size) {L : List Nat} (k : Kept L w w') (hL : ∀ b ∈ L, b = bl ∨ W0.heap.size ≤ b) : SeamW bi bc i bl W0 w' := by
  refine ⟨k.heap h.hc ?_, k.heap h.hi ?_, h.lt, h.ne⟩
  · intro hm; rcases hL _ hm with e | e
    · exact h.ne.1 e
    · have := h.lt.1; omega
  · intro hm; rcases hL _ hm with e | e
    · exact h.ne.2 e
    · have := h.lt.2; omega

set_option maxRecDepth 100000 in
set_option maxHeartbeats 1000000 in
theorem seamC_end (W0 : World) (bi bc bl m : Nat) (c lo : Nat) (wh : Bool) (ss : List (Nat × Nat)) (v : Value) (w : World) (h4 : ss.length + c ≤ 1000000) (HL : Lst W0 bl ss w v) (HP : SeamW bi bc m bl W0 w) :
    Calls Tryd.prog 56 #[.int .u64 lo, .int .u64 m, .bool wh, .pointer (some ⟨bi, 0, none⟩), .pointer (some ⟨bl, 0, none⟩), .pointer (some ⟨bc, 0, none⟩)] w fun e w' => e = .returned (.tuple #[]) ∧ ∃ u, Lst W0 bl (ss ++ seamF m c lo m wh) w' u ∧ SeamW bi bc m bl W0 w' := by
    have HL := hide HL
    have HP := hide HP
    have HS := hide h4
    clear h4
    have ci := cell_of_row _ _ 0 _ _ _ (unhide HP).hi
    simp at ci
    cases wh with
    | true =>
      go_enter Tryd.func56, Tryd.ntmps56
      go_wp2_with fail
      exact ⟨rfl, _, results_none rfl _ _ _, rfl, v, by rw [seamF_end rfl, if_pos rfl, List.append_nil]; exact unhide HL, unhide HP⟩
    | false =>
      have cl := cell_of_row _ _ 0 _ _ _ (unhide HL).row
      simp at cl
      have HL2 := hide ((unhide HL).old ((Kept.refl [] w).alloc (.cells #[.int .u64 (lo : Int), .int .u64 (m : Int)] 92)))
      have HP2 := hide ((unhide HP).kept (unhide HL).kept.size ((Kept.refl [] w).alloc (.cells #[.int .u64 (lo : Int), .int .u64 (m : Int)] 92)) (by simp))
      have HN2 := hide (heap_alloc_new w (.cells #[.int .u64 (lo : Int), .int .u64 (m : Int)] 92))
      have HBB := hide (unhide HL2).kept.size
      have HSL := hide (by have := unhide HS; omega : ss.length + 1 ≤ 1000000000000)
      clear HL HP
      go_enter Tryd.func56, Tryd.ntmps56
      go_wp2_with ((at_builtin; refine wpList_pushSp rfl (.tmp 15) (.tmp 19) rfl rfl _ W0.heap.size v ss lo m w.heap.size (unhide HL2).own (unhide HN2) (unhide HSL) (unhide HBB) rfl rfl ?_; intro g cap w3 HO3 HG3; have HLP := hide ((unhide HL2).push (x := lo) (y := m) (unhide HO3) (unhide HG3)); have cb := (unhide HLP).2.1; have zb := frozen_of_row _ _ 0 _ _ (unhide HLP).2.2; have HKW := hide ((Kept.refl v.ownBlock.toList (w.alloc (.cells #[.int .u64 (lo : Int), .int .u64 (m : Int)] 92))).grown (unhide HG3) (by intro k hk; left; simp [hk])); clear HO3 HG3))
      refine ⟨rfl, _, results_none rfl _ _ _, rfl, _, by rw [seamF_end rfl]; exact (unhide HLP).1, ?_⟩
      refine ((unhide HP2).kept (unhide HBB) (unhide HKW) ?_).kept (Nat.le_trans (unhide HBB) (unhide HKW).size) ((Kept.refl [bl] w3).setCell (p := ⟨bl, 0, none⟩) (Or.inl (by simp)) _) ?_
      · intro b hb
        right
        exact ((unhide HL2).own.lt b (by simpa using hb)).1
      · intro b hb
        left
        simpa using hb

set_option maxRecDepth 100000 in
set_option maxHeartbeats 1000000 in
theorem seamC_any (W0 : World) (bi bc bl m : Nat) : ∀ (c lo hi : Nat) (wh : Bool) (ss : List (Nat × Nat)) (v : Value) (w : World), lo < m → m ≤ hi → hi - lo ≤ 2 ^ c → hi < 18446744073709551616 → ss.length + c ≤ 1000000 → Lst W0 bl ss w v → SeamW bi bc m bl W0 w →
    Calls Tryd.prog 56 #[.int .u64 lo, .int .u64 hi, .bool wh, .pointer (some ⟨bi, 0, none⟩), .pointer (some ⟨bl, 0, none⟩), .pointer (some ⟨bc, 0, none⟩)] w fun e w' => e = .returned (.tuple #[]) ∧ ∃ u, Lst W0 bl (ss ++ seamF m c lo hi wh) w' u ∧ SeamW bi bc m bl W0 w' := by
  intro c
  induction c with
  | zero =>
    intro lo hi wh ss v w h1 h0 h2 h3 h4 HL HP
    have e : hi = m := by simp at h2; omega
    subst e
    exact seamC_end W0 bi bc bl hi 0 lo wh ss v w h4 HL HP
  | succ c ih =>
    intro lo hi wh ss v w h1 h0 h2 h3 h4 HL HP
    by_cases hone : m = hi
    · subst hone
      exact seamC_end W0 bi bc bl m (c + 1) lo wh ss v w h4 HL HP
    · have HL := hide HL
      have HP := hide HP
      have HIH := hide ih
      have HS := hide h4
      clear ih h4
      have hne : ¬ (m : Int) = (hi : Int) := by omega
      have HSP := hide (msplit_any lo hi w (by omega) h3)
      have hb := belT_lt (n := hi - lo) (by omega)
      have hb2 := belT_half (n := hi - lo) (c := c) (by omega) h2
      have HPL := hide (fun h => seamF_l (m := m) (c := c) (lo := lo) (hi := hi) (wh := wh) hone h)
      have HPR := hide (fun h => seamF_r (m := m) (c := c) (lo := lo) (hi := hi) (wh := wh) hone h)
      obtain ⟨md, hm⟩ : ∃ md, lo + belT (hi - lo) = md := ⟨_, rfl⟩
      rw [hm] at HSP HPL HPR
      have hm1 : lo < md := by omega
      have hm2 : md < hi := by omega
      have HB := hide (by omega : md - lo ≤ 2 ^ c ∧ hi - md ≤ 2 ^ c)
      have HSZ := hide (unhide HL).kept.size
      clear hb hb2 h2 hm
      have ci := cell_of_row _ _ 0 _ _ _ (unhide HP).hi
      simp at ci
      go_enter Tryd.func56, Tryd.ntmps56
      go_wp2_with fail
      refine (unhide HSP).mono ?_
      rintro e w1 ⟨rfl, k1⟩
      have HL1 := hide ((unhide HL).old k1)
      have HP1 := hide ((unhide HP).kept (unhide HSZ) k1 (by simp))
      have HSZ1 := hide (unhide HL1).kept.size
      clear HL HP k1 HSP HSZ ci
      have ci := cell_of_row _ _ 0 _ _ _ (unhide HP1).hi
      have cc := cell_of_row _ _ 0 _ _ _ (unhide HP1).hc
      unfold seamV at cc
      simp at ci cc
      by_cases him : m ≤ md
      · have him' : (m : Int) ≤ (md : Int) := by omega
        have HR1 := hide (unhide HIH lo md wh ss v w1 (by omega) (by omega) (unhide HB).1 (by omega) (by have := unhide HS; omega) (unhide HL1) (unhide HP1))
        have HSL := hide (by have := unhide HS; have := seamF_len m c lo md wh; rw [List.length_append]; omega : (ss ++ seamF m c lo md wh).length + 1 ≤ 1000000000000)
        have HEQ := hide (unhide HPL him)
        clear HIH HB HPL HPR
        go_wp2_with fail
        refine (unhide HR1).mono ?_
        rintro e w2 ⟨rfl, u, l2, p2⟩
        have HL2 := hide (l2.old ((Kept.refl [] w2).alloc (.cells #[.int .u64 (md : Int), .int .u64 (hi : Int)] 92)))
        have HP2 := hide (p2.kept l2.kept.size ((Kept.refl [] w2).alloc (.cells #[.int .u64 (md : Int), .int .u64 (hi : Int)] 92)) (by simp))
        have HN2 := hide (heap_alloc_new w2 (.cells #[.int .u64 (md : Int), .int .u64 (hi : Int)] 92))
        have cl := cell_of_row _ _ 0 _ _ _ l2.row
        simp at cl
        have HBB := hide (unhide HL2).kept.size
        clear l2 p2 HR1 HL1 HP1 ci cc HSZ1
        obtain ⟨ts, hts⟩ : ∃ ts, ss ++ seamF m c lo md wh = ts := ⟨_, rfl⟩
        rw [hts] at HL2 HSL
        have HTS := hide hts
        clear hts
        go_wp2_with ((at_builtin; refine wpList_pushSp rfl (.tmp 32) (.tmp 36) rfl rfl _ W0.heap.size u ts md hi w2.heap.size (unhide HL2).own (unhide HN2) (unhide HSL) (unhide HBB) rfl rfl ?_; intro g cap w3 HO3 HG3; have HLP := hide ((unhide HL2).push (x := md) (y := hi) (unhide HO3) (unhide HG3)); have cb := (unhide HLP).2.1; have zb := frozen_of_row _ _ 0 _ _ (unhide HLP).2.2; have HKW := hide ((Kept.refl u.ownBlock.toList (w2.alloc (.cells #[.int .u64 (md : Int), .int .u64 (hi : Int)] 92))).grown (unhide HG3) (by intro k hk; left; simp [hk])); clear HO3 HG3))
        refine ⟨rfl, _, results_none rfl _ _ _, rfl, _, by rw [unhide HEQ, ← List.append_assoc, unhide HTS]; exact (unhide HLP).1, ?_⟩
        refine ((unhide HP2).kept (unhide HBB) (unhide HKW) ?_).kept (Nat.le_trans (unhide HBB) (unhide HKW).size) ((Kept.refl [bl] w3).setCell (p := ⟨bl, 0, none⟩) (Or.inl (by simp)) _) ?_
        · intro b hb
          right
          exact ((unhide HL2).own.lt b (by simpa using hb)).1
        · intro b hb
          left
          simpa using hb
      · have him' : ¬ (m : Int) ≤ (md : Int) := by omega
        have HR1 := hide (unhide HIH md hi false ss v w1 (by omega) (by omega) (unhide HB).2 (by omega) (by have := unhide HS; omega) (unhide HL1) (unhide HP1))
        have HSL := hide (by have := unhide HS; have := seamF_len m c md hi false; rw [List.length_append]; omega : (ss ++ seamF m c md hi false).length + 1 ≤ 1000000000000)
        have HEQ := hide (unhide HPR him)
        clear HIH HB HPL HPR
        go_wp2_with fail
        refine (unhide HR1).mono ?_
        rintro e w2 ⟨rfl, u, l2, p2⟩
        have HL2 := hide (l2.old ((Kept.refl [] w2).alloc (.cells #[.int .u64 (lo : Int), .int .u64 (md : Int)] 92)))
        have HP2 := hide (p2.kept l2.kept.size ((Kept.refl [] w2).alloc (.cells #[.int .u64 (lo : Int), .int .u64 (md : Int)] 92)) (by simp))
        have HN2 := hide (heap_alloc_new w2 (.cells #[.int .u64 (lo : Int), .int .u64 (md : Int)] 92))
        have cl := cell_of_row _ _ 0 _ _ _ l2.row
        simp at cl
        have HBB := hide (unhide HL2).kept.size
        clear l2 p2 HR1 HL1 HP1 ci cc HSZ1
        obtain ⟨ts, hts⟩ : ∃ ts, ss ++ seamF m c md hi false = ts := ⟨_, rfl⟩
        rw [hts] at HL2 HSL
        have HTS := hide hts
        clear hts
        go_wp2_with ((at_builtin; refine wpList_pushSp rfl (.tmp 42) (.tmp 46) rfl rfl _ W0.heap.size u ts lo md w2.heap.size (unhide HL2).own (unhide HN2) (unhide HSL) (unhide HBB) rfl rfl ?_; intro g cap w3 HO3 HG3; have HLP := hide ((unhide HL2).push (x := lo) (y := md) (unhide HO3) (unhide HG3)); have cb := (unhide HLP).2.1; have zb := frozen_of_row _ _ 0 _ _ (unhide HLP).2.2; have HKW := hide ((Kept.refl u.ownBlock.toList (w2.alloc (.cells #[.int .u64 (lo : Int), .int .u64 (md : Int)] 92))).grown (unhide HG3) (by intro k hk; left; simp [hk])); clear HO3 HG3))
        refine ⟨rfl, _, results_none rfl _ _ _, rfl, _, by rw [unhide HEQ, ← List.append_assoc, unhide HTS]; exact (unhide HLP).1, ?_⟩
        refine ((unhide HP2).kept (unhide HBB) (unhide HKW) ?_).kept (Nat.le_trans (unhide HBB) (unhide HKW).size) ((Kept.refl [bl] w3).setCell (p := ⟨bl, 0, none⟩) (Or.inl (by simp)) _) ?_
        · intro b hb
          right
          exact ((unhide HL2).own.lt b (by simpa using hb)).1
        · intro b hb
          left
          simpa using hb
end Go.Proofs.YtecadmldnjlibaaDoor
namespace Go.Proofs.YtecadmldnjlibaaDoor
open Go.RowKit Go.BigFrame
set_option linter.unusedVariables false
set_option linter.unusedSimpArgs false

/-- A list of ranges in memory of its own. -/
def SpAt (w0 w : World) (v : Value) (ss : List (Nat × Nat)) : Prop := ∃ base, w0.heap.size ≤ base ∧ w.ownsRow base 92 2 v ss.length (cellsS ss)
theorem SpAt.form {w0 w : World} {v : Value} {ss : List (Nat × Nat)} (h : SpAt w0 w v ss) : ∃ ao cap, v = .slice ao ss.length cap := by
  obtain ⟨base, _, h⟩ := h
  rcases h.2 with ⟨rfl, h0⟩ | ⟨g, cap, cur, rfl, _⟩
  · exact ⟨none, 0, by rw [h0]⟩
  · exact ⟨_, cap, rfl⟩
theorem SpAt.old {w0 w w' : World} {v : Value} {ss : List (Nat × Nat)} (h : SpAt w0 w v ss) (k : Kept [] w w') : SpAt w0 w' v ss := by
  obtain ⟨base, hb, h⟩ := h
  exact ⟨base, hb, k.owns h (by simp)⟩

set_option maxRecDepth 100000 in
set_option maxHeartbeats 1000000 in
theorem path_any (i n : Nat) (w : World) (hi : i < n) (hn : n < 18446744073709551616) :
    Calls Tryd.prog 41 #[.int .u64 i, .int .u64 n] w fun e w' => ∃ v, e = .returned v ∧ SpAt w w' v (pathF i 64 0 n) ∧ Kept [] w w' := by
  have k0 := ((Kept.refl [] w).alloc (.cells #[.int .u64 (i : Int)] 49)).alloc (.cells #[.slice none 0 0] 80)
  have G3 := alloc3_at w (.cells #[.int .u64 (i : Int)] 49) (.cells #[.slice none 0 0] 80) (.cells #[.nilFunc] 93)
  have cS := cell_of_row _ _ 0 _ _ _ G3
  have fS := frozen_of_row _ _ 0 _ _ G3
  rw [show (#[Value.nilFunc] : Array Value)[0]? = some .nilFunc from rfl] at cS
  have k2 := k0.alloc (.cells #[pathV w.heap.size (w.heap.size + 1 + 1) (w.heap.size + 1)] 93)
  have G4 := alloc3_at w (.cells #[.int .u64 (i : Int)] 49) (.cells #[.slice none 0 0] 80) (.cells #[pathV w.heap.size (w.heap.size + 1 + 1) (w.heap.size + 1)] 93)
  have GT := (((Kept.refl [] (w.alloc (.cells #[.int .u64 (i : Int)] 49))).alloc (.cells #[.slice none 0 0] 80)).alloc (.cells #[pathV w.heap.size (w.heap.size + 1 + 1) (w.heap.size + 1)] 93)).heap (heap_alloc_new w (.cells #[.int .u64 (i : Int)] 49)) (by simp)
  have GZ := ((Kept.refl [] ((w.alloc (.cells #[.int .u64 (i : Int)] 49)).alloc (.cells #[.slice none 0 0] 80))).alloc (.cells #[pathV w.heap.size (w.heap.size + 1 + 1) (w.heap.size + 1)] 93)).heap (alloc2_at w (.cells #[.int .u64 (i : Int)] 49) (.cells #[.slice none 0 0] 80)) (by simp)
  obtain ⟨X, hX⟩ : ∃ X, ((w.alloc (.cells #[.int .u64 (i : Int)] 49)).alloc (.cells #[.slice none 0 0] 80)).alloc (.cells #[pathV w.heap.size (w.heap.size + 1 + 1) (w.heap.size + 1)] 93) = X := ⟨_, rfl⟩
  have hsz : X.heap.size = w.heap.size + 3 := by rw [← hX]; simp
  rw [hX] at k2 G4 GT GZ
  have HL := (⟨Kept.refl _ _, GZ, World.ownsRow_nil _ _ _ _, by omega⟩ : Lst X (w.heap.size + 1) [] X (.slice none 0 0))
  have HP := (⟨G4, GT, ⟨by omega, by omega⟩, ⟨by omega, by omega⟩⟩ : PathW w.heap.size (w.heap.size + 1 + 1) i (w.heap.size + 1) X X)
  have HC := hide (pathC_any X w.heap.size (w.heap.size + 1 + 1) (w.heap.size + 1) i 64 0 n [] (.slice none 0 0) X (by omega) (by omega) hn (by simp) HL HP)
  have HX := hide (by rw [hsz]; omega : w.heap.size ≤ X.heap.size)
  have HK := hide k2
  rw [List.nil_append] at HC
  unfold pathV at hX
  have HXE := hide hX
  clear k0 k2 G3 G4 GT GZ HL HP hX hsz
  go_enter Tryd.func41, Tryd.ntmps41
  go_wp2_with (rw [run_store _ _ _ _ _ (by rfl), cS]; simp only [fS, Bool.false_eq_true, if_false, Result.andThen_ok])
  rw [unhide HXE]
  refine (unhide HC).mono ?_
  rintro e w5 ⟨rfl, u, l5, _⟩
  have cu := cell_of_row _ _ 0 _ _ _ l5.row
  simp at cu
  have HL5 := hide l5
  clear l5 cS fS HC
  go_wp2_with fail
  go_ret
  exact ⟨u, rfl, ⟨_, unhide HX, (unhide HL5).own⟩, (unhide HK).trans (unhide HL5).kept (by intro x hx; right; simp at hx; omega)⟩
end Go.Proofs.YtecadmldnjlibaaDoor
namespace Go.Proofs.YtecadmldnjlibaaDoor
open Go.RowKit Go.BigFrame
set_option linter.unusedVariables false
set_option linter.unusedSimpArgs false

/-- The ranges of a consistency proof of m and n. -/
def smL (m n : Nat) : List (Nat × Nat) := if m = 0 ∨ m = n then [] else seamF m 64 0 n true

set_option maxRecDepth 100000 in
set_option maxHeartbeats 1000000 in
theorem seam_any (m n : Nat) (w : World) (hm : m ≤ n) (hn : n < 18446744073709551616) :
    Calls Tryd.prog 42 #[.int .u64 m, .int .u64 n] w fun e w' => ∃ v, e = .returned v ∧ SpAt w w' v (smL m n) ∧ Kept [] w w' := by
  have c1 := cell_of_row _ _ 0 _ _ _ (heap_alloc_new w (.cells #[.int .u64 (m : Int)] 49))
  simp at c1
  by_cases h0 : m = 0
  · subst h0
    go_enter Tryd.func42, Tryd.ntmps42
    go_wp2_with fail
    go_ret
    exact ⟨_, rfl, ⟨_, Nat.le_refl _, by unfold smL; rw [if_pos (by simp)]; exact World.ownsRow_nil _ _ _ _⟩, (Kept.refl [] w).alloc _⟩
  · have h0' : ¬ (m : Int) = 0 := by omega
    by_cases h1 : m = n
    · subst h1
      go_enter Tryd.func42, Tryd.ntmps42
      go_wp2_with fail
      go_ret
      exact ⟨_, rfl, ⟨_, Nat.le_refl _, by unfold smL; rw [if_pos (by simp)]; exact World.ownsRow_nil _ _ _ _⟩, (Kept.refl [] w).alloc _⟩
    · have h1' : ¬ (m : Int) = (n : Int) := by omega
      have hb0 : ((m : Int) == 0) = false := by simp; omega
      have hb1 : ((m : Int) == (n : Int)) = false := by simp; omega
      have HSM := hide (by unfold smL; rw [if_neg (by omega)] : smL m n = seamF m 64 0 n true)
      have k0 := ((Kept.refl [] w).alloc (.cells #[.int .u64 (m : Int)] 49)).alloc (.cells #[.slice none 0 0] 80)
      have G3 := alloc3_at w (.cells #[.int .u64 (m : Int)] 49) (.cells #[.slice none 0 0] 80) (.cells #[.nilFunc] 95)
      have cS := cell_of_row _ _ 0 _ _ _ G3
      have fS := frozen_of_row _ _ 0 _ _ G3
      rw [show (#[Value.nilFunc] : Array Value)[0]? = some .nilFunc from rfl] at cS
      have k2 := k0.alloc (.cells #[seamV w.heap.size (w.heap.size + 1) (w.heap.size + 1 + 1)] 95)
      have G4 := alloc3_at w (.cells #[.int .u64 (m : Int)] 49) (.cells #[.slice none 0 0] 80) (.cells #[seamV w.heap.size (w.heap.size + 1) (w.heap.size + 1 + 1)] 95)
      have GT := (((Kept.refl [] (w.alloc (.cells #[.int .u64 (m : Int)] 49))).alloc (.cells #[.slice none 0 0] 80)).alloc (.cells #[seamV w.heap.size (w.heap.size + 1) (w.heap.size + 1 + 1)] 95)).heap (heap_alloc_new w (.cells #[.int .u64 (m : Int)] 49)) (by simp)
      have GZ := ((Kept.refl [] ((w.alloc (.cells #[.int .u64 (m : Int)] 49)).alloc (.cells #[.slice none 0 0] 80))).alloc (.cells #[seamV w.heap.size (w.heap.size + 1) (w.heap.size + 1 + 1)] 95)).heap (alloc2_at w (.cells #[.int .u64 (m : Int)] 49) (.cells #[.slice none 0 0] 80)) (by simp)
      obtain ⟨X, hX⟩ : ∃ X, ((w.alloc (.cells #[.int .u64 (m : Int)] 49)).alloc (.cells #[.slice none 0 0] 80)).alloc (.cells #[seamV w.heap.size (w.heap.size + 1) (w.heap.size + 1 + 1)] 95) = X := ⟨_, rfl⟩
      have hsz : X.heap.size = w.heap.size + 3 := by rw [← hX]; simp
      rw [hX] at k2 G4 GT GZ
      have HL := (⟨Kept.refl _ _, GZ, World.ownsRow_nil _ _ _ _, by omega⟩ : Lst X (w.heap.size + 1) [] X (.slice none 0 0))
      have HP := (⟨G4, GT, ⟨by omega, by omega⟩, ⟨by omega, by omega⟩⟩ : SeamW w.heap.size (w.heap.size + 1 + 1) m (w.heap.size + 1) X X)
      have HC := hide (seamC_any X w.heap.size (w.heap.size + 1 + 1) (w.heap.size + 1) m 64 0 n true [] (.slice none 0 0) X (by omega) (by omega) (by omega) hn (by simp) HL HP)
      have HX := hide (by rw [hsz]; omega : w.heap.size ≤ X.heap.size)
      have HK := hide k2
      rw [List.nil_append] at HC
      unfold seamV at hX
      have HXE := hide hX
      clear k0 k2 G3 G4 GT GZ HL HP hX hsz
      go_enter Tryd.func42, Tryd.ntmps42
      go_wp2_with (first | (simp only [hb0, hb1, Bool.or_self]) | (rw [run_store _ _ _ _ _ (by rfl), cS]; simp only [fS, Bool.false_eq_true, if_false, Result.andThen_ok]))
      rw [unhide HXE]
      refine (unhide HC).mono ?_
      rintro e w5 ⟨rfl, u, l5, _⟩
      have cu := cell_of_row _ _ 0 _ _ _ l5.row
      simp at cu
      have HL5 := hide l5
      clear l5 cS fS HC c1
      go_wp2_with fail
      go_ret
      exact ⟨u, rfl, ⟨_, unhide HX, by rw [unhide HSM]; exact (unhide HL5).own⟩, (unhide HK).trans (unhide HL5).kept (by intro x hx; right; simp at hx; omega)⟩

/-- What Counts answers. -/
def cntE (i m n : Nat) : Int := if n ≤ i ∨ n < m then 4 else 0
def cntA (i m n : Nat) : Int := if n ≤ i ∨ n < m then 0 else ((pathF i 64 0 n).length : Int)
def cntB (i m n : Nat) : Int := if n ≤ i ∨ n < m then 0 else ((smL m n).length : Int)

set_option maxRecDepth 100000 in
set_option maxHeartbeats 1000000 in
theorem counts_any (i m n : Nat) (w : World) (hi : i < 18446744073709551616) (hm : m < 18446744073709551616) (hn : n < 18446744073709551616) :
    Calls Tryd.prog 22 #[.int .u64 i, .int .u64 m, .int .u64 n] w fun e w' => e = .returned (.tuple #[.int .i64 (cntA i m n), .int .i64 (cntB i m n), .int .i64 (cntE i m n)]) ∧ Kept [] w w' := by
  unfold cntA cntB cntE
  by_cases h1 : n ≤ i
  · have h1' : (n : Int) ≤ (i : Int) := by omega
    rw [if_pos (Or.inl h1), if_pos (Or.inl h1), if_pos (Or.inl h1)]
    go_enter Tryd.func22, Tryd.ntmps22
    go_wp2_with fail
    all_goals exact ⟨rfl, _, results_tmp3 rfl _ _ _, rfl, Kept.refl _ _⟩
  · have h1' : ¬ (n : Int) ≤ (i : Int) := by omega
    by_cases h2 : n < m
    · have h2' : (n : Int) < (m : Int) := by omega
      rw [if_pos (Or.inr h2), if_pos (Or.inr h2), if_pos (Or.inr h2)]
      go_enter Tryd.func22, Tryd.ntmps22
      go_wp2_with fail
      all_goals exact ⟨rfl, _, results_tmp3 rfl _ _ _, rfl, Kept.refl _ _⟩
    · have h2' : ¬ (n : Int) < (m : Int) := by omega
      rw [if_neg (by omega), if_neg (by omega), if_neg (by omega)]
      have HSE := hide (fun W => seam_any m n W (by omega) hn)
      have HPA := hide (path_any i n w (by omega) hn)
      generalize pathF i 64 0 n = ps at HPA ⊢
      generalize smL m n = ss at HSE ⊢
      go_enter Tryd.func22, Tryd.ntmps22
      go_wp2_with fail
      refine (unhide HPA).mono ?_
      rintro e w1 ⟨v1, rfl, s1, k1⟩
      obtain ⟨a1, c1, rfl⟩ := s1.form
      have HK1 := hide k1
      clear s1 k1 HPA
      go_wp2_with fail
      refine (unhide HSE w1).mono ?_
      rintro e w2 ⟨v2, rfl, s2, k2⟩
      obtain ⟨a2, c2, rfl⟩ := s2.form
      have HK2 := hide ((unhide HK1).trans k2 (by simp))
      clear s2 k2 HSE
      go_wp2_with fail
      exact ⟨rfl, _, results_tmp3 rfl _ _ _, rfl, unhide HK2⟩
end Go.Proofs.YtecadmldnjlibaaDoor
namespace Go.Proofs.YtecadmldnjlibaaDoor
open Go.RowKit Go.BigFrame
set_option linter.unusedVariables false
set_option linter.unusedSimpArgs false

theorem RdD.nlP {w : World} {ao : Option Addr} {len cap : Nat} {ds : List (List Nat)} (h : RdD w (.slice ao len cap) ds) : ds.length = len := by
  obtain ⟨_, _, _, e, h1, _⟩ := h
  cases e; exact h1
theorem RdD.oneP {w : World} {g : Nat} {l : List Nat} {t : TypeId} {fr : Nat × Nat} (h : w.heap[g]? = some (.cells (brow l) t fr)) (hl : Dg l) : RdD w (.slice (some ⟨g, 0, none⟩) 1 1) [l] := by
  refine ⟨_, 1, 1, rfl, rfl, Nat.le_refl _, by omega, fun d hd => by simp at hd; subst hd; exact hl, fun _ => ⟨g, 0, rfl, fun i hi => ?_⟩⟩
  obtain rfl : i = 0 := by omega
  exact range_row h
/-- The cells of digests in a row. -/
def flatD (ds : List (List Nat)) : List Value := (ds.map fun d => d.map u8).flatten
theorem flatD_len {ds : List (List Nat)} (h : ∀ d ∈ ds, d.length = 32) : (flatD ds).length = ds.length * 32 := by
  induction ds with
  | nil => rfl
  | cons d r ih =>
    have := ih (fun x hx => h x (by simp [hx]))
    simp only [flatD, List.map_cons, List.flatten_cons, List.length_append, List.length_map, List.length_cons] at this ⊢
    rw [this, h d (by simp)]; omega
theorem flatD_app (a b : List (List Nat)) : flatD (a ++ b) = flatD a ++ flatD b := by simp [flatD]
theorem flatD_one (ds : List (List Nat)) : ∀ v ∈ flatD ds, v.oneCell' = true := by
  intro v hv
  simp only [flatD, List.mem_flatten, List.mem_map] at hv
  obtain ⟨l, ⟨d, _, rfl⟩, h⟩ := hv
  exact u8_oneCell d v h
theorem flatD_at {ds : List (List Nat)} (h : ∀ d ∈ ds, d.length = 32) : ∀ (i : Nat), i < ds.length → ∀ j, j < 32 → (flatD ds)[i * 32 + j]? = ((ds.getD i []).map u8)[j]? := by
  induction ds with
  | nil => intro i hi; simp at hi
  | cons d r ih =>
    intro i hi j hj
    have hd := h d (by simp)
    have e : flatD (d :: r) = d.map u8 ++ flatD r := by simp [flatD]
    rw [e]
    cases i with
    | zero =>
      rw [Nat.zero_mul, Nat.zero_add, List.getElem?_append_left (by simp [hd]; exact hj)]; rfl
    | succ i =>
      rw [List.getElem?_append_right (by simp [hd]; omega), List.length_map, hd, show (i + 1) * 32 + j - 32 = i * 32 + j by omega, ih (fun x hx => h x (by simp [hx])) i (by simpa using hi) j hj]
      rfl
theorem RdD.news {w : World} {b off n c : Nat} {ds : List (List Nat)} (h : RdD w (.slice (some ⟨b, off, none⟩) n c) ds) : ∀ j u, (flatD ds)[j]? = some u → w.cell? ((⟨b, off, none⟩ : Addr).add j) = some u := by
  obtain ⟨ao', len', cap', e, h1, h2, h3, h4, h5⟩ := h
  cases e
  intro j u hu
  have hl := flatD_len (fun d hd => (h4 d hd).1)
  have hj := (List.getElem?_eq_some_iff.1 hu).1
  have hp : 0 < n := by
    rcases Nat.eq_zero_or_pos n with h0 | h0
    · rw [hl, h1, h0] at hj; omega
    · exact h0
  obtain ⟨b', off', e, hc⟩ := h5 hp
  cases e
  have hi : j / 32 < ds.length := by omega
  have hq := flatD_at (fun d hd => (h4 d hd).1) (j / 32) hi (j % 32) (Nat.mod_lt _ (by decide))
  rw [show j / 32 * 32 + j % 32 = j by omega, hu] at hq
  have := hc (j / 32) (by omega) (j % 32) u hq.symm
  rw [Addr.add_mid]
  rw [show off + j / 32 * 32 + j % 32 = off + j by omega] at this
  exact this
theorem rdd_owns {w : World} {base : Nat} {v : Value} {ds : List (List Nat)} (h : w.ownsRow base 41 32 v ds.length (flatD ds)) (hd : ∀ d ∈ ds, Dg d) : RdD w v ds := by
  rcases h.2 with ⟨rfl, h0⟩ | ⟨g, cap, cur, rfl, _, hg, h1, h2, h3, h4⟩
  · exact ⟨none, 0, 0, rfl, h0, Nat.le_refl _, by omega, hd, fun h => by omega⟩
  · refine ⟨_, ds.length, cap, rfl, rfl, h1, by unfold maxLen at h2; omega, hd, fun hp => ⟨g, 0, rfl, fun i hi j v hv => ?_⟩⟩
    have hj : j < 32 := by
      have := (List.getElem?_eq_some_iff.1 hv).1
      rw [List.length_map, List.getD_eq_getElem?_getD, List.getElem?_eq_getElem hi] at this
      rw [← (hd ds[i] (List.getElem_mem hi)).1]; exact this
    have hq := flatD_at (fun d hd' => (hd d hd').1) i hi j hj
    rw [Nat.zero_add, cell_of_row _ _ _ _ _ _ hg, ← hv, ← hq, ← h4, List.getElem?_take_of_lt (by omega), Array.getElem?_toList]

theorem Tryd.infoD : (Tryd.prog.info? 41).map (fun i => (i.zero, i.size, i.bytes)) = some (some (.agg (zb 32)), 32, 32) := by kernel_rfl

theorem owns_form {w : World} {base : Nat} {e : TypeId} {size n : Nat} {v : Value} {xs : List Value} (h : w.ownsRow base e size v n xs) : ∃ ao cap, v = .slice ao n cap := by
  rcases h.2 with ⟨rfl, rfl⟩ | ⟨g, cap, cur, rfl, _⟩
  · exact ⟨none, 0, rfl⟩
  · exact ⟨_, cap, rfl⟩
theorem append_none {P : Program} {w : World} (base : Nat) (t ty e : TypeId) (i : TypeInfo) (size c : Nat) (ht : P.underlying t = some (.slice e)) (hi : P.info? e = some i)
    (v : Value) (n : Nat) (xs : List Value) (hown : w.ownsRow base e size v n xs) :
    (Builtin.append_ #[t, t] ty #[v, .slice none 0 c]).run P w = .ok v w := by
  rcases hown.2 with ⟨rfl, rfl⟩ | ⟨g, cap, cur, rfl, _, _, hnc, _⟩
  · simp [Builtin.append_, run_underlying ht, sizeOf, typeInfo, hi, Builtin.lenOf, Builtin.firstCells]
  · simp [Builtin.append_, run_underlying ht, sizeOf, typeInfo, hi, Builtin.lenOf, Builtin.firstCells, hnc, storeCells]

theorem appendD (w : World) (base : Nat) (v : Value) (ds ps : List (List Nat)) (ao : Option Addr) (n c : Nat) (h : w.ownsRow base 41 32 v ds.length (flatD ds)) (hr : RdD w (.slice ao n c) ps) (hl : ds.length + ps.length ≤ 1000000000000) (hb : base ≤ w.heap.size) :
    ∃ ao' cap' w1, (Builtin.append_ #[32, 32] 32 #[v, .slice ao n c]).run Tryd.prog w = .ok (.slice ao' (ds.length + ps.length) cap') w1 ∧
      w1.ownsRow base 41 32 (.slice ao' (ds.length + ps.length) cap') (ds ++ ps).length (flatD (ds ++ ps)) ∧ w.grownBy w1 v.ownBlock := by
  obtain ⟨i0, hi, hz0, hz1, hz2⟩ := info_parts Tryd.infoD
  have hn := hr.nlP
  have hdg : ∀ d ∈ ps, d.length = 32 := fun d hd => (hr.dg hd).1
  rw [flatD_app, List.length_append]
  by_cases h0 : n = 0
  · subst h0
    have hp : ps = [] := List.eq_nil_of_length_eq_zero hn
    subst hp
    cases ao with
    | none =>
      have hrun := append_none (P := Tryd.prog) (w := w) base 32 32 41 i0 32 c Tryd.underlying32 hi v ds.length (flatD ds) h
      obtain ⟨ao', cap', rfl⟩ := owns_form h
      exact ⟨ao', cap', w, hrun, by simpa [flatD] using h, World.grownBy.refl _ _⟩
    | some ad =>
      obtain ⟨v', w1, hrun, hown, hgrow, _, hat⟩ := run_append_own_at (P := Tryd.prog) w base 32 32 41 i0 (.agg (zb 32)) 32 32 Tryd.underlying32 hi hz0 hz1 hz2 (by show (zb 32).size = 32; exact zb_size 32) (by decide)
        v ds.length (flatD ds) h ad 0 c (flatD []) (by simp [flatD]) (by intro j u hj; simp [flatD] at hj) (flatD_one _) (by unfold maxLen; omega) (by omega) hb
      obtain ⟨ao', cap', rfl⟩ := owns_form hown
      exact ⟨ao', cap', w1, hrun, hown, hgrow⟩
  · have hr' := hr
    obtain ⟨ao1, n1, c1, he, h1, h2, h3, h4, h5⟩ := hr'
    cases he
    obtain ⟨b, off, rfl, hc⟩ := h5 (by omega)
    obtain ⟨v', w1, hrun, hown, hgrow, _, hat⟩ := run_append_own_at (P := Tryd.prog) w base 32 32 41 i0 (.agg (zb 32)) 32 32 Tryd.underlying32 hi hz0 hz1 hz2 (by show (zb 32).size = 32; exact zb_size 32) (by decide)
      v ds.length (flatD ds) h ⟨b, off, none⟩ n c (flatD ps) (by rw [flatD_len hdg, hn]) hr.news (flatD_one _) (by unfold maxLen; omega) (by omega) hb
    subst h1
    obtain ⟨ao', cap', rfl⟩ := owns_form hown
    exact ⟨ao', cap', w1, hrun, hown, hgrow⟩

theorem wpList_appendD {ops : Array Oper} {rest : List Oper} {o : Oper} {a : Act} {Q : Exit → Act → World → Prop} (hgd : o.guard = none) (s x : Operand)
    (ho : o.op = .call { callee := .builtin .append, args := #[s, x], argTypes := #[32, 32] }) (hty : o.type = 32)
    (w : World) (base : Nat) (v : Value) (ds ps : List (List Nat)) (ao : Option Addr) (n c : Nat) (h : w.ownsRow base 41 32 v ds.length (flatD ds)) (hr : RdD w (.slice ao n c) ps) (hl : ds.length + ps.length ≤ 1000000000000) (hb : base ≤ w.heap.size)
    (hs : a.eval s = v) (hx : a.eval x = .slice ao n c)
    (hK : ∀ ao' cap' w1, Hid (w1.ownsRow base 41 32 (.slice ao' (ds.length + ps.length) cap') (ds ++ ps).length (flatD (ds ++ ps))) → Hid (w.grownBy w1 v.ownBlock) →
      wpList Tryd.prog ops Q rest (a.put o.dst (.slice ao' (ds.length + ps.length) cap')) w1) :
    wpList Tryd.prog ops Q (o :: rest) a w := by
  obtain ⟨ao', cap', w1, hrun, h2, h3⟩ := appendD w base v ds ps ao n c h hr hl hb
  refine wpList_plain hgd fun K hK' => ?_
  unfold Oper.wp execOp
  simp only [ho, hty, resolve, invoke, builtin, Sem.run_bind, Sem.run_pure, Result.andThen_ok, List.map_toArray, List.map_cons, List.map_nil, hs, hx, hrun]
  exact hK' _ _ (hK ao' cap' w1 h2 h3)

end Go.Proofs.YtecadmldnjlibaaDoor
