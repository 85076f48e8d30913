import Derived.Test.YthampopakcdgnaaEFixM
import Derived.Test.YthampopakcdgnaaEDecB
import Derived.Test.YthampopakcdgnaaEDec2
import Derived.Test.YthampopakcdgnaaERoot
import Derived.Test.YthampopakcdgnaaEDRoot
import Derived.Test.YthampopakcdgnaaRowz
import Derived.Deep.RegionHeld3
import Derived.Test.YthampopakcdgnaaEAw
import Derived.Test.YthampopakcdgnaaEBat2
import Derived.Test.YthampopakcdgnaaQKeep
import Derived.Test.YthampopakcdgnaaQTail
import Derived.Test.YthampopakcdgnaaBase
import Derived.Test.YthampopakcdgnaaRows
import Derived.ProofKit
import Derived.OpenShut
import Derived.Deep.Slices
import Derived.SizedLaws
namespace Go.Proofs.Ythampopakcdgnaa
open Go.RowKit Go.BigFrame
set_option linter.unusedVariables false
set_option linter.unusedSimpArgs false

def tupF : Value → Nat → Value
  | .tuple vs, i => vs.getD i undef
  | _, _ => undef
def e0 : En := ⟨1, List.replicate 64 0, List.replicate 256 0⟩
theorem chk_e0 : chkE e0 = 0 := (chkE_rep 1 64 256).trans (by decide)
theorem fold_e0 (a : Nat) : ∀ n, (List.replicate n e0).foldl (fun a e => leastE a (chkE e)) a = a
  | 0 => rfl
  | n + 1 => by
    rw [List.replicate_succ, List.foldl_cons, chk_e0]
    have h : leastE a 0 = a := by
      unfold leastE
      by_cases h : a = 0
      · rw [if_pos (Or.inl h), h]
      · rw [if_neg (by omega)]
    rw [h]
    exact fold_e0 a n
theorem chkB_many (f n : Nat) : chkB f (List.replicate n e0) = cntE f n := by
  unfold chkB
  rw [fold_e0, List.length_replicate]
theorem enB_e0 : (enB e0).length = 324 := by
  have h1 : (uv 64).length = 1 := by decide +kernel
  have h2 : (uv 256).length = 2 := by decide +kernel
  unfold enB e0
  simp only [List.length_replicate, if_true, List.length_cons, List.length_append, h1, h2]
theorem batB_many : (batB 18446744073709551551 (List.replicate 64 e0)).length = 20747 := by
  have h1 : (uv 18446744073709551551).length = 10 := by decide +kernel
  have h2 : (uv 64).length = 1 := by decide +kernel
  have h3 : ∀ n, (entB (List.replicate n e0)).length = 324 * n := by
    intro n
    induction n with
    | zero => rfl
    | succ n ih =>
      unfold entB at ih ⊢
      rw [List.replicate_succ, List.map_cons, List.flatten_cons, List.length_append, ih, enB_e0]
      omega
  unfold batB
  rw [List.length_append, List.length_append, h3, List.length_replicate, h1, h2]
theorem many_fst (gk gv n m : Nat) (h : n ≤ m) : ((List.replicate m (fx0 gk gv)).take n).map (·.1) = List.replicate n e0 := by
  rw [List.take_replicate, Nat.min_eq_left h, List.map_replicate]
  rfl
theorem chkB_two : chkB 0 [⟨0, [], []⟩, ⟨1, List.replicate 65 0, []⟩] = 2 := by
  have h1 : chkE ⟨0, [], []⟩ = 3 := (chkE_rep 0 0 0).trans (by decide)
  have h2 : chkE ⟨1, List.replicate 65 0, []⟩ = 2 := (chkE_rep 1 65 0).trans (by decide)
  unfold chkB
  simp only [List.foldl_cons, List.foldl_nil, h1, h2, List.length_cons, List.length_nil]
  decide
theorem chkB_none : chkB 0 [] = 3 := by decide
theorem decB_65 : (decB [0, 65]).2.2 = 2 := by decide +kernel
theorem decB_0 : (decB [0, 0]).2.2 = 3 := by decide +kernel
theorem decE_1 : (decE [1, 65]).2 = 2 := by decide +kernel
theorem decE_3 : (decE [3, 65]).2 = 3 := by decide +kernel
theorem rootE_33 (l m : List Nat) : rootE 33 l m = 1 := by unfold rootE; rw [if_pos (by decide)]
theorem rootE_1 : rootE 1 z32 (0 :: 1 :: List.replicate 30 0) = 3 := by decide +kernel
theorem decR_0 (p : List Nat) : decR 0 p = (0, z32, z32, 1) := by unfold decR; rw [if_pos (by decide)]
theorem decR_1 : decR 1 (List.replicate 11 0) = (0, z32, z32, 3) := by unfold decR; rw [if_neg (by decide), if_pos (by decide)]
end Go.Proofs.Ythampopakcdgnaa
/-
  Laws for drawn regions, by genreg.py. No program.
-/
namespace Go.Proofs.Ythampopakcdgnaa
open Go Go.RowKit Go.BigFrame
set_option linter.unusedVariables false
set_option linter.unusedSimpArgs false
section
variable {P : Program} {Q : Exit → Act → World → Prop}
theorem wp_fx4 {id : Nat} {o0 o1 o2 o3 : Oper} {a : Act} {w : World} (hm : P.follows .mixedOrders = true) (hs : Region.noSelect #[o0, o1, o2, o3] = true)
    (q_ : Region.ready .any #[o0, o1, o2, o3] #[false, false, false, false] = [0, 1])
    (f_0_2 : Region.free .any #[o0, o1, o2, o3] #[true, false, false, false] 2 = true) (r_0_2 : (Region.ready .any #[o0, o1, o2, o3] #[true, false, false, false]).contains 2 = true)
    (q0_ : Region.ready .any #[o0, o1, o2, o3] #[true, false, true, false] = [1])
    (f0_1_3 : Region.free .any #[o0, o1, o2, o3] #[true, true, true, false] 3 = true) (r0_1_3 : (Region.ready .any #[o0, o1, o2, o3] #[true, true, true, false]).contains 3 = true)
    (q1_ : Region.ready .any #[o0, o1, o2, o3] #[false, true, false, false] = [0])
    (f1_0_2 : Region.free .any #[o0, o1, o2, o3] #[true, true, false, false] 2 = true) (r1_0_2 : (Region.ready .any #[o0, o1, o2, o3] #[true, true, false, false]).contains 2 = true)
    (f1_0_3 : Region.free .any #[o0, o1, o2, o3] #[true, true, true, false] 3 = true) (r1_0_3 : (Region.ready .any #[o0, o1, o2, o3] #[true, true, true, false]).contains 3 = true)
    (q0_1_ : Region.ready .any #[o0, o1, o2, o3] #[true, true, true, true] = [])
    (g0 : o0.guard = none)    (g1 : o1.guard = none)
    (ne2_1 : ∀ d, o2.dst = some d → o1.dst ≠ some d)
    (ne1_0 : ∀ d, o1.dst = some d → o0.dst ≠ some d)
    (S : World → Prop)
    (I_ : World → Prop)
    (I0_ : Value → World → Prop)
    (I1_ : Value → World → Prop)
    (I0_1_ : Value → Value → World → Prop)
    (v2 : Value → Value)
    (v3 : Value → Value → Value)
    (i0 : I_ w.drew)
    (hIS : (∀ w', I_  w' → S w') ∧ (∀ (u0 : Value) w', I0_ u0 w' → S w') ∧ (∀ (u1 : Value) w', I1_ u1 w' → S w') ∧ (∀ (u0 u1 : Value) w', I0_1_ u0 u1 w' → S w'))
    (s_0 : ∀ w', I_  w' → ∀ K : Act → World → Prop, (∀ (u0 : Value) w2, I0_ u0 w2 → K (a.put o0.dst u0) w2) → o0.wp P a w' K (NoPanic Q))
    (s_1 : ∀ w', I_  w' → ∀ K : Act → World → Prop, (∀ (u1 : Value) w2, I1_ u1 w2 → K (a.put o1.dst u1) w2) → o1.wp P a w' K (NoPanic Q))
    (s0_1 : ∀ (u0 : Value) w', I0_ u0 w' → ∀ K : Act → World → Prop, (∀ (u1 : Value) w2, I0_1_ u0 u1 w2 → K (((a.put o0.dst u0).put o2.dst (v2 u0)).put o1.dst u1) w2) → o1.wp P ((a.put o0.dst u0).put o2.dst (v2 u0)) w' K (NoPanic Q))
    (s1_0 : ∀ (u1 : Value) w', I1_ u1 w' → ∀ K : Act → World → Prop, (∀ (u0 : Value) w2, I0_1_ u0 u1 w2 → K ((a.put o1.dst u1).put o0.dst u0) w2) → o0.wp P (a.put o1.dst u1) w' K (NoPanic Q))
    (y_0_2 : ∀ (u0 : Value) w', I0_ u0 w' → YieldsIf P #[o0, o1, o2, o3] S o2 (v2 u0) (a.put o0.dst u0))
    (y0_1_3 : ∀ (u0 u1 : Value) w', I0_1_ u0 u1 w' → YieldsIf P #[o0, o1, o2, o3] S o3 (v3 u0 u1) (((a.put o0.dst u0).put o1.dst u1).put o2.dst (v2 u0)))
    (y1_0_2 : ∀ (u0 u1 : Value) w', I0_1_ u0 u1 w' → YieldsIf P #[o0, o1, o2, o3] S o2 (v2 u0) ((a.put o0.dst u0).put o1.dst u1))
    (y1_0_3 : ∀ (u0 u1 : Value) w', I0_1_ u0 u1 w' → YieldsIf P #[o0, o1, o2, o3] S o3 (v3 u0 u1) (((a.put o0.dst u0).put o1.dst u1).put o2.dst (v2 u0)))
    (h : ∀ (u0 u1 : Value) w', I0_1_ u0 u1 w' → Q .normal ((((a.put o0.dst u0).put o1.dst u1).put o2.dst (v2 u0)).put o3.dst (v3 u0 u1)) w') :
    (Code.region id #[o0, o1, o2, o3] true).wp P Q a w := by
  obtain ⟨z_, z0_, z1_, z0_1_⟩ := hIS
  refine wp_region_noPanic ?_
  refine wp_region_held_drew (S := S) hm (z_ _ i0) (fun hH => ?_)
  show wpAnyH P .any #[o0, o1, o2, o3] (NoPanic Q) S 4 #[false, false, false, false] a w.drew
  have wa0 : ∀ y, Region.wanted o0 y = true := fun y => by unfold Region.wanted; rw [g0]
  have wa1 : ∀ y, Region.wanted o1 y = true := fun y => by unfold Region.wanted; rw [g1]
  have t0_1_ : ∀ (u0 u1 : Value) w', I0_1_ u0 u1 w' → wpAnyH P .any #[o0, o1, o2, o3] (NoPanic Q) S 0 #[true, true, true, true] ((((a.put o0.dst u0).put o1.dst u1).put o2.dst (v2 u0)).put o3.dst (v3 u0 u1)) w' := by
    intro u0 u1 w0 i0
    exact ⟨q0_1_, NoPanic.normal (h u0 u1 w0 i0)⟩
  have t1_ : ∀ (u1 : Value) w', I1_ u1 w' → wpAnyH P .any #[o0, o1, o2, o3] (NoPanic Q) S 3 #[false, true, false, false] (a.put o1.dst u1) w' := by
    intro u1 w0 i0
    refine wpAnyH_ready (rs := [0]) q1_ (by simp) (AllReadyH.cons (o := o0) rfl (fun K hK => ?_) AllReadyH.nil)
    · rw [if_pos (wa0 _)]
      refine s1_0 u1 w0 i0 K (fun u0 w1 i1 => hK.out _ _ (z0_1_ u0 u1 w1 i1) (fun _ => ?_))
      clear hK
      rw [Act.put_comm _ _ _ ne1_0]
      refine wpAnyH_take (i := 2) (oi := o2) rfl hs f1_0_2 r1_0_2 (fun _ _ _ h => h) (y1_0_2 u0 u1 w1 i1) (z0_1_ u0 u1 w1 i1) ?_
      refine wpAnyH_take (i := 3) (oi := o3) rfl hs f1_0_3 r1_0_3 (fun _ _ _ h => h) (y1_0_3 u0 u1 w1 i1) (z0_1_ u0 u1 w1 i1) ?_
      exact t0_1_ u0 u1 w1 i1
  have t0_ : ∀ (u0 : Value) w', I0_ u0 w' → wpAnyH P .any #[o0, o1, o2, o3] (NoPanic Q) S 2 #[true, false, true, false] ((a.put o0.dst u0).put o2.dst (v2 u0)) w' := by
    intro u0 w0 i0
    refine wpAnyH_ready (rs := [1]) q0_ (by simp) (AllReadyH.cons (o := o1) rfl (fun K hK => ?_) AllReadyH.nil)
    · rw [if_pos (wa1 _)]
      refine s0_1 u0 w0 i0 K (fun u1 w1 i1 => hK.out _ _ (z0_1_ u0 u1 w1 i1) (fun _ => ?_))
      clear hK
      rw [Act.put_comm _ _ _ ne2_1]
      refine wpAnyH_take (i := 3) (oi := o3) rfl hs f0_1_3 r0_1_3 (fun _ _ _ h => h) (y0_1_3 u0 u1 w1 i1) (z0_1_ u0 u1 w1 i1) ?_
      exact t0_1_ u0 u1 w1 i1
  have t_ : ∀ w', I_  w' → wpAnyH P .any #[o0, o1, o2, o3] (NoPanic Q) S 4 #[false, false, false, false] a w' := by
    intro w0 i0
    refine wpAnyH_ready (rs := [0, 1]) q_ (by simp) (AllReadyH.cons (o := o0) rfl (fun K hK => ?_) (AllReadyH.cons (o := o1) rfl (fun K hK => ?_) AllReadyH.nil))
    · rw [if_pos (wa0 _)]
      refine s_0  w0 i0 K (fun u0 w1 i1 => hK.out _ _ (z0_ u0 w1 i1) (fun _ => ?_))
      clear hK
      refine wpAnyH_take (i := 2) (oi := o2) rfl hs f_0_2 r_0_2 (fun _ _ _ h => h) (y_0_2 u0 w1 i1) (z0_ u0 w1 i1) ?_
      exact t0_ u0 w1 i1
    · rw [if_pos (wa1 _)]
      refine s_1  w0 i0 K (fun u1 w1 i1 => hK.out _ _ (z1_ u1 w1 i1) (fun _ => ?_))
      clear hK
      exact t1_ u1 w1 i1
  exact t_ w.drew i0

theorem wp_fx14 {id : Nat} {o0 o1 o2 o3 o4 o5 o6 o7 o8 o9 o10 o11 o12 o13 : Oper} {a : Act} {w : World} (hm : P.follows .mixedOrders = true) (hs : Region.noSelect #[o0, o1, o2, o3, o4, o5, o6, o7, o8, o9, o10, o11, o12, o13] = true)
    (f0 : Region.free .any #[o0, o1, o2, o3, o4, o5, o6, o7, o8, o9, o10, o11, o12, o13] #[false, false, false, false, false, false, false, false, false, false, false, false, false, false] 0 = true) (r0 : (Region.ready .any #[o0, o1, o2, o3, o4, o5, o6, o7, o8, o9, o10, o11, o12, o13] #[false, false, false, false, false, false, false, false, false, false, false, false, false, false]).contains 0 = true)
    (f1 : Region.free .any #[o0, o1, o2, o3, o4, o5, o6, o7, o8, o9, o10, o11, o12, o13] #[true, false, false, false, false, false, false, false, false, false, false, false, false, false] 1 = true) (r1 : (Region.ready .any #[o0, o1, o2, o3, o4, o5, o6, o7, o8, o9, o10, o11, o12, o13] #[true, false, false, false, false, false, false, false, false, false, false, false, false, false]).contains 1 = true)
    (f2 : Region.free .any #[o0, o1, o2, o3, o4, o5, o6, o7, o8, o9, o10, o11, o12, o13] #[true, true, false, false, false, false, false, false, false, false, false, false, false, false] 2 = true) (r2 : (Region.ready .any #[o0, o1, o2, o3, o4, o5, o6, o7, o8, o9, o10, o11, o12, o13] #[true, true, false, false, false, false, false, false, false, false, false, false, false, false]).contains 2 = true)
    (f3 : Region.free .any #[o0, o1, o2, o3, o4, o5, o6, o7, o8, o9, o10, o11, o12, o13] #[true, true, true, false, false, false, false, false, false, false, false, false, false, false] 3 = true) (r3 : (Region.ready .any #[o0, o1, o2, o3, o4, o5, o6, o7, o8, o9, o10, o11, o12, o13] #[true, true, true, false, false, false, false, false, false, false, false, false, false, false]).contains 3 = true)
    (f4 : Region.free .any #[o0, o1, o2, o3, o4, o5, o6, o7, o8, o9, o10, o11, o12, o13] #[true, true, true, true, false, false, false, false, false, false, false, false, false, false] 4 = true) (r4 : (Region.ready .any #[o0, o1, o2, o3, o4, o5, o6, o7, o8, o9, o10, o11, o12, o13] #[true, true, true, true, false, false, false, false, false, false, false, false, false, false]).contains 4 = true)
    (f5 : Region.free .any #[o0, o1, o2, o3, o4, o5, o6, o7, o8, o9, o10, o11, o12, o13] #[true, true, true, true, true, false, false, false, false, false, false, false, false, false] 5 = true) (r5 : (Region.ready .any #[o0, o1, o2, o3, o4, o5, o6, o7, o8, o9, o10, o11, o12, o13] #[true, true, true, true, true, false, false, false, false, false, false, false, false, false]).contains 5 = true)
    (q_ : Region.ready .any #[o0, o1, o2, o3, o4, o5, o6, o7, o8, o9, o10, o11, o12, o13] #[true, true, true, true, true, true, false, false, false, false, false, false, false, false] = [6])
    (f_6_7 : Region.free .any #[o0, o1, o2, o3, o4, o5, o6, o7, o8, o9, o10, o11, o12, o13] #[true, true, true, true, true, true, true, false, false, false, false, false, false, false] 7 = true) (r_6_7 : (Region.ready .any #[o0, o1, o2, o3, o4, o5, o6, o7, o8, o9, o10, o11, o12, o13] #[true, true, true, true, true, true, true, false, false, false, false, false, false, false]).contains 7 = true)
    (q6_ : Region.ready .any #[o0, o1, o2, o3, o4, o5, o6, o7, o8, o9, o10, o11, o12, o13] #[true, true, true, true, true, true, true, true, false, false, false, false, false, false] = [8])
    (f6_8_9 : Region.free .any #[o0, o1, o2, o3, o4, o5, o6, o7, o8, o9, o10, o11, o12, o13] #[true, true, true, true, true, true, true, true, true, false, false, false, false, false] 9 = true) (r6_8_9 : (Region.ready .any #[o0, o1, o2, o3, o4, o5, o6, o7, o8, o9, o10, o11, o12, o13] #[true, true, true, true, true, true, true, true, true, false, false, false, false, false]).contains 9 = true)
    (f6_8_10 : Region.free .any #[o0, o1, o2, o3, o4, o5, o6, o7, o8, o9, o10, o11, o12, o13] #[true, true, true, true, true, true, true, true, true, true, false, false, false, false] 10 = true) (r6_8_10 : (Region.ready .any #[o0, o1, o2, o3, o4, o5, o6, o7, o8, o9, o10, o11, o12, o13] #[true, true, true, true, true, true, true, true, true, true, false, false, false, false]).contains 10 = true)
    (f6_8_11 : Region.free .any #[o0, o1, o2, o3, o4, o5, o6, o7, o8, o9, o10, o11, o12, o13] #[true, true, true, true, true, true, true, true, true, true, true, false, false, false] 11 = true) (r6_8_11 : (Region.ready .any #[o0, o1, o2, o3, o4, o5, o6, o7, o8, o9, o10, o11, o12, o13] #[true, true, true, true, true, true, true, true, true, true, true, false, false, false]).contains 11 = true)
    (f6_8_12 : Region.free .any #[o0, o1, o2, o3, o4, o5, o6, o7, o8, o9, o10, o11, o12, o13] #[true, true, true, true, true, true, true, true, true, true, true, true, false, false] 12 = true) (r6_8_12 : (Region.ready .any #[o0, o1, o2, o3, o4, o5, o6, o7, o8, o9, o10, o11, o12, o13] #[true, true, true, true, true, true, true, true, true, true, true, true, false, false]).contains 12 = true)
    (f6_8_13 : Region.free .any #[o0, o1, o2, o3, o4, o5, o6, o7, o8, o9, o10, o11, o12, o13] #[true, true, true, true, true, true, true, true, true, true, true, true, true, false] 13 = true) (r6_8_13 : (Region.ready .any #[o0, o1, o2, o3, o4, o5, o6, o7, o8, o9, o10, o11, o12, o13] #[true, true, true, true, true, true, true, true, true, true, true, true, true, false]).contains 13 = true)
    (q6_8_ : Region.ready .any #[o0, o1, o2, o3, o4, o5, o6, o7, o8, o9, o10, o11, o12, o13] #[true, true, true, true, true, true, true, true, true, true, true, true, true, true] = [])
    (g6 : o6.guard = none)    (g8 : o8.guard = none)
    (v0 v1 v2 v3 v4 v5 : Value) (A0 A1 A2 A3 A4 A5 : Act)
    (S : World → Prop)
    (I_ : World → Prop)
    (I6_ : Value → World → Prop)
    (I6_8_ : Value → Value → World → Prop)
    (v7 : Value → Value)
    (v9 : Value → Value)
    (v10 : Value → Value)
    (v11 : Value → Value)
    (v12 : Value → Value)
    (v13 : Value → Value)
    (p0 : a.put o0.dst v0 = A0) (hy0 : YieldsIf P #[o0, o1, o2, o3, o4, o5, o6, o7, o8, o9, o10, o11, o12, o13] S o0 v0 a)
    (p1 : A0.put o1.dst v1 = A1) (hy1 : YieldsIf P #[o0, o1, o2, o3, o4, o5, o6, o7, o8, o9, o10, o11, o12, o13] S o1 v1 A0)
    (p2 : A1.put o2.dst v2 = A2) (hy2 : YieldsIf P #[o0, o1, o2, o3, o4, o5, o6, o7, o8, o9, o10, o11, o12, o13] S o2 v2 A1)
    (p3 : A2.put o3.dst v3 = A3) (hy3 : YieldsIf P #[o0, o1, o2, o3, o4, o5, o6, o7, o8, o9, o10, o11, o12, o13] S o3 v3 A2)
    (p4 : A3.put o4.dst v4 = A4) (hy4 : YieldsIf P #[o0, o1, o2, o3, o4, o5, o6, o7, o8, o9, o10, o11, o12, o13] S o4 v4 A3)
    (p5 : A4.put o5.dst v5 = A5) (hy5 : YieldsIf P #[o0, o1, o2, o3, o4, o5, o6, o7, o8, o9, o10, o11, o12, o13] S o5 v5 A4)
    (i0 : I_ w.drew)
    (hIS : (∀ w', I_  w' → S w') ∧ (∀ (u6 : Value) w', I6_ u6 w' → S w') ∧ (∀ (u6 u8 : Value) w', I6_8_ u6 u8 w' → S w'))
    (s_6 : ∀ w', I_  w' → ∀ K : Act → World → Prop, (∀ (u6 : Value) w2, I6_ u6 w2 → K (A5.put o6.dst u6) w2) → o6.wp P A5 w' K (NoPanic Q))
    (s6_8 : ∀ (u6 : Value) w', I6_ u6 w' → ∀ K : Act → World → Prop, (∀ (u8 : Value) w2, I6_8_ u6 u8 w2 → K (((A5.put o6.dst u6).put o7.dst (v7 u6)).put o8.dst u8) w2) → o8.wp P ((A5.put o6.dst u6).put o7.dst (v7 u6)) w' K (NoPanic Q))
    (y_6_7 : ∀ (u6 : Value) w', I6_ u6 w' → YieldsIf P #[o0, o1, o2, o3, o4, o5, o6, o7, o8, o9, o10, o11, o12, o13] S o7 (v7 u6) (A5.put o6.dst u6))
    (y6_8_9 : ∀ (u6 u8 : Value) w', I6_8_ u6 u8 w' → YieldsIf P #[o0, o1, o2, o3, o4, o5, o6, o7, o8, o9, o10, o11, o12, o13] S o9 (v9 u8) (((A5.put o6.dst u6).put o7.dst (v7 u6)).put o8.dst u8))
    (y6_8_10 : ∀ (u6 u8 : Value) w', I6_8_ u6 u8 w' → YieldsIf P #[o0, o1, o2, o3, o4, o5, o6, o7, o8, o9, o10, o11, o12, o13] S o10 (v10 u8) ((((A5.put o6.dst u6).put o7.dst (v7 u6)).put o8.dst u8).put o9.dst (v9 u8)))
    (y6_8_11 : ∀ (u6 u8 : Value) w', I6_8_ u6 u8 w' → YieldsIf P #[o0, o1, o2, o3, o4, o5, o6, o7, o8, o9, o10, o11, o12, o13] S o11 (v11 u8) (((((A5.put o6.dst u6).put o7.dst (v7 u6)).put o8.dst u8).put o9.dst (v9 u8)).put o10.dst (v10 u8)))
    (y6_8_12 : ∀ (u6 u8 : Value) w', I6_8_ u6 u8 w' → YieldsIf P #[o0, o1, o2, o3, o4, o5, o6, o7, o8, o9, o10, o11, o12, o13] S o12 (v12 u8) ((((((A5.put o6.dst u6).put o7.dst (v7 u6)).put o8.dst u8).put o9.dst (v9 u8)).put o10.dst (v10 u8)).put o11.dst (v11 u8)))
    (y6_8_13 : ∀ (u6 u8 : Value) w', I6_8_ u6 u8 w' → YieldsIf P #[o0, o1, o2, o3, o4, o5, o6, o7, o8, o9, o10, o11, o12, o13] S o13 (v13 u8) (((((((A5.put o6.dst u6).put o7.dst (v7 u6)).put o8.dst u8).put o9.dst (v9 u8)).put o10.dst (v10 u8)).put o11.dst (v11 u8)).put o12.dst (v12 u8)))
    (h : ∀ (u6 u8 : Value) w', I6_8_ u6 u8 w' → Q .normal ((((((((A5.put o6.dst u6).put o7.dst (v7 u6)).put o8.dst u8).put o9.dst (v9 u8)).put o10.dst (v10 u8)).put o11.dst (v11 u8)).put o12.dst (v12 u8)).put o13.dst (v13 u8)) w') :
    (Code.region id #[o0, o1, o2, o3, o4, o5, o6, o7, o8, o9, o10, o11, o12, o13] true).wp P Q a w := by
  subst p0 p1 p2 p3 p4 p5
  obtain ⟨z_, z6_, z6_8_⟩ := hIS
  refine wp_region_noPanic ?_
  refine wp_region_held_drew (S := S) hm (z_ _ i0) (fun hH => ?_)
  show wpAnyH P .any #[o0, o1, o2, o3, o4, o5, o6, o7, o8, o9, o10, o11, o12, o13] (NoPanic Q) S 14 #[false, false, false, false, false, false, false, false, false, false, false, false, false, false] a w.drew
  refine wpAnyH_take (i := 0) (oi := o0) rfl hs f0 r0 (fun _ _ _ h => h) hy0 hH ?_
  refine wpAnyH_take (i := 1) (oi := o1) rfl hs f1 r1 (fun _ _ _ h => h) hy1 hH ?_
  refine wpAnyH_take (i := 2) (oi := o2) rfl hs f2 r2 (fun _ _ _ h => h) hy2 hH ?_
  refine wpAnyH_take (i := 3) (oi := o3) rfl hs f3 r3 (fun _ _ _ h => h) hy3 hH ?_
  refine wpAnyH_take (i := 4) (oi := o4) rfl hs f4 r4 (fun _ _ _ h => h) hy4 hH ?_
  refine wpAnyH_take (i := 5) (oi := o5) rfl hs f5 r5 (fun _ _ _ h => h) hy5 hH ?_
  generalize ((((((a.put o0.dst v0).put o1.dst v1).put o2.dst v2).put o3.dst v3).put o4.dst v4).put o5.dst v5) = B at *
  have wa6 : ∀ y, Region.wanted o6 y = true := fun y => by unfold Region.wanted; rw [g6]
  have wa8 : ∀ y, Region.wanted o8 y = true := fun y => by unfold Region.wanted; rw [g8]
  have t6_8_ : ∀ (u6 u8 : Value) w', I6_8_ u6 u8 w' → wpAnyH P .any #[o0, o1, o2, o3, o4, o5, o6, o7, o8, o9, o10, o11, o12, o13] (NoPanic Q) S 0 #[true, true, true, true, true, true, true, true, true, true, true, true, true, true] ((((((((B.put o6.dst u6).put o7.dst (v7 u6)).put o8.dst u8).put o9.dst (v9 u8)).put o10.dst (v10 u8)).put o11.dst (v11 u8)).put o12.dst (v12 u8)).put o13.dst (v13 u8)) w' := by
    intro u6 u8 w0 i0
    exact ⟨q6_8_, NoPanic.normal (h u6 u8 w0 i0)⟩
  have t6_ : ∀ (u6 : Value) w', I6_ u6 w' → wpAnyH P .any #[o0, o1, o2, o3, o4, o5, o6, o7, o8, o9, o10, o11, o12, o13] (NoPanic Q) S 6 #[true, true, true, true, true, true, true, true, false, false, false, false, false, false] ((B.put o6.dst u6).put o7.dst (v7 u6)) w' := by
    intro u6 w0 i0
    refine wpAnyH_ready (rs := [8]) q6_ (by simp) (AllReadyH.cons (o := o8) rfl (fun K hK => ?_) AllReadyH.nil)
    · rw [if_pos (wa8 _)]
      refine s6_8 u6 w0 i0 K (fun u8 w1 i1 => hK.out _ _ (z6_8_ u6 u8 w1 i1) (fun _ => ?_))
      clear hK
      refine wpAnyH_take (i := 9) (oi := o9) rfl hs f6_8_9 r6_8_9 (fun _ _ _ h => h) (y6_8_9 u6 u8 w1 i1) (z6_8_ u6 u8 w1 i1) ?_
      refine wpAnyH_take (i := 10) (oi := o10) rfl hs f6_8_10 r6_8_10 (fun _ _ _ h => h) (y6_8_10 u6 u8 w1 i1) (z6_8_ u6 u8 w1 i1) ?_
      refine wpAnyH_take (i := 11) (oi := o11) rfl hs f6_8_11 r6_8_11 (fun _ _ _ h => h) (y6_8_11 u6 u8 w1 i1) (z6_8_ u6 u8 w1 i1) ?_
      refine wpAnyH_take (i := 12) (oi := o12) rfl hs f6_8_12 r6_8_12 (fun _ _ _ h => h) (y6_8_12 u6 u8 w1 i1) (z6_8_ u6 u8 w1 i1) ?_
      refine wpAnyH_take (i := 13) (oi := o13) rfl hs f6_8_13 r6_8_13 (fun _ _ _ h => h) (y6_8_13 u6 u8 w1 i1) (z6_8_ u6 u8 w1 i1) ?_
      exact t6_8_ u6 u8 w1 i1
  have t_ : ∀ w', I_  w' → wpAnyH P .any #[o0, o1, o2, o3, o4, o5, o6, o7, o8, o9, o10, o11, o12, o13] (NoPanic Q) S 8 #[true, true, true, true, true, true, false, false, false, false, false, false, false, false] B w' := by
    intro w0 i0
    refine wpAnyH_ready (rs := [6]) q_ (by simp) (AllReadyH.cons (o := o6) rfl (fun K hK => ?_) AllReadyH.nil)
    · rw [if_pos (wa6 _)]
      refine s_6  w0 i0 K (fun u6 w1 i1 => hK.out _ _ (z6_ u6 w1 i1) (fun _ => ?_))
      clear hK
      refine wpAnyH_take (i := 7) (oi := o7) rfl hs f_6_7 r_6_7 (fun _ _ _ h => h) (y_6_7 u6 w1 i1) (z6_ u6 w1 i1) ?_
      exact t6_ u6 w1 i1
  exact t_ w.drew i0

end
end Go.Proofs.Ythampopakcdgnaa
/-
  One operation: a call, by its contract.
-/
namespace Go.Proofs.Ythampopakcdgnaa
open Go Go.RowKit Go.BigFrame
set_option linter.unusedVariables false
set_option linter.unusedSimpArgs false

theorem wp_callN {o : Oper} {a : Act} {w : World} {K : Act → World → Prop} {Q : Exit → Act → World → Prop} {f : FuncId} {xs : Array Operand} {ts : Array TypeId} (ho : o.op = .call { callee := .value (.func f), args := xs, argTypes := ts })
    (hcl : ∀ args W, (callFunc f args).run Try.prog W = .ok (.enter f args) W) (us : List Value) (he : xs.toList.map a.eval = us) {R : Ending → World → Prop}
    (hc : Calls Try.prog f us.toArray w R) (h : ∀ e w', R e w' → ∃ v, e = .returned v ∧ K (a.put o.dst v) w') : o.wp Try.prog a w K Q := by
  have he2 : xs.map a.eval = us.toArray := by rw [← he]; cases xs; simp only [List.map_toArray]
  unfold Oper.wp execOp
  simp only [ho]
  have hf : a.eval (.func f) = .func (.func f) #[] #[] := rfl
  simp only [resolve, invoke, hf, he2, Sem.run_bind, Sem.run_pure, Result.andThen_ok, hcl]
  simp [Deferred.ofValue, hcl, go_sem]
  refine hc.mono ?_
  intro e w2 h2
  obtain ⟨v, rfl, h3⟩ := h e w2 h2
  exact h3
end Go.Proofs.Ythampopakcdgnaa
namespace Go.Proofs.Ythampopakcdgnaa
open Go.RowKit Go.BigFrame
set_option linter.unusedVariables false
set_option linter.unusedSimpArgs false

set_option maxRecDepth 100000 in
set_option maxHeartbeats 1000000 in
theorem entryFixed_walk (w : World) :
    Calls Try.prog 3 #[] w fun r w' => r = .returned (.bool true) ∧ Below w.heap.size w w' := by
  go_enter Try.func3, Try.ntmps3
  go_wp2_with fail
  refine Calls.mono (eawake_any _) ?_
  rintro r w1 ⟨rfl, k1⟩
  have HK1 := hide k1
  clear k1
  have hm1 := run_make_row' (P := Try.prog) 23 5 (.int .u8 0) 1 Try.underlying23 Try.info5 rfl .i64 .i64 65 (by omega) (by omega)
  have hm2 := run_make_row' (P := Try.prog) 23 5 (.int .u8 0) 1 Try.underlying23 Try.info5 rfl .i64 .i64 257 (by omega) (by omega)
  go_wp2_with fail
  refine wp_fx4 (by kernel_rfl) (by kernel_rfl) (by kernel_rfl) (by kernel_rfl) (by kernel_rfl) (by kernel_rfl) (by kernel_rfl) (by kernel_rfl) (by kernel_rfl) (by kernel_rfl) (by kernel_rfl) (by kernel_rfl) (by kernel_rfl) (by kernel_rfl) rfl rfl (by simp) (by simp)
    (fun w' => Kept [] w1 w')
    (fun w' => Kept [] w1 w')
    (fun u0 w' => (∃ g, u0 = .slice (some ⟨g, 0, none⟩) 65 65 ∧ Zr w' g 65) ∧ Kept [] w1 w')
    (fun u1 w' => (∃ g, u1 = .slice (some ⟨g, 0, none⟩) 257 257 ∧ Zr w' g 257) ∧ Kept [] w1 w')
    (fun u0 u1 w' => (∃ g, u0 = .slice (some ⟨g, 0, none⟩) 65 65 ∧ Zr w' g 65) ∧ (∃ g, u1 = .slice (some ⟨g, 0, none⟩) 257 257 ∧ Zr w' g 257) ∧ Kept [] w1 w')
    (fun u => u) (fun _ u => u)
    (Kept.refl [] w1).drew
    ⟨fun w' h => h, fun u0 w' h => h.2, fun u0 w' h => h.2, fun u0 u1 w' h => h.2.2⟩
    (by intro w' i K hK; have h9 := hm1 w'; unfold Oper.wp execOp; go_simp; exact hK _ _ ⟨⟨_, rfl, Zr.made _ _⟩, i.alloc _⟩)
    (by intro w' i K hK; have h9 := hm2 w'; unfold Oper.wp execOp; go_simp; exact hK _ _ ⟨⟨_, rfl, Zr.made _ _⟩, i.alloc _⟩)
    (by rintro u0 w' ⟨⟨g, rfl, hz⟩, i⟩ K hK; have h9 := hm2 w'; unfold Oper.wp execOp; go_simp; exact hK _ _ ⟨⟨_, rfl, hz.old ((Kept.refl [] w').alloc _)⟩, ⟨_, rfl, Zr.made _ _⟩, i.alloc _⟩)
    (by rintro u1 w' ⟨⟨g, rfl, hz⟩, i⟩ K hK; have h9 := hm1 w'; unfold Oper.wp execOp; go_simp; exact hK _ _ ⟨⟨_, rfl, Zr.made _ _⟩, ⟨_, rfl, hz.old ((Kept.refl [] w').alloc _)⟩, i.alloc _⟩)
    (by rintro u0 w' ⟨⟨g, rfl, _⟩, _⟩; exact Or.inl ⟨by rfl, fun W' hW' => by go_simp⟩)
    (by rintro u0 u1 w' ⟨⟨g, rfl, _⟩, ⟨g2, rfl, _⟩, _⟩; exact Or.inl ⟨by rfl, fun W' hW' => by go_simp⟩)
    (by rintro u0 u1 w' ⟨⟨g, rfl, _⟩, ⟨g2, rfl, _⟩, _⟩; exact Or.inl ⟨by rfl, fun W' hW' => by go_simp⟩)
    (by rintro u0 u1 w' ⟨⟨g, rfl, _⟩, ⟨g2, rfl, _⟩, _⟩; exact Or.inl ⟨by rfl, fun W' hW' => by go_simp⟩)
    ?_
  rintro u0 u1 w2 ⟨⟨gk, rfl, hzk⟩, ⟨gv, rfl, hzv⟩, k2⟩
  simp only [Act.put, List.setIfInBounds_toArray, List.set_cons_zero, List.set_cons_succ]
  have HZK := hide hzk
  have HZV := hide hzv
  have HK2 := hide ((unhide HK1).trans k2 (by simp))
  clear hzk hzv k2 HK1 hm1 hm2
  go_wp2_with fail
  refine wp_quiet_tail 21 (by kernel_rfl) (by kernel_rfl) ?_
  simp only [List.take_succ_cons, List.take_zero, List.drop_succ_cons, List.drop_zero]
  repeat (go_big_quiet_step (fail))
  refine wpQuiet_nil ?_
  intro _ hw'
  obtain ⟨n1, hw''⟩ := hw'
  subst hw''
  go_wp2_with fail
  have kW := (((Kept.refl [] w2).drewN n1).alloc (.cells #[.int .u8 1, .slice (some ⟨gk, 0, none⟩) 64 65, .slice (some ⟨gv, 0, none⟩) 256 257, .int .u8 1, .slice (some ⟨gk, 0, none⟩) 65 65, .slice none 0 0, .int .u8 1, .slice none 0 0, .slice (some ⟨gv, 0, none⟩) 257 257, .int .u8 3, .slice (some ⟨gk, 0, none⟩) 65 65, .slice none 0 0, .int .u8 0, .slice none 0 0, .slice none 0 0, .int .u8 2, .slice (some ⟨gk, 0, none⟩) 64 65, .slice none 0 0, .int .u8 2, .slice none 0 0, .slice (some ⟨gv, 0, none⟩) 1 257, .int .u8 2, .slice none 0 0, .slice (some ⟨gv, 0, none⟩) 257 257, .int .u8 1, .slice none 0 0, .slice none 0 0] 25)).alloc (.cells #[.int .i64 0, .int .i64 2, .int .i64 2, .int .i64 2, .int .i64 3, .int .i64 0, .int .i64 3, .int .i64 2, .int .i64 0] 27)
  have HR := hide (LieN.row (ts := fxT gk gv) (heap_alloc2_old (w2.drewN n1) (.cells #[.int .u8 1, .slice (some ⟨gk, 0, none⟩) 64 65, .slice (some ⟨gv, 0, none⟩) 256 257, .int .u8 1, .slice (some ⟨gk, 0, none⟩) 65 65, .slice none 0 0, .int .u8 1, .slice none 0 0, .slice (some ⟨gv, 0, none⟩) 257 257, .int .u8 3, .slice (some ⟨gk, 0, none⟩) 65 65, .slice none 0 0, .int .u8 0, .slice none 0 0, .slice none 0 0, .int .u8 2, .slice (some ⟨gk, 0, none⟩) 64 65, .slice none 0 0, .int .u8 2, .slice none 0 0, .slice (some ⟨gv, 0, none⟩) 1 257, .int .u8 2, .slice none 0 0, .slice (some ⟨gv, 0, none⟩) 257 257, .int .u8 1, .slice none 0 0, .slice none 0 0] 25) (.cells #[.int .i64 0, .int .i64 2, .int .i64 2, .int .i64 2, .int .i64 3, .int .i64 0, .int .i64 3, .int .i64 2, .int .i64 0] 27)) rfl)
  have HWR := hide (heap_alloc2_new (w2.drewN n1) (.cells #[.int .u8 1, .slice (some ⟨gk, 0, none⟩) 64 65, .slice (some ⟨gv, 0, none⟩) 256 257, .int .u8 1, .slice (some ⟨gk, 0, none⟩) 65 65, .slice none 0 0, .int .u8 1, .slice none 0 0, .slice (some ⟨gv, 0, none⟩) 257 257, .int .u8 3, .slice (some ⟨gk, 0, none⟩) 65 65, .slice none 0 0, .int .u8 0, .slice none 0 0, .slice none 0 0, .int .u8 2, .slice (some ⟨gk, 0, none⟩) 64 65, .slice none 0 0, .int .u8 2, .slice none 0 0, .slice (some ⟨gv, 0, none⟩) 1 257, .int .u8 2, .slice none 0 0, .slice (some ⟨gv, 0, none⟩) 257 257, .int .u8 1, .slice none 0 0, .slice none 0 0] 25) (.cells #[.int .i64 0, .int .i64 2, .int .i64 2, .int .i64 2, .int .i64 3, .int .i64 0, .int .i64 3, .int .i64 2, .int .i64 0] 27))
  obtain ⟨W, hW⟩ : ∃ W, ((w2.drewN n1).alloc (.cells #[.int .u8 1, .slice (some ⟨gk, 0, none⟩) 64 65, .slice (some ⟨gv, 0, none⟩) 256 257, .int .u8 1, .slice (some ⟨gk, 0, none⟩) 65 65, .slice none 0 0, .int .u8 1, .slice none 0 0, .slice (some ⟨gv, 0, none⟩) 257 257, .int .u8 3, .slice (some ⟨gk, 0, none⟩) 65 65, .slice none 0 0, .int .u8 0, .slice none 0 0, .slice none 0 0, .int .u8 2, .slice (some ⟨gk, 0, none⟩) 64 65, .slice none 0 0, .int .u8 2, .slice none 0 0, .slice (some ⟨gv, 0, none⟩) 1 257, .int .u8 2, .slice none 0 0, .slice (some ⟨gv, 0, none⟩) 257 257, .int .u8 1, .slice none 0 0, .slice none 0 0] 25)).alloc (.cells #[.int .i64 0, .int .i64 2, .int .i64 2, .int .i64 2, .int .i64 3, .int .i64 0, .int .i64 3, .int .i64 2, .int .i64 0] 27) = W := ⟨_, rfl⟩
  have hsz : (w2.drewN n1).heap.size = w2.heap.size := rfl
  rw [hsz] at HR HWR
  rw [hW] at kW HR HWR ⊢
  have HK3 := hide ((unhide HK2).trans kW (by simp))
  have HOK := hide (fxT_ok ((unhide HZK).old kW) ((unhide HZV).old kW))
  clear hW kW HZK HZV HK2 hsz
  have hl9 : (fxT gk gv).length = 9 := rfl
  have HWC := hide (fun i (hi : i < 9) => (by
    rw [cell_of_row _ _ _ _ _ _ (unhide HWR), fxT_chk gk gv i (by rw [hl9]; exact hi)]
    match i, hi with
    | 0, _ => rfl
    | 1, _ => rfl
    | 2, _ => rfl
    | 3, _ => rfl
    | 4, _ => rfl
    | 5, _ => rfl
    | 6, _ => rfl
    | 7, _ => rfl
    | 8, _ => rfl : W.cell? ⟨w2.heap.size + 1, i, none⟩ = some (.int .i64 (chkE ((fxT gk gv)[i]'(by rw [hl9]; exact hi)).1 : Int))))
  go_loopw [58] (fun t wr => ∃ (i : Nat), i ≤ 9 ∧ t = .int .i64 i ∧ Hid (Kept [] W wr)) (fun t _ => 9 - (intOf t).toNat)
  case atStart => exact ⟨0, by omega, rfl, hide (Kept.refl _ _)⟩
  case round =>
    obtain ⟨i, hi, rfl, HKr⟩ := hrel
    by_cases hlt : i < 9
    · have hlt' : (i : Int) < 9 := by omega
      have hil : i < (fxT gk gv).length := by rw [hl9]; exact hlt
      obtain ⟨q0, q1, q2⟩ := unhide HR i hil
      have hok := unhide HOK _ (List.getElem_mem hil)
      have hwc := unhide HWC i hlt
      generalize (fxT gk gv)[i] = t at q0 q1 q2 hok hwc
      obtain ⟨e, kv, vv⟩ := t
      simp only at q0 q1 q2 hok hwc
      obtain ⟨a1, m1, b1, rfl, h9⟩ := id hok.key
      obtain ⟨a2, m2, b2, rfl, h8⟩ := id hok.val
      clear h9 h8
      have p0 := (unhide HKr).cell q0 (by simp)
      have p1 := (unhide HKr).cell q1 (by simp)
      have p2 := (unhide HKr).cell q2 (by simp)
      have HO := hide (hok.old (unhide HKr))
      have pw := (unhide HKr).cell hwc (by simp)
      clear q0 q1 q2 hok hwc
      go_wp2_with fail
      have kX := (Kept.refl [] wr).alloc (.cells #[.int .u8 (e.k : Int), .slice a1 m1 b1, .slice a2 m2 b2] 25)
      have hg := heap_alloc_new wr (.cells #[.int .u8 (e.k : Int), .slice a1 m1 b1, .slice a2 m2 b2] 25)
      obtain ⟨X, hX⟩ : ∃ X, wr.alloc (.cells #[.int .u8 (e.k : Int), .slice a1 m1 b1, .slice a2 m2 b2] 25) = X := ⟨_, rfl⟩
      rw [hX] at kX hg ⊢
      clear hX p0 p1 p2
      have f0 := cell_of_row _ _ 0 _ _ _ hg
      have f1 := cell_of_row _ _ 1 _ _ _ hg
      have f2 := cell_of_row _ _ 2 _ _ _ hg
      simp only [List.getElem?_toArray, List.getElem?_cons_zero, List.getElem?_cons_succ] at f0 f1 f2
      have fw := kX.cell pw (by simp)
      have HC := hide (fun w' (hw' : Kept [] X w') => (check_any e (.slice a1 m1 b1) (.slice a2 m2 b2) w' ((unhide HO).old (kX.trans hw' (by simp)))).mono (fun r w3 (h2 : _ ∧ _) => (⟨h2.1, hw'.trans h2.2 (by simp)⟩ : _ ∧ Kept [] X w3)))
      have hne : ∀ p : Prop, (∀ w', Kept [] X w' → p) = p := fun p => propext ⟨fun h => h X (Kept.refl [] X), fun h _ _ => h⟩
      generalize chkE e = E at *
      refine wp_region_keep (by kernel_rfl) (by kernel_rfl) ?_
      refine wpQuiet_val rfl (.agg (enC e (.slice a1 m1 b1) (.slice a2 m2 b2))) (fun w' hw' => by have h9 := hw'.cell f0 (by simp); have h8 := hw'.cell f1 (by simp); have h7 := hw'.cell f2 (by simp); unfold enC; go_simp) ?_
      simp only [Act.put, List.setIfInBounds_toArray, List.set_cons_succ, List.set_cons_zero]
      go_big_quiet_want
      go_big_quiet_op
      apply Exists.intro
      refine ⟨fun w' hw' => ?_, ?_⟩
      · exact unhide HC w' hw'
      go_big_quiet_on
      iterate 3 (go_big_quiet_step (fail))
      refine wpQuiet_val rfl (.int .i64 E) (fun w' hw' => by have h9 := hw'.cell fw (by simp); go_simp) ?_
      simp only [Act.put, List.setIfInBounds_toArray, List.set_cons_succ, List.set_cons_zero]
      repeat (go_big_quiet_step (fail))
      refine wpQuiet_nil ?_
      intro w6 k6
      have HK6 := hide ((unhide HKr).trans (kX.trans k6 (by simp)) (by simp))
      clear f0 f1 f2 fw hne pw kX k6
      go_wp2
      go_roundw
      case rel => exact ⟨i + 1, by omega, by go_num, HK6⟩
      case measure => simp [intOf]; omega
    · have hlt' : ¬ (i : Int) < 9 := by omega
      have HK4 := hide ((unhide HK3).trans (unhide HKr) (by simp))
      have HR4 := hide ((unhide HR).old (unhide HKr))
      have HOK4 := hide (fun t ht => (unhide HOK t ht).old (unhide HKr))
      clear HR HOK HWC HWR HK3 HKr
      obtain ⟨R1, hR1⟩ : ∃ R1, R1 = wr := ⟨_, rfl⟩
      subst hR1
      obtain ⟨C, hC, hmk⟩ := make_fx
      have HTH := hide (there_made (w := R1) (t := 25) hC)
      have HKC := hide ((Kept.refl [] R1).alloc (.cells C 25))
      go_wp2_with fail
      obtain ⟨Y, hY⟩ : ∃ Y, R1.alloc (.cells C 25) = Y := ⟨_, rfl⟩
      rw [hY] at HTH HKC ⊢
      clear hY hmk hC
      go_loopw [8] (fun t wr => ∃ (i : Nat), i ≤ 65 ∧ t = .int .i64 i ∧ Hid (LieN wr R1.heap.size (List.replicate i (fx0 gk gv))) ∧ Hid (wr.there R1.heap.size 0 195) ∧ Hid (Kept [] R1 wr)) (fun t _ => 65 - (intOf t).toNat)
      case atStart => exact ⟨0, by omega, rfl, hide (fun i h => by simp at h), HTH, HKC⟩
      case round =>
        obtain ⟨i, hi, rfl, HL, HTr, HKr⟩ := hrel
        by_cases hlt2 : i < 65
        · have hlt2' : (i : Int) < 65 := by omega
          obtain ⟨q0, q1, q2⟩ := unhide HR4 0 (by rw [hl9]; omega)
          have p0 := (unhide HKr).cell q0 (by simp)
          have p1 := (unhide HKr).cell q1 (by simp)
          have p2 := (unhide HKr).cell q2 (by simp)
          have p0' : wr.cell? ⟨w2.heap.size, 0, none⟩ = some (.int .u8 1) := p0
          have p1' : wr.cell? ⟨w2.heap.size, 1, none⟩ = some (.slice (some ⟨gk, 0, none⟩) 64 65) := p1
          have p2' : wr.cell? ⟨w2.heap.size, 2, none⟩ = some (.slice (some ⟨gv, 0, none⟩) 256 257) := p2
          have HL2 := hide ((unhide HL).step (unhide HTr) hlt2)
          have HT2 := hide (World.there_setCells (unhide HTr) R1.heap.size (i * 3) [.int .u8 1, .slice (some ⟨gk, 0, none⟩) 64 65, .slice (some ⟨gv, 0, none⟩) 256 257])
          have HK2 := hide (setCells_keptF R1.heap.size (Or.inr (Nat.le_refl _)) [.int .u8 1, .slice (some ⟨gk, 0, none⟩) 64 65, .slice (some ⟨gv, 0, none⟩) 256 257] (i * 3) wr (unhide HKr))
          clear q0 q1 q2 p0 p1 p2
          go_wp2_with (refine wpList_store_mid rfl 25 _ _ rfl R1.heap.size (i * 3) #[.int .u8 1, .slice (some ⟨gk, 0, none⟩) 64 65, .slice (some ⟨gv, 0, none⟩) 256 257] rfl rfl (there_sub (unhide HTr) hlt2) (by kernel_rfl) (by simp [Value.oneCell']) ?_)
          go_roundw
          case rel => exact ⟨i + 1, by omega, by go_num, HL2, HT2, HK2⟩
          case measure => simp [intOf]; omega
        · have hlt2' : ¬ (i : Int) < 65 := by omega
          obtain rfl : i = 65 := by omega
          have HM := hide (unhide HL)
          have HK5 := hide ((unhide HK4).trans (unhide HKr) (by simp))
          have HR5 := hide ((unhide HR4).old (unhide HKr))
          have HOK5 := hide (fun t ht => (unhide HOK4 t ht).old (unhide HKr))
          clear HL HTr HK4 HR4 HOK4 HTH HKC
          have h0 : fx0 gk gv ∈ fxT gk gv := by unfold fxT fx0; exact List.mem_cons_self
          have HMN := hide (fun w' (hw' : Kept [] wr w') n (hn : n ≤ 65) => (by
            have h9 := ((unhide HM).old hw').rdn (fun t ht => (by rw [List.eq_of_mem_replicate ht]; exact (unhide HOK5 _ h0).old hw')) n 65 (by rw [List.length_replicate]; exact hn) hn (by omega)
            rw [many_fst gk gv n 65 hn] at h9
            exact h9 : RdN w' (.slice (some ⟨R1.heap.size, 0, none⟩) n 65) (List.replicate n e0)))
          clear h0 HM
          go_wp2_with fail
          refine Calls.mono (encodeBatch_any 18446744073709551551 _ _ wr (by omega) (unhide HMN wr (Kept.refl _ _) 64 (by omega))) ?_
          rintro r w4 ⟨v4, rfl, n4, k4⟩
          rw [chkB_many, show cntE 18446744073709551551 64 = 0 by decide] at n4 ⊢
          rw [if_pos rfl] at n4
          obtain ⟨a4, m4, c4, rfl, hm4, h9⟩ := id n4.1
          rw [batB_many] at hm4
          subst hm4
          have HK6 := hide k4
          clear h9 n4 k4
          go_wp2_with fail
          refine Calls.mono (encodeBatch_any 18446744073709551552 _ _ _ (by omega) (unhide HMN _ (unhide HK6) 64 (by omega))) ?_
          rintro r w5 ⟨v5, rfl, n5, k5⟩
          rw [chkB_many, show cntE 18446744073709551552 64 = 3 by decide] at n5 ⊢
          obtain ⟨a5, m5, c5, rfl, h9⟩ := id n5.1
          have HK7 := hide ((unhide HK6).trans k5 (by simp))
          clear h9 n5 k5 HK6
          go_wp2_with fail
          refine Calls.mono (encodeBatch_any 0 _ _ _ (by omega) (unhide HMN _ (unhide HK7) 65 (by omega))) ?_
          rintro r w6 ⟨v6, rfl, n6, k6⟩
          rw [chkB_many, show cntE 0 65 = 2 by decide] at n6 ⊢
          obtain ⟨a6, m6, c6, rfl, h9⟩ := id n6.1
          have HK8 := hide ((unhide HK7).trans k6 (by simp))
          clear h9 n6 k6 HK7
          go_wp2_with fail
          have hnil : RdN w6 (.slice none 0 0) [] := ⟨none, 0, 0, fun _ => undef, fun _ => undef, rfl, rfl, by omega, by omega, fun i h => by simp at h, fun h => by omega⟩
          refine Calls.mono (encodeBatch_any 0 _ _ _ (by omega) hnil) ?_
          rintro r w7 ⟨v7, rfl, n7, k7⟩
          rw [chkB_none] at n7 ⊢
          obtain ⟨a7, m7, c7, rfl, h9⟩ := id n7.1
          have HK9 := hide ((unhide HK8).trans k7 (by simp))
          clear h9 n7 k7 HK8 hnil
          go_wp2_with fail
          have HRW := hide ((unhide HR5).old (unhide HK9))
          obtain ⟨q0, q1, q2⟩ := unhide HRW 4 (by rw [hl9]; omega)
          obtain ⟨s0, s1, s2⟩ := unhide HRW 1 (by rw [hl9]; omega)
          have q0' : w7.cell? ⟨w2.heap.size, 12, none⟩ = some (.int .u8 0) := q0
          have q1' : w7.cell? ⟨w2.heap.size, 13, none⟩ = some (.slice none 0 0) := q1
          have q2' : w7.cell? ⟨w2.heap.size, 14, none⟩ = some (.slice none 0 0) := q2
          have s0' : w7.cell? ⟨w2.heap.size, 3, none⟩ = some (.int .u8 1) := s0
          have s1' : w7.cell? ⟨w2.heap.size, 4, none⟩ = some (.slice (some ⟨gk, 0, none⟩) 65 65) := s1
          have s2' : w7.cell? ⟨w2.heap.size, 5, none⟩ = some (.slice none 0 0) := s2
          have h1 : ((⟨1, List.replicate 65 0, []⟩ : En), Value.slice (some ⟨gk, 0, none⟩) 65 65, Value.slice none 0 0) ∈ fxT gk gv := by unfold fxT; exact List.mem_cons_of_mem _ List.mem_cons_self
          have HO1 := hide ((unhide HOK5 _ h1).old (unhide HK9))
          clear q0 q1 q2 s0 s1 s2 h1 HRW
          refine wp_fx14 (by kernel_rfl) (by kernel_rfl) (by kernel_rfl) (by kernel_rfl) (by kernel_rfl) (by kernel_rfl) (by kernel_rfl) (by kernel_rfl) (by kernel_rfl) (by kernel_rfl) (by kernel_rfl) (by kernel_rfl) (by kernel_rfl) (by kernel_rfl) (by kernel_rfl) (by kernel_rfl) (by kernel_rfl) (by kernel_rfl) (by kernel_rfl) (by kernel_rfl) (by kernel_rfl) (by kernel_rfl) (by kernel_rfl) (by kernel_rfl) (by kernel_rfl) (by kernel_rfl) (by kernel_rfl) (by kernel_rfl) (by kernel_rfl) rfl rfl
            (.slice (some ⟨w2.heap.size, 0, none⟩) 9 9) (.pointer (some ⟨w2.heap.size, 12, none⟩)) (.agg #[.int .u8 0, .slice none 0 0, .slice none 0 0]) (.slice (some ⟨w2.heap.size, 0, none⟩) 9 9) (.pointer (some ⟨w2.heap.size, 3, none⟩)) (.agg #[.int .u8 1, .slice (some ⟨gk, 0, none⟩) 65 65, .slice none 0 0]) _ _ _ _ _ _
            (fun w' => Kept [] w7 w')
            (fun w' => Kept [] w7 w')
            (fun u6 w' => (∃ H, u6 = .slice (some ⟨H, 0, none⟩) 2 2 ∧ LieN w' H [((⟨0, [], []⟩ : En), Value.slice none 0 0, Value.slice none 0 0), (⟨1, List.replicate 65 0, []⟩, .slice (some ⟨gk, 0, none⟩) 65 65, .slice none 0 0)]) ∧ Kept [] w7 w')
            (fun u6 u8 w' => (∃ a n c, u8 = .tuple #[.slice a n c, .int .i64 2]) ∧ Kept [] w7 w')
            (fun u => .agg #[.int .u64 0, u]) (fun u => u) (fun u => tupF u 0) (fun u => tupF u 1) (fun u => tupF u 0) (fun u => tupF u 1)
            (by simp only [Act.put, List.setIfInBounds_toArray, List.set_cons_zero, List.set_cons_succ]; rfl) (by exact Or.inl ⟨by rfl, fun W' hW' => by go_simp⟩)
            (by simp only [Act.put, List.setIfInBounds_toArray, List.set_cons_zero, List.set_cons_succ]; rfl) (by exact Or.inl ⟨by rfl, fun W' hW' => by go_simp⟩)
            (by simp only [Act.put, List.setIfInBounds_toArray, List.set_cons_zero, List.set_cons_succ]; rfl) (by exact Or.inl ⟨by rfl, fun W' hW' => by have h9 := hW'.cell q0' (by simp); have h8 := hW'.cell q1' (by simp); have h7 := hW'.cell q2' (by simp); go_simp⟩)
            (by simp only [Act.put, List.setIfInBounds_toArray, List.set_cons_zero, List.set_cons_succ]; rfl) (by exact Or.inl ⟨by rfl, fun W' hW' => by go_simp⟩)
            (by simp only [Act.put, List.setIfInBounds_toArray, List.set_cons_zero, List.set_cons_succ]; rfl) (by exact Or.inl ⟨by rfl, fun W' hW' => by go_simp⟩)
            (by simp only [Act.put, List.setIfInBounds_toArray, List.set_cons_zero, List.set_cons_succ]; rfl) (by exact Or.inl ⟨by rfl, fun W' hW' => by have h9 := hW'.cell s0' (by simp); have h8 := hW'.cell s1' (by simp); have h7 := hW'.cell s2' (by simp); go_simp⟩)
            (Kept.refl [] w7).drew
            ⟨fun w' h => h, fun u6 w' h => h.2, fun u6 u8 w' h => h.2⟩
            (by
              intro w' i K hK
              unfold Oper.wp execOp
              go_simp
              exact hK _ _ ⟨⟨_, rfl, LieN.row (heap_alloc_new _ _) rfl⟩, i.alloc _⟩)
            (by
              rintro u6 w' ⟨⟨H, rfl, hl⟩, i⟩ K hK
              have hrd := hl.rdn (fun t ht => (by
                simp only [List.mem_cons, List.not_mem_nil, or_false] at ht
                rcases ht with rfl | rfl
                · exact ⟨by simp, Rd.nil _, Rd.nil _⟩
                · exact (unhide HO1).old i)) 2 2 (by simp) (by omega) (by omega)
              refine wp_callN rfl Try.call6 [.agg #[.int .u64 0, .slice (some ⟨H, 0, none⟩) 2 2]] rfl (encodeBatch_any 0 _ [⟨0, [], []⟩, ⟨1, List.replicate 65 0, []⟩] w' (by omega) hrd) ?_
              rintro e w8 ⟨v', rfl, nv, kv⟩
              rw [chkB_two]
              obtain ⟨a, n, c, rfl, _⟩ := id nv.1
              exact ⟨_, rfl, hK _ _ ⟨⟨_, _, _, rfl⟩, i.trans kv (by simp)⟩⟩)
            (by rintro u6 w' ⟨⟨H, rfl, _⟩, _⟩; exact Or.inl ⟨by rfl, fun W' hW' => by go_simp⟩)
            (by rintro u6 u8 w' ⟨⟨a, n, c, rfl⟩, _⟩; exact Or.inl ⟨by rfl, fun W' hW' => by (try simp only [tupF]); go_simp⟩)
            (by rintro u6 u8 w' ⟨⟨a, n, c, rfl⟩, _⟩; exact Or.inl ⟨by rfl, fun W' hW' => by (try simp only [tupF]); go_simp⟩)
            (by rintro u6 u8 w' ⟨⟨a, n, c, rfl⟩, _⟩; exact Or.inl ⟨by rfl, fun W' hW' => by (try simp only [tupF]); go_simp⟩)
            (by rintro u6 u8 w' ⟨⟨a, n, c, rfl⟩, _⟩; exact Or.inl ⟨by rfl, fun W' hW' => by (try simp only [tupF]); go_simp⟩)
            (by rintro u6 u8 w' ⟨⟨a, n, c, rfl⟩, _⟩; exact Or.inl ⟨by rfl, fun W' hW' => by (try simp only [tupF]); go_simp⟩)
            ?_
          rintro u6 u8 w8 ⟨⟨a8, m8, c8, rfl⟩, k8⟩
          simp only [Act.put, List.setIfInBounds_toArray, List.set_cons_zero, List.set_cons_succ, tupF, List.getD_cons_zero, List.getD_cons_succ]
          have HKA := hide ((unhide HK9).trans k8 (by simp))
          clear k8 q0' q1' q2' s0' s1' s2' HK9
          go_wp2_with fail
          refine Calls.mono (decodeBatch_any _ [0, 65] _ (rd_lit (heap_alloc_new _ _) rfl (by simp) 2 rfl (by omega))) ?_
          rintro r x1 ⟨bv0, rfl, n09, k09⟩
          rw [decB_65]
          have HKB := hide (((unhide HKA).alloc (.cells #[.int .u8 0, .int .u8 65] 5)).trans k09 (by simp))
          clear n09 k09 HKA
          go_wp2_with fail
          refine Calls.mono (decodeBatch_any _ [0, 0] _ (rd_lit (heap_alloc_new _ _) rfl (by simp) 2 rfl (by omega))) ?_
          rintro r x2 ⟨bv1, rfl, n19, k19⟩
          rw [decB_0]
          have HKC2 := hide (((unhide HKB).alloc (.cells #[.int .u8 0, .int .u8 0] 5)).trans k19 (by simp))
          clear n19 k19 HKB
          go_wp2_with fail
          refine Calls.mono (decode_any _ [1, 65] _ (rd_lit (heap_alloc_new _ _) rfl (by simp) 2 rfl (by omega))) ?_
          rintro r x3 ⟨ek2, ev2, rfl, n29, k29, b29⟩
          rw [decE_1]
          have HKD := hide (((unhide HKC2).alloc (.cells #[.int .u8 1, .int .u8 65] 5)).trans k29 (by simp))
          clear n29 k29 b29 HKC2
          go_wp2_with fail
          refine Calls.mono (decode_any _ [3, 65] _ (rd_lit (heap_alloc_new _ _) rfl (by simp) 2 rfl (by omega))) ?_
          rintro r x4 ⟨ek3, ev3, rfl, n39, k39, b39⟩
          rw [decE_3]
          have HKE := hide (((unhide HKD).alloc (.cells #[.int .u8 3, .int .u8 65] 5)).trans k39 (by simp))
          clear n39 k39 b39 HKD
          go_wp2_with fail
          have hzb : ∀ x ∈ z32, x < 256 := fun x hx => by simp [z32] at hx; omega
          rw [zRoot_eq]
          unfold zRoot
          refine Calls.mono (encodeRoot_any 33 0 z32 z32 _ (by omega) (by omega) z32_len z32_len hzb hzb) ?_
          rintro r y1 ⟨vr, rfl, nr, kr⟩
          rw [rootE_33] at nr ⊢
          obtain ⟨ar, mr, cr, rfl, h9⟩ := id nr.1
          have HKF := hide ((unhide HKE).trans kr (by simp))
          clear h9 nr kr HKE
          go_wp2_with fail
          refine Calls.mono (decodeRoot_any 0 _ [] _ (by omega) (Rd.nil _)) ?_
          rintro r y2 ⟨rfl, kr⟩
          rw [decR_0]
          have HKG := hide ((unhide HKF).trans kr (by simp))
          clear kr HKF
          go_wp2_with fail
          have hmb : ∀ x ∈ (0 :: 1 :: List.replicate 30 0 : List Nat), x < 256 := fun x hx => by simp at hx; omega
          have hro := encodeRoot_any 1 0 z32 (0 :: 1 :: List.replicate 30 0) y2 (by omega) (by omega) z32_len (by simp) hzb hmb
          have hm3 := run_make_row' (P := Try.prog) 23 5 (.int .u8 0) 1 Try.underlying23 Try.info5 rfl .i64 .i64 11 (by omega) (by omega)
          rw [zRoot_eq]
          refine Calls.mono (by exact hro) ?_
          rintro r y3 ⟨vr, rfl, nr, kr⟩
          rw [rootE_1] at nr ⊢
          obtain ⟨ar2, mr2, cr2, rfl, h9⟩ := id nr.1
          have HKH := hide ((unhide HKG).trans kr (by simp))
          clear h9 nr kr HKG hro hmb
          have hmy : (Instr.makeSlice 23 (.int .i64 11) (.int .i64 11)).run Try.prog y3 = .ok (.slice (some ⟨y3.heap.size, 0, none⟩) 11 11) (y3.alloc (.cells (madeCells #[.int .u8 0] 11) 5)) := hm3 y3
          clear hm3
          go_wp2_with fail
          refine Calls.mono (decodeRoot_any 1 _ (List.replicate 11 0) _ (by omega) ((Zr.made y3 11).rd 11 11 (by omega) (by omega) (by omega))) ?_
          rintro r y4 ⟨rfl, kr⟩
          rw [decR_1]
          have HKI := hide ((unhide HK5).trans ((unhide HKH).trans (((Kept.refl [] y3).alloc (.cells (madeCells #[.int .u8 0] 11) 5)).trans kr (by simp)) (by simp)) (by simp))
          clear kr HKH hmy
          go_wp2_with fail
          go_ret
          exact ⟨rfl, (unhide HKI).below (Nat.le_refl _) (by simp)⟩
end Go.Proofs.Ythampopakcdgnaa
namespace Go.Proofs.Ythampopakcdgnaa
open Go.ChangeShapes Go.WideShapes Go.ChangeAt Go.RowKit Go.Deep
set_option linter.unusedVariables false
set_option linter.unusedSimpArgs false

theorem own : ownKnob Try.prog.godebug = none := by kernel_rfl
theorem laidOut : laidOutB Try.prog = true := by kernel_rfl
theorem byte_of_wf {x : Int} (h : (Lit.int .u8 x).wf = true) : 0 ≤ x ∧ x < 256 := by
  simp [Lit.wf, IntKind.min, IntKind.max, IntKind.signed, IntKind.bits] at h
  exact ⟨by omega, by omega⟩
theorem int_of_wf {x : Int} (h : (Lit.int .i64 x).wf = true) : -9223372036854775808 ≤ x ∧ x ≤ 9223372036854775807 := by
  simp [Lit.wf, IntKind.min, IntKind.max, IntKind.signed, IntKind.bits] at h
  exact ⟨by omega, by omega⟩

theorem bulk_one {H : Type} (d : DataW H) : 1 ≤ Rows.uptoBulk d := by
  cases d with
  | lit l => cases l <;> simp [Rows.uptoBulk]
  | nil => simp [Rows.uptoBulk]
  | ptr d => simp [Rows.uptoBulk]
  | slice elems spare => simp [Rows.uptoBulk]
  | agg parts => simp [Rows.uptoBulk]
  | iface t d => simp [Rows.uptoBulk]
  | map entries => simp [Rows.uptoBulk]
  | held h => simp [Rows.uptoBulk]
theorem bulk_len {H : Type} (l : List (DataW H)) : l.length ≤ Rows.uptoBulkAll l := by
  induction l with
  | nil => simp [Rows.uptoBulkAll]
  | cons x r ih => have := bulk_one x; simp only [Rows.uptoBulkAll, List.length_cons]; omega
theorem Try.bytes5 : Try.prog.bytesOf 5 = 1 := by kernel_rfl

section
variable {H : Type} {enc : TypeId × Value → H} {W : World}

/-- Bytes that came in, as the walks want them, of whatever length. -/
theorem open_bytes {fuel : Nat} {cs : List Value} {x : DataW H × List MemPlace} (h : DataW.trod enc Try.prog W 0 (fun _ => true) true fuel 23 cs = some x) :
    ∃ v bs, cs = [v] ∧ (bs.length ≤ 140737488355328 → Rd W v bs) ∧ ((bs = [] ∧ x.1 = .nil) ∨ ∃ elems spare, x.1 = .slice elems spare ∧ elems.length = bs.length) := by
  rcases open_ints Try.underlying23 Try.underlying5 (by kernel_rfl) h with ⟨rfl, rfl⟩ | ⟨a, len, cap, zs, rfl, _, hl, hm, hz, rfl, hcell, hwz⟩
  · exact ⟨_, [], rfl, fun _ => Rd.nil W, .inl ⟨rfl, rfl⟩⟩
  · have h2 : (lits (H := H) .u8 (zs.take len)).length = len := by simp only [lits, List.length_map, List.length_take]; simp at hz; omega
    have hbl : ((zs.take len).map Int.toNat).length = len := by simp at hz; simp; omega
    refine ⟨_, (zs.take len).map Int.toNat, rfl, fun hB => ⟨_, _, _, rfl, hbl, hl, ⟨by unfold maxLen at hm; omega, by omega⟩, by simp, ?_, ?_⟩, .inr ⟨_, _, rfl, by rw [h2, hbl]⟩⟩
    · intro y hy
      obtain ⟨z, hz1, rfl⟩ := List.mem_map.1 hy
      have := byte_of_wf (hwz z (List.mem_of_mem_take hz1)); omega
    · intro hp
      simp at hz
      have hc0 := hcell 0 (by omega)
      obtain ⟨b, off, spot⟩ := a
      have hspot : spot = none := by simpa [Addr.add] using World.cell?_spot hc0
      subst hspot
      refine ⟨b, off, rfl, fun i hi => ?_⟩
      have hc := hcell i (by omega)
      have hzi : i < zs.length := by omega
      rw [Addr.add_mid] at hc
      rw [hc]
      have hw := byte_of_wf (hwz (zs[i]) (List.getElem_mem hzi))
      simp only [List.getD_eq_getElem?_getD, List.getElem?_eq_getElem hzi, Option.getD_some, List.getElem?_map, List.getElem?_take, hi, if_true, Option.map_some]
      simp [u8]; omega
/-- Their length, by the reach. -/
theorem reach_bytes {ts : List TypeId} {ds : List (DataW H)} (h : (DataW.weightsEach Try.prog ts ds).all (· ≤ reachBytes) = true) {j : Nat} (ht : ts[j]? = some 23) {d : DataW H} (hd : ds[j]? = some d) {bs : List Nat}
    (hx : (bs = [] ∧ d = .nil) ∨ ∃ elems spare, d = .slice elems spare ∧ elems.length = bs.length) : bs.length ≤ 140737488351232 := by
  rcases hx with ⟨rfl, _⟩ | ⟨elems, spare, rfl, he⟩
  · simp
  · have := sized_slice h ht hd Try.underlying23
    rw [Try.bytes5, Nat.mul_one] at this
    unfold reachBytes at this
    omega
/-- Their length, by the bulk. -/
theorem bulk_bytes {d : DataW H} {bs : List Nat} (hx : (bs = [] ∧ d = .nil) ∨ ∃ elems spare, d = .slice elems spare ∧ elems.length = bs.length) : bs.length + 1 ≤ Rows.uptoBulk d := by
  rcases hx with ⟨rfl, rfl⟩ | ⟨elems, spare, rfl, he⟩
  · simp [Rows.uptoBulk]
  · have := bulk_len elems
    simp only [Rows.uptoBulk]; omega
end
end Go.Proofs.Ythampopakcdgnaa
