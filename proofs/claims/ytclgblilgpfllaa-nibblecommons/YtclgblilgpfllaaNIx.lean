/-
  'f(.., a)[i] < f(.., b)[i]': reads, two calls, an index and a load behind each, a comparison, an assign. One law for all orders.
-/
import Derived.Test.YtclgblilgpfllaaNPair
namespace Go.Proofs.Ytclgblilgpfllaa
open Go Go.RowKit Go.BigFrame
set_option linter.unusedVariables false
set_option linter.unusedSimpArgs false
section
variable {P : Program} {Q : Exit → Act → World → Prop}
theorem wp_ix14 {id : Nat} {o0 o1 o2 o3 o4 o5 o6 o7 o8 o9 o10 o11 o12 o13 : Oper} {a : Act} {w : World} (S : World → Prop) (hm : P.follows .mixedOrders = true) (hs : Region.noSelect #[o0, o1, o2, o3, o4, o5, o6, o7, o8, o9, o10, o11, o12, o13] = true)
    (f0 : Region.free .any #[o0, o1, o2, o3, o4, o5, o6, o7, o8, o9, o10, o11, o12, o13] #[false, false, false, false, false, false, false, false, false, false, false, false, false, false] 0 = true) (r0 : (Region.ready .any #[o0, o1, o2, o3, o4, o5, o6, o7, o8, o9, o10, o11, o12, o13] #[false, false, false, false, false, false, false, false, false, false, false, false, false, false]).contains 0 = true)
    (f1 : Region.free .any #[o0, o1, o2, o3, o4, o5, o6, o7, o8, o9, o10, o11, o12, o13] #[true, false, false, false, false, false, false, false, false, false, false, false, false, false] 1 = true) (r1 : (Region.ready .any #[o0, o1, o2, o3, o4, o5, o6, o7, o8, o9, o10, o11, o12, o13] #[true, false, false, false, false, false, false, false, false, false, false, false, false, false]).contains 1 = true)
    (f3 : Region.free .any #[o0, o1, o2, o3, o4, o5, o6, o7, o8, o9, o10, o11, o12, o13] #[true, true, false, false, false, false, false, false, false, false, false, false, false, false] 3 = true) (r3 : (Region.ready .any #[o0, o1, o2, o3, o4, o5, o6, o7, o8, o9, o10, o11, o12, o13] #[true, true, false, false, false, false, false, false, false, false, false, false, false, false]).contains 3 = true)
    (f6 : Region.free .any #[o0, o1, o2, o3, o4, o5, o6, o7, o8, o9, o10, o11, o12, o13] #[true, true, false, true, false, false, false, false, false, false, false, false, false, false] 6 = true) (r6 : (Region.ready .any #[o0, o1, o2, o3, o4, o5, o6, o7, o8, o9, o10, o11, o12, o13] #[true, true, false, true, false, false, false, false, false, false, false, false, false, false]).contains 6 = true)
    (f7 : Region.free .any #[o0, o1, o2, o3, o4, o5, o6, o7, o8, o9, o10, o11, o12, o13] #[true, true, false, true, false, false, true, false, false, false, false, false, false, false] 7 = true) (r7 : (Region.ready .any #[o0, o1, o2, o3, o4, o5, o6, o7, o8, o9, o10, o11, o12, o13] #[true, true, false, true, false, false, true, false, false, false, false, false, false, false]).contains 7 = true)
    (f9 : Region.free .any #[o0, o1, o2, o3, o4, o5, o6, o7, o8, o9, o10, o11, o12, o13] #[true, true, false, true, false, false, true, true, false, false, false, false, false, false] 9 = true) (r9 : (Region.ready .any #[o0, o1, o2, o3, o4, o5, o6, o7, o8, o9, o10, o11, o12, o13] #[true, true, false, true, false, false, true, true, false, false, false, false, false, false]).contains 9 = true)
    (r2 : Region.ready .any #[o0, o1, o2, o3, o4, o5, o6, o7, o8, o9, o10, o11, o12, o13] #[true, true, false, true, false, false, true, true, false, true, false, false, false, false] = [2])
    (f4 : Region.free .any #[o0, o1, o2, o3, o4, o5, o6, o7, o8, o9, o10, o11, o12, o13] #[true, true, true, true, false, false, true, true, false, true, false, false, false, false] 4 = true) (r4 : (Region.ready .any #[o0, o1, o2, o3, o4, o5, o6, o7, o8, o9, o10, o11, o12, o13] #[true, true, true, true, false, false, true, true, false, true, false, false, false, false]).contains 4 = true)
    (rA : Region.ready .any #[o0, o1, o2, o3, o4, o5, o6, o7, o8, o9, o10, o11, o12, o13] #[true, true, true, true, true, false, true, true, false, true, false, false, false, false] = [5, 8])
    (rA1 : Region.ready .any #[o0, o1, o2, o3, o4, o5, o6, o7, o8, o9, o10, o11, o12, o13] #[true, true, true, true, true, true, true, true, false, true, false, false, false, false] = [8])
    (fA2 : Region.free .any #[o0, o1, o2, o3, o4, o5, o6, o7, o8, o9, o10, o11, o12, o13] #[true, true, true, true, true, true, true, true, true, true, false, false, false, false] 10 = true) (rA2 : (Region.ready .any #[o0, o1, o2, o3, o4, o5, o6, o7, o8, o9, o10, o11, o12, o13] #[true, true, true, true, true, true, true, true, true, true, false, false, false, false]).contains 10 = true)
    (rA3 : Region.ready .any #[o0, o1, o2, o3, o4, o5, o6, o7, o8, o9, o10, o11, o12, o13] #[true, true, true, true, true, true, true, true, true, true, true, false, false, false] = [11])
    (fB1 : Region.free .any #[o0, o1, o2, o3, o4, o5, o6, o7, o8, o9, o10, o11, o12, o13] #[true, true, true, true, true, false, true, true, true, true, false, false, false, false] 10 = true) (rB1 : (Region.ready .any #[o0, o1, o2, o3, o4, o5, o6, o7, o8, o9, o10, o11, o12, o13] #[true, true, true, true, true, false, true, true, true, true, false, false, false, false]).contains 10 = true)
    (rB2 : Region.ready .any #[o0, o1, o2, o3, o4, o5, o6, o7, o8, o9, o10, o11, o12, o13] #[true, true, true, true, true, false, true, true, true, true, true, false, false, false] = [5, 11])
    (rB3 : Region.ready .any #[o0, o1, o2, o3, o4, o5, o6, o7, o8, o9, o10, o11, o12, o13] #[true, true, true, true, true, false, true, true, true, true, true, true, false, false] = [5])
    (fC : Region.free .any #[o0, o1, o2, o3, o4, o5, o6, o7, o8, o9, o10, o11, o12, o13] #[true, true, true, true, true, true, true, true, true, true, true, true, false, false] 12 = true) (rC : (Region.ready .any #[o0, o1, o2, o3, o4, o5, o6, o7, o8, o9, o10, o11, o12, o13] #[true, true, true, true, true, true, true, true, true, true, true, true, false, false]).contains 12 = true)
    (fD : Region.free .any #[o0, o1, o2, o3, o4, o5, o6, o7, o8, o9, o10, o11, o12, o13] #[true, true, true, true, true, true, true, true, true, true, true, true, true, false] 13 = true) (rD : (Region.ready .any #[o0, o1, o2, o3, o4, o5, o6, o7, o8, o9, o10, o11, o12, o13] #[true, true, true, true, true, true, true, true, true, true, true, true, true, false]).contains 13 = true)
    (rr : Region.ready .any #[o0, o1, o2, o3, o4, o5, o6, o7, o8, o9, o10, o11, o12, o13] #[true, true, true, true, true, true, true, true, true, true, true, true, true, true] = [])
    (g2 : o2.guard = none) (g5 : o5.guard = none) (g8 : o8.guard = none) (g11 : o11.guard = none) (hS : S w.drew) (v0 v1 v2 v3 v4 v5 : Value) (A0 A1 A2 A3 A4 A5 : Act)
    (p0 : a.put o0.dst v0 = A0) (p1 : A0.put o1.dst v1 = A1) (p2 : A1.put o3.dst v2 = A2) (p3 : A2.put o6.dst v3 = A3) (p4 : A3.put o7.dst v4 = A4) (p5 : A4.put o9.dst v5 = A5) 
    (hy0 : YieldsIf P #[o0, o1, o2, o3, o4, o5, o6, o7, o8, o9, o10, o11, o12, o13] S o0 v0 a) (hy1 : YieldsIf P #[o0, o1, o2, o3, o4, o5, o6, o7, o8, o9, o10, o11, o12, o13] S o1 v1 A0) (hy2 : YieldsIf P #[o0, o1, o2, o3, o4, o5, o6, o7, o8, o9, o10, o11, o12, o13] S o3 v2 A1) (hy3 : YieldsIf P #[o0, o1, o2, o3, o4, o5, o6, o7, o8, o9, o10, o11, o12, o13] S o6 v3 A2) (hy4 : YieldsIf P #[o0, o1, o2, o3, o4, o5, o6, o7, o8, o9, o10, o11, o12, o13] S o7 v4 A3) (hy5 : YieldsIf P #[o0, o1, o2, o3, o4, o5, o6, o7, o8, o9, o10, o11, o12, o13] S o9 v5 A4) 
    (q q' : Value → Value) (x y z : Value) (R1 : Value → World → Prop) (R2 : Value → World → Value → World → Prop)
    (k1 : ∀ K : Act → World → Prop, (∀ u w1, R1 u w1 → K (A5.put o2.dst u) w1) → o2.wp P A5 w.drew K (NoPanic Q)) (S1 : ∀ u w1, R1 u w1 → S w1) (S2 : ∀ u w1 v w2, R1 u w1 → R2 u w1 v w2 → S w2)
    (hi1 : ∀ u w1, R1 u w1 → YieldsIf P #[o0, o1, o2, o3, o4, o5, o6, o7, o8, o9, o10, o11, o12, o13] S o4 (q u) (A5.put o2.dst u))
    (kl1 : ∀ u w1, R1 u w1 → ∀ K : Act → World → Prop, K (((A5.put o2.dst u).put o4.dst (q u)).put o5.dst x) w1 → o5.wp P ((A5.put o2.dst u).put o4.dst (q u)) w1 K (NoPanic Q))
    (kc2 : ∀ u w1, R1 u w1 → ∀ K : Act → World → Prop, (∀ v w2, R2 u w1 v w2 → K ((((A5.put o2.dst u).put o4.dst (q u)).put o5.dst x).put o8.dst v) w2) → o8.wp P (((A5.put o2.dst u).put o4.dst (q u)).put o5.dst x) w1 K (NoPanic Q))
    (kc2' : ∀ u w1, R1 u w1 → ∀ K : Act → World → Prop, (∀ v w2, R2 u w1 v w2 → K (((A5.put o2.dst u).put o4.dst (q u)).put o8.dst v) w2) → o8.wp P ((A5.put o2.dst u).put o4.dst (q u)) w1 K (NoPanic Q))
    (hi2 : ∀ u w1 v w2, R1 u w1 → R2 u w1 v w2 → YieldsIf P #[o0, o1, o2, o3, o4, o5, o6, o7, o8, o9, o10, o11, o12, o13] S o10 (q' v) ((((A5.put o2.dst u).put o4.dst (q u)).put o5.dst x).put o8.dst v)) (hi2' : ∀ u w1 v w2, R1 u w1 → R2 u w1 v w2 → YieldsIf P #[o0, o1, o2, o3, o4, o5, o6, o7, o8, o9, o10, o11, o12, o13] S o10 (q' v) (((A5.put o2.dst u).put o4.dst (q u)).put o8.dst v))
    (kl2 : ∀ u w1 v w2, R1 u w1 → R2 u w1 v w2 → ∀ K : Act → World → Prop, K ((((((A5.put o2.dst u).put o4.dst (q u)).put o5.dst x).put o8.dst v).put o10.dst (q' v)).put o11.dst y) w2 → o11.wp P (((((A5.put o2.dst u).put o4.dst (q u)).put o5.dst x).put o8.dst v).put o10.dst (q' v)) w2 K (NoPanic Q))
    (kl2b : ∀ u w1 v w2, R1 u w1 → R2 u w1 v w2 → ∀ K : Act → World → Prop, K ((((((A5.put o2.dst u).put o4.dst (q u)).put o8.dst v).put o10.dst (q' v)).put o5.dst x).put o11.dst y) w2 → o11.wp P (((((A5.put o2.dst u).put o4.dst (q u)).put o8.dst v).put o10.dst (q' v)).put o5.dst x) w2 K (NoPanic Q))
    (kl2c : ∀ u w1 v w2, R1 u w1 → R2 u w1 v w2 → ∀ K : Act → World → Prop, K (((((A5.put o2.dst u).put o4.dst (q u)).put o8.dst v).put o10.dst (q' v)).put o11.dst y) w2 → o11.wp P ((((A5.put o2.dst u).put o4.dst (q u)).put o8.dst v).put o10.dst (q' v)) w2 K (NoPanic Q))
    (kl1b : ∀ u w1 v w2, R1 u w1 → R2 u w1 v w2 → ∀ K : Act → World → Prop, K (((((A5.put o2.dst u).put o4.dst (q u)).put o8.dst v).put o10.dst (q' v)).put o5.dst x) w2 → o5.wp P ((((A5.put o2.dst u).put o4.dst (q u)).put o8.dst v).put o10.dst (q' v)) w2 K (NoPanic Q))
    (kl1c : ∀ u w1 v w2, R1 u w1 → R2 u w1 v w2 → ∀ K : Act → World → Prop, K ((((((A5.put o2.dst u).put o4.dst (q u)).put o8.dst v).put o10.dst (q' v)).put o11.dst y).put o5.dst x) w2 → o5.wp P (((((A5.put o2.dst u).put o4.dst (q u)).put o8.dst v).put o10.dst (q' v)).put o11.dst y) w2 K (NoPanic Q))
    (F G H : Value → Value → Act) (e1 : ∀ u v, ((((((A5.put o2.dst u).put o4.dst (q u)).put o5.dst x).put o8.dst v).put o10.dst (q' v)).put o11.dst y) = F u v) (e2 : ∀ u v, ((((((A5.put o2.dst u).put o4.dst (q u)).put o8.dst v).put o10.dst (q' v)).put o5.dst x).put o11.dst y) = F u v) (e3 : ∀ u v, ((((((A5.put o2.dst u).put o4.dst (q u)).put o8.dst v).put o10.dst (q' v)).put o11.dst y).put o5.dst x) = F u v) (e4 : ∀ u v, (F u v).put o12.dst z = G u v) (e5 : ∀ u v, (G u v).put o13.dst z = H u v)
    (hc : ∀ u w1 v w2, R1 u w1 → R2 u w1 v w2 → YieldsIf P #[o0, o1, o2, o3, o4, o5, o6, o7, o8, o9, o10, o11, o12, o13] S o12 z (F u v)) (hd : ∀ u w1 v w2, R1 u w1 → R2 u w1 v w2 → YieldsIf P #[o0, o1, o2, o3, o4, o5, o6, o7, o8, o9, o10, o11, o12, o13] S o13 z (G u v))
    (h : ∀ u w1 v w2, R1 u w1 → R2 u w1 v w2 → Q .normal (H u v) w2) :
    (Code.region id #[o0, o1, o2, o3, o4, o5, o6, o7, o8, o9, o10, o11, o12, o13] true).wp P Q a w := by
  subst p0 p1 p2 p3 p4 p5
  refine wp_region_noPanic ?_
  refine wp_region_held_drew (S := S) hm hS (fun hH => ?_)
  show wpAnyH P .any #[o0, o1, o2, o3, o4, o5, o6, o7, o8, o9, o10, o11, o12, o13] (NoPanic Q) S 14 #[false, false, false, false, false, false, false, false, false, false, false, false, false, false] a w.drew
  refine wpAnyH_take (i := 0) (oi := o0) rfl hs f0 r0 (fun _ _ _ h => h) hy0 hS ?_
  refine wpAnyH_take (i := 1) (oi := o1) rfl hs f1 r1 (fun _ _ _ h => h) hy1 hS ?_
  refine wpAnyH_take (i := 3) (oi := o3) rfl hs f3 r3 (fun _ _ _ h => h) hy2 hS ?_
  refine wpAnyH_take (i := 6) (oi := o6) rfl hs f6 r6 (fun _ _ _ h => h) hy3 hS ?_
  refine wpAnyH_take (i := 7) (oi := o7) rfl hs f7 r7 (fun _ _ _ h => h) hy4 hS ?_
  refine wpAnyH_take (i := 9) (oi := o9) rfl hs f9 r9 (fun _ _ _ h => h) hy5 hS ?_
  have wa2 : ∀ y, Region.wanted o2 y = true := fun y => by unfold Region.wanted; rw [g2]
  have wa5 : ∀ y, Region.wanted o5 y = true := fun y => by unfold Region.wanted; rw [g5]
  have wa8 : ∀ y, Region.wanted o8 y = true := fun y => by unfold Region.wanted; rw [g8]
  have wa11 : ∀ y, Region.wanted o11 y = true := fun y => by unfold Region.wanted; rw [g11]
  refine wpAnyH_ready (rs := [2]) r2 (by simp) (AllReadyH.cons (o := o2) rfl (fun K hK => ?_) AllReadyH.nil)
  rw [if_pos (wa2 _)]
  refine k1 K (fun u w1 h1 => hK.out _ _ (S1 u w1 h1) (fun _ => ?_))
  clear hK K
  refine wpAnyH_take (i := 4) (oi := o4) rfl hs f4 r4 (fun _ _ _ h => h) (hi1 u w1 h1) (S1 u w1 h1) ?_
  have fin : ∀ v w2, R2 u w1 v w2 → wpAnyH P .any #[o0, o1, o2, o3, o4, o5, o6, o7, o8, o9, o10, o11, o12, o13] (NoPanic Q) S 2 #[true, true, true, true, true, true, true, true, true, true, true, true, false, false] (F u v) w2 := fun v w2 h2 => by
    refine wpAnyH_take (i := 12) (oi := o12) rfl hs fC rC (fun _ _ _ h => h) (hc u w1 v w2 h1 h2) (S2 u w1 v w2 h1 h2) ?_
    rw [e4]
    refine wpAnyH_take (i := 13) (oi := o13) rfl hs fD rD (fun _ _ _ h => h) (hd u w1 v w2 h1 h2) (S2 u w1 v w2 h1 h2) ?_
    rw [e5]
    exact ⟨rr, NoPanic.normal (h u w1 v w2 h1 h2)⟩
  refine wpAnyH_ready (rs := [5, 8]) rA (by simp) (AllReadyH.cons (o := o5) rfl (fun K hK => ?_) (AllReadyH.cons (o := o8) rfl (fun K hK => ?_) AllReadyH.nil))
  · rw [if_pos (wa5 _)]
    refine kl1 u w1 h1 K (hK.out _ _ (S1 u w1 h1) (fun _ => ?_))
    clear hK K
    refine wpAnyH_ready (rs := [8]) rA1 (by simp) (AllReadyH.cons (o := o8) rfl (fun K hK => ?_) AllReadyH.nil)
    rw [if_pos (wa8 _)]
    refine kc2 u w1 h1 K (fun v w2 h2 => hK.out _ _ (S2 u w1 v w2 h1 h2) (fun _ => ?_))
    clear hK K
    refine wpAnyH_take (i := 10) (oi := o10) rfl hs fA2 rA2 (fun _ _ _ h => h) (hi2 u w1 v w2 h1 h2) (S2 u w1 v w2 h1 h2) ?_
    refine wpAnyH_ready (rs := [11]) rA3 (by simp) (AllReadyH.cons (o := o11) rfl (fun K hK => ?_) AllReadyH.nil)
    rw [if_pos (wa11 _)]
    refine kl2 u w1 v w2 h1 h2 K (hK.out _ _ (S2 u w1 v w2 h1 h2) (fun _ => ?_))
    rw [e1]
    exact fin v w2 h2
  · rw [if_pos (wa8 _)]
    refine kc2' u w1 h1 K (fun v w2 h2 => hK.out _ _ (S2 u w1 v w2 h1 h2) (fun _ => ?_))
    clear hK K
    refine wpAnyH_take (i := 10) (oi := o10) rfl hs fB1 rB1 (fun _ _ _ h => h) (hi2' u w1 v w2 h1 h2) (S2 u w1 v w2 h1 h2) ?_
    refine wpAnyH_ready (rs := [5, 11]) rB2 (by simp) (AllReadyH.cons (o := o5) rfl (fun K hK => ?_) (AllReadyH.cons (o := o11) rfl (fun K hK => ?_) AllReadyH.nil))
    · rw [if_pos (wa5 _)]
      refine kl1b u w1 v w2 h1 h2 K (hK.out _ _ (S2 u w1 v w2 h1 h2) (fun _ => ?_))
      clear hK K
      refine wpAnyH_ready (rs := [11]) rA3 (by simp) (AllReadyH.cons (o := o11) rfl (fun K hK => ?_) AllReadyH.nil)
      rw [if_pos (wa11 _)]
      refine kl2b u w1 v w2 h1 h2 K (hK.out _ _ (S2 u w1 v w2 h1 h2) (fun _ => ?_))
      rw [e2]
      exact fin v w2 h2
    · rw [if_pos (wa11 _)]
      refine kl2c u w1 v w2 h1 h2 K (hK.out _ _ (S2 u w1 v w2 h1 h2) (fun _ => ?_))
      clear hK K
      refine wpAnyH_ready (rs := [5]) rB3 (by simp) (AllReadyH.cons (o := o5) rfl (fun K hK => ?_) AllReadyH.nil)
      rw [if_pos (wa5 _)]
      refine kl1c u w1 v w2 h1 h2 K (hK.out _ _ (S2 u w1 v w2 h1 h2) (fun _ => ?_))
      rw [e3]
      exact fin v w2 h2
end
/-- A plain load of a cell. -/
theorem wp_loadZ {P : Program} {o : Oper} {a : Act} {w : World} {K : Act → World → Prop} {Q : Exit → Act → World → Prop} (ty : TypeId) (x : Operand) (ho : o.op = .load ty x) (ad : Addr) (hx : a.eval x = .pointer (some ad)) (v : Value) (k : IntKind) (hu : P.underlying ty = some (.int k)) (hc : w.cell? ad = some v)
    (h : K (a.put o.dst v) w) : o.wp P a w K Q := by
  unfold Oper.wp
  rw [run_load1 ty x ho ad hx w v k hu hc]
  exact h
/-- Where an index of a slice lies. -/
def ixP (n : Nat) : Value → Value
  | .slice (some ad) _ _ => .pointer (some (ad.add n))
  | _ => undef
end Go.Proofs.Ytclgblilgpfllaa
