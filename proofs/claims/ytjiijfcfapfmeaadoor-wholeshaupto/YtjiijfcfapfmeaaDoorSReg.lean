/-
  'c.Sum() != g(append(h(x), ..))': one law for all orders.
-/
import Derived.Test.YtjiijfcfapfmeaaDoorSApp
import Derived.Deep.RegionHeld3
namespace Go.Proofs.YtjiijfcfapfmeaaDoor
open Go Go.RowKit Go.BigFrame
set_option linter.unusedVariables false
set_option linter.unusedSimpArgs false
section
variable {P : Program} {Q : Exit → Act → World → Prop}
theorem wp_sapp10 {id : Nat} {o0 o1 o2 o3 o4 o5 o6 o7 o8 o9 : Oper} {a : Act} {w : World} (hm : P.follows .mixedOrders = true) (hs : Region.noSelect #[o0, o1, o2, o3, o4, o5, o6, o7, o8, o9] = true)
    (f0 : Region.free .any #[o0, o1, o2, o3, o4, o5, o6, o7, o8, o9] #[false, false, false, false, false, false, false, false, false, false] 0 = true) (r0 : (Region.ready .any #[o0, o1, o2, o3, o4, o5, o6, o7, o8, o9] #[false, false, false, false, false, false, false, false, false, false]).contains 0 = true)
    (f2 : Region.free .any #[o0, o1, o2, o3, o4, o5, o6, o7, o8, o9] #[true, false, false, false, false, false, false, false, false, false] 2 = true) (r2 : (Region.ready .any #[o0, o1, o2, o3, o4, o5, o6, o7, o8, o9] #[true, false, false, false, false, false, false, false, false, false]).contains 2 = true)
    (f3 : Region.free .any #[o0, o1, o2, o3, o4, o5, o6, o7, o8, o9] #[true, false, true, false, false, false, false, false, false, false] 3 = true) (r3 : (Region.ready .any #[o0, o1, o2, o3, o4, o5, o6, o7, o8, o9] #[true, false, true, false, false, false, false, false, false, false]).contains 3 = true)
    (f4 : Region.free .any #[o0, o1, o2, o3, o4, o5, o6, o7, o8, o9] #[true, false, true, true, false, false, false, false, false, false] 4 = true) (r4 : (Region.ready .any #[o0, o1, o2, o3, o4, o5, o6, o7, o8, o9] #[true, false, true, true, false, false, false, false, false, false]).contains 4 = true)
    (rA : Region.ready .any #[o0, o1, o2, o3, o4, o5, o6, o7, o8, o9] #[true, false, true, true, true, false, false, false, false, false] = [1, 6])
    (rA1 : Region.ready .any #[o0, o1, o2, o3, o4, o5, o6, o7, o8, o9] #[true, true, true, true, true, false, false, false, false, false] = [5, 6])
    (rA2 : Region.ready .any #[o0, o1, o2, o3, o4, o5, o6, o7, o8, o9] #[true, true, true, true, true, true, false, false, false, false] = [6])
    (rA3 : Region.ready .any #[o0, o1, o2, o3, o4, o5, o6, o7, o8, o9] #[true, true, true, true, true, false, true, false, false, false] = [5])
    (rB1 : Region.ready .any #[o0, o1, o2, o3, o4, o5, o6, o7, o8, o9] #[true, false, true, true, true, false, true, false, false, false] = [1])
    (rC : Region.ready .any #[o0, o1, o2, o3, o4, o5, o6, o7, o8, o9] #[true, true, true, true, true, true, true, false, false, false] = [7])
    (rD : Region.ready .any #[o0, o1, o2, o3, o4, o5, o6, o7, o8, o9] #[true, true, true, true, true, true, true, true, false, false] = [8])
    (fE : Region.free .any #[o0, o1, o2, o3, o4, o5, o6, o7, o8, o9] #[true, true, true, true, true, true, true, true, true, false] 9 = true) (rE : (Region.ready .any #[o0, o1, o2, o3, o4, o5, o6, o7, o8, o9] #[true, true, true, true, true, true, true, true, true, false]).contains 9 = true)
    (rr : Region.ready .any #[o0, o1, o2, o3, o4, o5, o6, o7, o8, o9] #[true, true, true, true, true, true, true, true, true, true] = [])
    (g1 : o1.guard = none) (g2 : o5.guard = none) (g3 : o6.guard = none) (g4 : o7.guard = none) (g5 : o8.guard = none) (v0 v1 v2 v3 : Value) (A0 A1 A2 A3 : Act)
    (p0 : a.put o0.dst v0 = A0) (p1 : A0.put o2.dst v1 = A1) (p2 : A1.put o3.dst v2 = A2) (p3 : A2.put o4.dst v3 = A3) 
    (hy0 : YieldsIf P #[o0, o1, o2, o3, o4, o5, o6, o7, o8, o9] (Kept [] w) o0 v0 a) (hy1 : YieldsIf P #[o0, o1, o2, o3, o4, o5, o6, o7, o8, o9] (Kept [] w) o2 v1 A0) (hy2 : YieldsIf P #[o0, o1, o2, o3, o4, o5, o6, o7, o8, o9] (Kept [] w) o3 v2 A1) (hy3 : YieldsIf P #[o0, o1, o2, o3, o4, o5, o6, o7, o8, o9] (Kept [] w) o4 v3 A2) 
    (s z : Value) (RT RB RR : Value → World → Prop) (sT : ∀ u w1 w2, RT u w1 → Kept [] w1 w2 → RT u w2) (sB : ∀ u w1 w2, RB u w1 → Kept [] w1 w2 → RB u w2)
    (E1 E2 : Act → Prop) (e1a : E1 A3) (e1b : ∀ b, E1 (A3.put o6.dst b)) (e2a : E2 (A3.put o1.dst s)) (e2b : ∀ b, E2 ((A3.put o1.dst s).put o6.dst b)) (e2c : ∀ b, E2 ((A3.put o6.dst b).put o1.dst s))
    (k1 : ∀ X w1, E1 X → Kept [] w w1 → ∀ K : Act → World → Prop, (∀ w2, Kept [] w1 w2 → K (X.put o1.dst s) w2) → o1.wp P X w1 K (NoPanic Q))
    (k2 : ∀ X w1, E2 X → Kept [] w w1 → ∀ K : Act → World → Prop, (∀ u w2, RT u w2 → Kept [] w1 w2 → K (X.put o5.dst u) w2) → o5.wp P X w1 K (NoPanic Q))
    (k3 : ∀ X w1, Kept [] w w1 → ∀ K : Act → World → Prop, (∀ b w2, RB b w2 → Kept [] w1 w2 → K (X.put o6.dst b) w2) → o6.wp P X w1 K (NoPanic Q))
    (F : Value → Value → Act) (q1 : ∀ u b, (((A3.put o1.dst s).put o5.dst u).put o6.dst b) = F u b) (q2 : ∀ u b, (((A3.put o1.dst s).put o6.dst b).put o5.dst u) = F u b) (q3 : ∀ u b, (((A3.put o6.dst b).put o1.dst s).put o5.dst u) = F u b)
    (k4 : ∀ u b w1, RT u w1 → RB b w1 → Kept [] w w1 → ∀ K : Act → World → Prop, (∀ r w2, RR r w2 → Kept [] w w2 → K ((F u b).put o7.dst r) w2) → o7.wp P (F u b) w1 K (NoPanic Q))
    (k5 : ∀ u b r w1, RR r w1 → Kept [] w w1 → ∀ K : Act → World → Prop, (∀ w2, Kept [] w w2 → K (((F u b).put o7.dst r).put o8.dst s) w2) → o8.wp P ((F u b).put o7.dst r) w1 K (NoPanic Q))
    (hc : ∀ u b r, YieldsIf P #[o0, o1, o2, o3, o4, o5, o6, o7, o8, o9] (Kept [] w) o9 z (((F u b).put o7.dst r).put o8.dst s))
    (h : ∀ u b r w1, Kept [] w w1 → Q .normal ((((F u b).put o7.dst r).put o8.dst s).put o9.dst z) w1) :
    (Code.region id #[o0, o1, o2, o3, o4, o5, o6, o7, o8, o9] true).wp P Q a w := by
  subst p0 p1 p2 p3
  have hS : Kept [] w w.drew := (Kept.refl [] w).drew
  refine wp_region_noPanic ?_
  refine wp_region_held_drew (S := Kept [] w) hm hS (fun hH => ?_)
  show wpAnyH P .any #[o0, o1, o2, o3, o4, o5, o6, o7, o8, o9] (NoPanic Q) (Kept [] w) 10 #[false, false, false, false, false, false, false, false, false, false] a w.drew
  refine wpAnyH_take (i := 0) (oi := o0) rfl hs f0 r0 (fun _ _ _ h => h) hy0 hS ?_
  refine wpAnyH_take (i := 2) (oi := o2) rfl hs f2 r2 (fun _ _ _ h => h) hy1 hS ?_
  refine wpAnyH_take (i := 3) (oi := o3) rfl hs f3 r3 (fun _ _ _ h => h) hy2 hS ?_
  refine wpAnyH_take (i := 4) (oi := o4) rfl hs f4 r4 (fun _ _ _ h => h) hy3 hS ?_
  have wa1 : ∀ y, Region.wanted o1 y = true := fun y => by unfold Region.wanted; rw [g1]
  have wa5 : ∀ y, Region.wanted o5 y = true := fun y => by unfold Region.wanted; rw [g2]
  have wa6 : ∀ y, Region.wanted o6 y = true := fun y => by unfold Region.wanted; rw [g3]
  have wa7 : ∀ y, Region.wanted o7 y = true := fun y => by unfold Region.wanted; rw [g4]
  have wa8 : ∀ y, Region.wanted o8 y = true := fun y => by unfold Region.wanted; rw [g5]
  have fin : ∀ u b w3, RT u w3 → RB b w3 → Kept [] w w3 → wpAnyH P .any #[o0, o1, o2, o3, o4, o5, o6, o7, o8, o9] (NoPanic Q) (Kept [] w) 3 #[true, true, true, true, true, true, true, false, false, false] (F u b) w3 := fun u b w3 ht hb hk => by
    refine wpAnyH_ready (rs := [7]) rC (by simp) (AllReadyH.cons (o := o7) rfl (fun K hK => ?_) AllReadyH.nil)
    rw [if_pos (wa7 _)]
    refine k4 u b w3 ht hb hk K (fun r w4 hr k4' => hK.out _ _ k4' (fun _ => ?_))
    clear hK K
    refine wpAnyH_ready (rs := [8]) rD (by simp) (AllReadyH.cons (o := o8) rfl (fun K hK => ?_) AllReadyH.nil)
    rw [if_pos (wa8 _)]
    refine k5 u b r w4 hr k4' K (fun w5 k5' => hK.out _ _ k5' (fun _ => ?_))
    clear hK K
    refine wpAnyH_take (i := 9) (oi := o9) rfl hs fE rE (fun _ _ _ h => h) (hc u b r) k5' ?_
    exact ⟨rr, NoPanic.normal (h u b r w5 k5')⟩
  refine wpAnyH_ready (rs := [1, 6]) rA (by simp) (AllReadyH.cons (o := o1) rfl (fun K hK => ?_) (AllReadyH.cons (o := o6) rfl (fun K hK => ?_) AllReadyH.nil))
  · rw [if_pos (wa1 _)]
    refine k1 _ _ e1a hS K (fun w1 q => hK.out _ _ (hS.trans q (by simp)) (fun _ => ?_))
    have kw1 := hS.trans q (by simp)
    clear hK K
    refine wpAnyH_ready (rs := [5, 6]) rA1 (by simp) (AllReadyH.cons (o := o5) rfl (fun K hK => ?_) (AllReadyH.cons (o := o6) rfl (fun K hK => ?_) AllReadyH.nil))
    · rw [if_pos (wa5 _)]
      refine k2 _ _ e2a kw1 K (fun u w2 hu q2' => hK.out _ _ (kw1.trans q2' (by simp)) (fun _ => ?_))
      have kw2 := kw1.trans q2' (by simp)
      clear hK K
      refine wpAnyH_ready (rs := [6]) rA2 (by simp) (AllReadyH.cons (o := o6) rfl (fun K hK => ?_) AllReadyH.nil)
      rw [if_pos (wa6 _)]
      refine k3 _ _ kw2 K (fun b w3 hb q3' => hK.out _ _ (kw2.trans q3' (by simp)) (fun _ => ?_))
      rw [q1]
      exact fin u b w3 (sT u _ _ hu q3') hb (kw2.trans q3' (by simp))
    · rw [if_pos (wa6 _)]
      refine k3 _ _ kw1 K (fun b w2 hb q2' => hK.out _ _ (kw1.trans q2' (by simp)) (fun _ => ?_))
      have kw2 := kw1.trans q2' (by simp)
      clear hK K
      refine wpAnyH_ready (rs := [5]) rA3 (by simp) (AllReadyH.cons (o := o5) rfl (fun K hK => ?_) AllReadyH.nil)
      rw [if_pos (wa5 _)]
      refine k2 _ _ (e2b b) kw2 K (fun u w3 hu q3' => hK.out _ _ (kw2.trans q3' (by simp)) (fun _ => ?_))
      rw [q2]
      exact fin u b w3 hu (sB b _ _ hb q3') (kw2.trans q3' (by simp))
  · rw [if_pos (wa6 _)]
    refine k3 _ _ hS K (fun b w1 hb q => hK.out _ _ (hS.trans q (by simp)) (fun _ => ?_))
    have kw1 := hS.trans q (by simp)
    clear hK K
    refine wpAnyH_ready (rs := [1]) rB1 (by simp) (AllReadyH.cons (o := o1) rfl (fun K hK => ?_) AllReadyH.nil)
    rw [if_pos (wa1 _)]
    refine k1 _ _ (e1b b) kw1 K (fun w2 q2' => hK.out _ _ (kw1.trans q2' (by simp)) (fun _ => ?_))
    have kw2 := kw1.trans q2' (by simp)
    clear hK K
    refine wpAnyH_ready (rs := [5]) rA3 (by simp) (AllReadyH.cons (o := o5) rfl (fun K hK => ?_) AllReadyH.nil)
    rw [if_pos (wa5 _)]
    refine k2 _ _ (e2c b) kw2 K (fun u w3 hu q3' => hK.out _ _ (kw2.trans q3' (by simp)) (fun _ => ?_))
    rw [q3]
    exact fin u b w3 hu (sB b _ _ hb (q2'.trans q3' (by simp))) (kw2.trans q3' (by simp))
end
end Go.Proofs.YtjiijfcfapfmeaaDoor
