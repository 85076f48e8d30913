/-
  A return of two parts of a variable and a number: five reads, two stores, an assign; reads may come up behind stores. One law for all orders.
-/
import Derived.Test.YtbljofojeagdkaaDoorMBoth2
import Derived.Deep.RegionHeld3
namespace Go.Proofs.YtbljofojeagdkaaDoor
open Go
section
variable {P : Program} {Q : Exit → Act → World → Prop}
theorem wp_ret8 {id : Nat} {o0 o1 o2 o3 o4 o5 o6 o7 : Oper} {a : Act} {w : World} (S : World → Prop) (hm : P.follows .mixedOrders = true) (hs : Region.noSelect #[o0, o1, o2, o3, o4, o5, o6, o7] = true)
    (f0 : Region.free .any #[o0, o1, o2, o3, o4, o5, o6, o7] #[false, false, false, false, false, false, false, false] 0 = true) (r0 : (Region.ready .any #[o0, o1, o2, o3, o4, o5, o6, o7] #[false, false, false, false, false, false, false, false]).contains 0 = true)
    (f1 : Region.free .any #[o0, o1, o2, o3, o4, o5, o6, o7] #[true, false, false, false, false, false, false, false] 1 = true) (r1 : (Region.ready .any #[o0, o1, o2, o3, o4, o5, o6, o7] #[true, false, false, false, false, false, false, false]).contains 1 = true)
    (f2 : Region.free .any #[o0, o1, o2, o3, o4, o5, o6, o7] #[true, true, false, false, false, false, false, false] 2 = true) (r2 : (Region.ready .any #[o0, o1, o2, o3, o4, o5, o6, o7] #[true, true, false, false, false, false, false, false]).contains 2 = true)
    (f3 : Region.free .any #[o0, o1, o2, o3, o4, o5, o6, o7] #[true, true, true, false, false, false, false, false] 3 = true) (r3 : (Region.ready .any #[o0, o1, o2, o3, o4, o5, o6, o7] #[true, true, true, false, false, false, false, false]).contains 3 = true)
    (f4 : Region.free .any #[o0, o1, o2, o3, o4, o5, o6, o7] #[true, true, true, true, false, false, false, false] 4 = true) (r4 : (Region.ready .any #[o0, o1, o2, o3, o4, o5, o6, o7] #[true, true, true, true, false, false, false, false]).contains 4 = true)
    (r5 : Region.ready .any #[o0, o1, o2, o3, o4, o5, o6, o7] #[true, true, true, true, true, false, false, false] = [5]) (r6 : Region.ready .any #[o0, o1, o2, o3, o4, o5, o6, o7] #[true, true, true, true, true, true, false, false] = [6])
    (f7 : Region.free .any #[o0, o1, o2, o3, o4, o5, o6, o7] #[true, true, true, true, true, true, true, false] 7 = true) (r7 : (Region.ready .any #[o0, o1, o2, o3, o4, o5, o6, o7] #[true, true, true, true, true, true, true, false]).contains 7 = true)
    (r8 : Region.ready .any #[o0, o1, o2, o3, o4, o5, o6, o7] #[true, true, true, true, true, true, true, true] = [])
    (g5 : o5.guard = none) (g6 : o6.guard = none)
    (hS : S w.drew) (v0 v1 v2 v3 v4 v7 : Value) (A0 A1 A2 A3 A A5 A6 A7 : Act)
    (p0 : a.put o0.dst v0 = A0) (p1 : A0.put o1.dst v1 = A1) (p2 : A1.put o2.dst v2 = A2) (p3 : A2.put o3.dst v3 = A3) (p4 : A3.put o4.dst v4 = A) (p5 : A.put o5.dst undef = A5) (p6 : A5.put o6.dst undef = A6) (p7 : A6.put o7.dst v7 = A7)
    (hy0 : YieldsIf P #[o0, o1, o2, o3, o4, o5, o6, o7] S o0 v0 a) (hy1 : YieldsIf P #[o0, o1, o2, o3, o4, o5, o6, o7] S o1 v1 A0) (hy2 : YieldsIf P #[o0, o1, o2, o3, o4, o5, o6, o7] S o2 v2 A1) (hy3 : YieldsIf P #[o0, o1, o2, o3, o4, o5, o6, o7] S o3 v3 A2) (hy4 : YieldsIf P #[o0, o1, o2, o3, o4, o5, o6, o7] S o4 v4 A3)
    (t5 t6 : TypeId) (x5 y5 x6 y6 : Operand) (h5 : o5.op = .store t5 x5 y5) (h6 : o6.op = .store t6 x6 y6)
    (b5 b6 : Nat) (cs5 cs6 old5 old6 : Array Value) (u5 u6 : TypeId)
    (e5 : A.eval x5 = .pointer (some ⟨b5, 0, none⟩)) (z5 : A.eval y5 = .agg cs5) (hg5 : w.drew.heap[b5]? = some (.cells old5 u5 (0, 0))) (i5 : (P.info? t5).map (·.size) = some cs5.size) (l5 : old5.size = cs5.size) (n5 : cs5.all (·.oneCell') = true) (S5 : S (w.drew.setRow b5 cs5))
    (e6 : A5.eval x6 = .pointer (some ⟨b6, 0, none⟩)) (z6 : A5.eval y6 = .agg cs6) (hg6 : (w.drew.setRow b5 cs5).heap[b6]? = some (.cells old6 u6 (0, 0))) (i6 : (P.info? t6).map (·.size) = some cs6.size) (l6 : old6.size = cs6.size) (n6 : cs6.all (·.oneCell') = true) (S6 : S ((w.drew.setRow b5 cs5).setRow b6 cs6))
    (hy7 : YieldsIf P #[o0, o1, o2, o3, o4, o5, o6, o7] S o7 v7 A6)
    (h : Q .normal A7 ((w.drew.setRow b5 cs5).setRow b6 cs6)) :
    (Code.region id #[o0, o1, o2, o3, o4, o5, o6, o7] true).wp P Q a w := by
  subst p0 p1 p2 p3 p4 p5 p6 p7
  refine wp_region_noPanic ?_
  refine wp_region_held_drew (S := S) hm hS (fun hH => ?_)
  show wpAnyH P .any #[o0, o1, o2, o3, o4, o5, o6, o7] (NoPanic Q) S 8 #[false, false, false, false, false, false, false, false] a w.drew
  refine wpAnyH_take (i := 0) (oi := o0) rfl hs f0 r0 (fun _ _ _ h => h) hy0 hS ?_
  refine wpAnyH_take (i := 1) (oi := o1) rfl hs f1 r1 (fun _ _ _ h => h) hy1 hS ?_
  refine wpAnyH_take (i := 2) (oi := o2) rfl hs f2 r2 (fun _ _ _ h => h) hy2 hS ?_
  refine wpAnyH_take (i := 3) (oi := o3) rfl hs f3 r3 (fun _ _ _ h => h) hy3 hS ?_
  refine wpAnyH_take (i := 4) (oi := o4) rfl hs f4 r4 (fun _ _ _ h => h) hy4 hS ?_
  refine wpAnyH_ready (rs := [5]) r5 (by simp) (AllReadyH.cons (o := o5) rfl (fun K hK => ?_) AllReadyH.nil)
  have w5 : ∀ y, Region.wanted o5 y = true := fun y => by unfold Region.wanted; rw [g5]
  rw [if_pos (w5 _)]
  refine wp_store_row t5 x5 y5 h5 b5 cs5 e5 z5 u5 old5 hg5 i5 l5 n5 ?_
  refine hK.out _ _ S5 (fun _ => ?_)
  refine wpAnyH_ready (rs := [6]) r6 (by simp) (AllReadyH.cons (o := o6) rfl (fun K hK => ?_) AllReadyH.nil)
  have w6 : ∀ y, Region.wanted o6 y = true := fun y => by unfold Region.wanted; rw [g6]
  rw [if_pos (w6 _)]
  refine wp_store_row t6 x6 y6 h6 b6 cs6 e6 z6 u6 old6 hg6 i6 l6 n6 ?_
  refine hK.out _ _ S6 (fun _ => ?_)
  refine wpAnyH_take (i := 7) (oi := o7) rfl hs f7 r7 (fun _ _ _ h => h) hy7 S6 ?_
  exact ⟨r8, NoPanic.normal h⟩
end
end Go.Proofs.YtbljofojeagdkaaDoor
