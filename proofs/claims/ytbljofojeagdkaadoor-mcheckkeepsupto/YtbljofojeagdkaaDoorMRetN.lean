/-
  A return of two rows and a value, out of reads and calls: reads may come up behind stores. One law a shape, for all orders.
-/
import Derived.Test.YtbljofojeagdkaaDoorMDInc
import Derived.Deep.RegionHeld3
namespace Go.Proofs.YtbljofojeagdkaaDoor
open Go Go.RowKit Go.BigFrame
set_option linter.unusedVariables false
set_option linter.unusedSimpArgs false
section
variable {P : Program} {Q : Exit → Act → World → Prop}
theorem wp_r5 {id : Nat} {o0 o1 o2 o3 o4 : Oper} {a : Act} {w : World} (b5 b6 : Nat) (hm : P.follows .mixedOrders = true) (hs : Region.noSelect #[o0, o1, o2, o3, o4] = true)
    (f0 : Region.free .any #[o0, o1, o2, o3, o4] #[false, false, false, false, false] 0 = true) (r0 : (Region.ready .any #[o0, o1, o2, o3, o4] #[false, false, false, false, false]).contains 0 = true)
    (f1 : Region.free .any #[o0, o1, o2, o3, o4] #[true, false, false, false, false] 1 = true) (r1 : (Region.ready .any #[o0, o1, o2, o3, o4] #[true, false, false, false, false]).contains 1 = true)
    (r2 : Region.ready .any #[o0, o1, o2, o3, o4] #[true, true, false, false, false] = [2])
    (r3 : Region.ready .any #[o0, o1, o2, o3, o4] #[true, true, true, false, false] = [3])
    (f4 : Region.free .any #[o0, o1, o2, o3, o4] #[true, true, true, true, false] 4 = true) (r4 : (Region.ready .any #[o0, o1, o2, o3, o4] #[true, true, true, true, false]).contains 4 = true)
    (rr : Region.ready .any #[o0, o1, o2, o3, o4] #[true, true, true, true, true] = [])
    (g2 : o2.guard = none) (g3 : o3.guard = none)
    (v0 v1 v4 : Value) (A0 A1 A2 A3 A4 : Act)
    (p0 : a.put o0.dst v0 = A0) (p1 : A0.put o1.dst v1 = A1) (p2 : A1.put o2.dst undef = A2) (p3 : A2.put o3.dst undef = A3) (p4 : A3.put o4.dst v4 = A4) 
    (hy0 : YieldsIf P #[o0, o1, o2, o3, o4] (Kept [b5, b6] w) o0 v0 a)
    (hy1 : YieldsIf P #[o0, o1, o2, o3, o4] (Kept [b5, b6] w) o1 v1 A0)
    (t5 t6 : TypeId) (x5 y5 x6 y6 : Operand) (h5 : o2.op = .store t5 x5 y5) (h6 : o3.op = .store t6 x6 y6) (cs5 cs6 old5 old6 : Array Value) (u5 u6 : TypeId) (hne : b5 ≠ b6)
    (e5 : A1.eval x5 = .pointer (some ⟨b5, 0, none⟩)) (z5 : A1.eval y5 = .agg cs5) (hg5 : w.heap[b5]? = some (.cells old5 u5 (0, 0))) (i5 : (P.info? t5).map (·.size) = some cs5.size) (l5 : old5.size = cs5.size) (n5 : cs5.all (·.oneCell') = true)
    (e6 : A2.eval x6 = .pointer (some ⟨b6, 0, none⟩)) (z6 : A2.eval y6 = .agg cs6) (hg6 : w.heap[b6]? = some (.cells old6 u6 (0, 0))) (i6 : (P.info? t6).map (·.size) = some cs6.size) (l6 : old6.size = cs6.size) (n6 : cs6.all (·.oneCell') = true)
    (hyl : YieldsIf P #[o0, o1, o2, o3, o4] (Kept [b5, b6] w) o4 v4 A3)
    (h : ∀ w1, Kept [] w w1 → Q .normal A4 ((w1.setRow b5 cs5).setRow b6 cs6)) :
    (Code.region id #[o0, o1, o2, o3, o4] true).wp P Q a w := by
  subst p0 p1 p2 p3 p4
  have hS : Kept [b5, b6] w w.drew := (Kept.refl [b5, b6] w).drew
  have k00 : Kept [] w w.drew := (Kept.refl [] w).drew
  refine wp_region_noPanic ?_
  refine wp_region_held_drew (S := Kept [b5, b6] w) hm hS (fun hH => ?_)
  show wpAnyH P .any #[o0, o1, o2, o3, o4] (NoPanic Q) (Kept [b5, b6] w) 5 #[false, false, false, false, false] a w.drew
  refine wpAnyH_take (i := 0) (oi := o0) rfl hs f0 r0 (fun _ _ _ h => h) hy0 hS ?_
  refine wpAnyH_take (i := 1) (oi := o1) rfl hs f1 r1 (fun _ _ _ h => h) hy1 hS ?_
  have hg5' := k00.heap hg5 (by simp)
  have hg6' := (setRow_other w.drew b5 b6 cs5 (fun e => hne e.symm)).trans (k00.heap hg6 (by simp))
  have hS5 : Kept [b5, b6] w (w.drew.setRow b5 cs5) := (k00.mono (by simp)).setRow (Or.inl (by simp)) cs5
  have hS6 : Kept [b5, b6] w ((w.drew.setRow b5 cs5).setRow b6 cs6) := hS5.setRow (Or.inl (by simp)) cs6
  refine wpAnyH_ready (rs := [2]) r2 (by simp) (AllReadyH.cons (o := o2) rfl (fun K hK => ?_) AllReadyH.nil)
  have ws1 : ∀ y, Region.wanted o2 y = true := fun y => by unfold Region.wanted; rw [g2]
  rw [if_pos (ws1 _)]
  refine wp_store_row t5 x5 y5 h5 b5 cs5 e5 z5 u5 old5 hg5' i5 l5 n5 ?_
  refine hK.out _ _ hS5 (fun _ => ?_)
  refine wpAnyH_ready (rs := [3]) r3 (by simp) (AllReadyH.cons (o := o3) rfl (fun K hK => ?_) AllReadyH.nil)
  have ws2 : ∀ y, Region.wanted o3 y = true := fun y => by unfold Region.wanted; rw [g3]
  rw [if_pos (ws2 _)]
  refine wp_store_row t6 x6 y6 h6 b6 cs6 e6 z6 u6 old6 hg6' i6 l6 n6 ?_
  refine hK.out _ _ hS6 (fun _ => ?_)
  refine wpAnyH_take (i := 4) (oi := o4) rfl hs f4 r4 (fun _ _ _ h => h) hyl hS6 ?_
  exact ⟨rr, NoPanic.normal (h w.drew k00)⟩
theorem wp_r8 {id : Nat} {o0 o1 o2 o3 o4 o5 o6 o7 : Oper} {a : Act} {w : World} (b5 b6 : Nat) (hm : P.follows .mixedOrders = true) (hs : Region.noSelect #[o0, o1, o2, o3, o4, o5, o6, o7] = true)
    (f0 : Region.free .any #[o0, o1, o2, o3, o4, o5, o6, o7] #[false, false, false, false, false, false, false, false] 0 = true) (r0 : (Region.ready .any #[o0, o1, o2, o3, o4, o5, o6, o7] #[false, false, false, false, false, false, false, false]).contains 0 = true)
    (f1 : Region.free .any #[o0, o1, o2, o3, o4, o5, o6, o7] #[true, false, false, false, false, false, false, false] 1 = true) (r1 : (Region.ready .any #[o0, o1, o2, o3, o4, o5, o6, o7] #[true, false, false, false, false, false, false, false]).contains 1 = true)
    (f2 : Region.free .any #[o0, o1, o2, o3, o4, o5, o6, o7] #[true, true, false, false, false, false, false, false] 2 = true) (r2 : (Region.ready .any #[o0, o1, o2, o3, o4, o5, o6, o7] #[true, true, false, false, false, false, false, false]).contains 2 = true)
    (f3 : Region.free .any #[o0, o1, o2, o3, o4, o5, o6, o7] #[true, true, true, false, false, false, false, false] 3 = true) (r3 : (Region.ready .any #[o0, o1, o2, o3, o4, o5, o6, o7] #[true, true, true, false, false, false, false, false]).contains 3 = true)
    (f4 : Region.free .any #[o0, o1, o2, o3, o4, o5, o6, o7] #[true, true, true, true, false, false, false, false] 4 = true) (r4 : (Region.ready .any #[o0, o1, o2, o3, o4, o5, o6, o7] #[true, true, true, true, false, false, false, false]).contains 4 = true)
    (r5 : Region.ready .any #[o0, o1, o2, o3, o4, o5, o6, o7] #[true, true, true, true, true, false, false, false] = [5])
    (r6 : Region.ready .any #[o0, o1, o2, o3, o4, o5, o6, o7] #[true, true, true, true, true, true, false, false] = [6])
    (f7 : Region.free .any #[o0, o1, o2, o3, o4, o5, o6, o7] #[true, true, true, true, true, true, true, false] 7 = true) (r7 : (Region.ready .any #[o0, o1, o2, o3, o4, o5, o6, o7] #[true, true, true, true, true, true, true, false]).contains 7 = true)
    (rr : Region.ready .any #[o0, o1, o2, o3, o4, o5, o6, o7] #[true, true, true, true, true, true, true, true] = [])
    (g5 : o5.guard = none) (g6 : o6.guard = none)
    (v0 v1 v2 v3 v4 v7 : Value) (A0 A1 A2 A3 A4 A5 A6 A7 : Act)
    (p0 : a.put o0.dst v0 = A0) (p1 : A0.put o1.dst v1 = A1) (p2 : A1.put o2.dst v2 = A2) (p3 : A2.put o3.dst v3 = A3) (p4 : A3.put o4.dst v4 = A4) (p5 : A4.put o5.dst undef = A5) (p6 : A5.put o6.dst undef = A6) (p7 : A6.put o7.dst v7 = A7) 
    (hy0 : YieldsIf P #[o0, o1, o2, o3, o4, o5, o6, o7] (Kept [b5, b6] w) o0 v0 a)
    (hy1 : YieldsIf P #[o0, o1, o2, o3, o4, o5, o6, o7] (Kept [b5, b6] w) o1 v1 A0)
    (hy2 : YieldsIf P #[o0, o1, o2, o3, o4, o5, o6, o7] (Kept [b5, b6] w) o2 v2 A1)
    (hy3 : YieldsIf P #[o0, o1, o2, o3, o4, o5, o6, o7] (Kept [b5, b6] w) o3 v3 A2)
    (hy4 : YieldsIf P #[o0, o1, o2, o3, o4, o5, o6, o7] (Kept [b5, b6] w) o4 v4 A3)
    (t5 t6 : TypeId) (x5 y5 x6 y6 : Operand) (h5 : o5.op = .store t5 x5 y5) (h6 : o6.op = .store t6 x6 y6) (cs5 cs6 old5 old6 : Array Value) (u5 u6 : TypeId) (hne : b5 ≠ b6)
    (e5 : A4.eval x5 = .pointer (some ⟨b5, 0, none⟩)) (z5 : A4.eval y5 = .agg cs5) (hg5 : w.heap[b5]? = some (.cells old5 u5 (0, 0))) (i5 : (P.info? t5).map (·.size) = some cs5.size) (l5 : old5.size = cs5.size) (n5 : cs5.all (·.oneCell') = true)
    (e6 : A5.eval x6 = .pointer (some ⟨b6, 0, none⟩)) (z6 : A5.eval y6 = .agg cs6) (hg6 : w.heap[b6]? = some (.cells old6 u6 (0, 0))) (i6 : (P.info? t6).map (·.size) = some cs6.size) (l6 : old6.size = cs6.size) (n6 : cs6.all (·.oneCell') = true)
    (hyl : YieldsIf P #[o0, o1, o2, o3, o4, o5, o6, o7] (Kept [b5, b6] w) o7 v7 A6)
    (h : ∀ w1, Kept [] w w1 → Q .normal A7 ((w1.setRow b5 cs5).setRow b6 cs6)) :
    (Code.region id #[o0, o1, o2, o3, o4, o5, o6, o7] true).wp P Q a w := by
  subst p0 p1 p2 p3 p4 p5 p6 p7
  have hS : Kept [b5, b6] w w.drew := (Kept.refl [b5, b6] w).drew
  have k00 : Kept [] w w.drew := (Kept.refl [] w).drew
  refine wp_region_noPanic ?_
  refine wp_region_held_drew (S := Kept [b5, b6] w) hm hS (fun hH => ?_)
  show wpAnyH P .any #[o0, o1, o2, o3, o4, o5, o6, o7] (NoPanic Q) (Kept [b5, b6] w) 8 #[false, false, false, false, false, false, false, false] a w.drew
  refine wpAnyH_take (i := 0) (oi := o0) rfl hs f0 r0 (fun _ _ _ h => h) hy0 hS ?_
  refine wpAnyH_take (i := 1) (oi := o1) rfl hs f1 r1 (fun _ _ _ h => h) hy1 hS ?_
  refine wpAnyH_take (i := 2) (oi := o2) rfl hs f2 r2 (fun _ _ _ h => h) hy2 hS ?_
  refine wpAnyH_take (i := 3) (oi := o3) rfl hs f3 r3 (fun _ _ _ h => h) hy3 hS ?_
  refine wpAnyH_take (i := 4) (oi := o4) rfl hs f4 r4 (fun _ _ _ h => h) hy4 hS ?_
  have hg5' := k00.heap hg5 (by simp)
  have hg6' := (setRow_other w.drew b5 b6 cs5 (fun e => hne e.symm)).trans (k00.heap hg6 (by simp))
  have hS5 : Kept [b5, b6] w (w.drew.setRow b5 cs5) := (k00.mono (by simp)).setRow (Or.inl (by simp)) cs5
  have hS6 : Kept [b5, b6] w ((w.drew.setRow b5 cs5).setRow b6 cs6) := hS5.setRow (Or.inl (by simp)) cs6
  refine wpAnyH_ready (rs := [5]) r5 (by simp) (AllReadyH.cons (o := o5) rfl (fun K hK => ?_) AllReadyH.nil)
  have ws1 : ∀ y, Region.wanted o5 y = true := fun y => by unfold Region.wanted; rw [g5]
  rw [if_pos (ws1 _)]
  refine wp_store_row t5 x5 y5 h5 b5 cs5 e5 z5 u5 old5 hg5' i5 l5 n5 ?_
  refine hK.out _ _ hS5 (fun _ => ?_)
  refine wpAnyH_ready (rs := [6]) r6 (by simp) (AllReadyH.cons (o := o6) rfl (fun K hK => ?_) AllReadyH.nil)
  have ws2 : ∀ y, Region.wanted o6 y = true := fun y => by unfold Region.wanted; rw [g6]
  rw [if_pos (ws2 _)]
  refine wp_store_row t6 x6 y6 h6 b6 cs6 e6 z6 u6 old6 hg6' i6 l6 n6 ?_
  refine hK.out _ _ hS6 (fun _ => ?_)
  refine wpAnyH_take (i := 7) (oi := o7) rfl hs f7 r7 (fun _ _ _ h => h) hyl hS6 ?_
  exact ⟨rr, NoPanic.normal (h w.drew k00)⟩
theorem wp_r9 {id : Nat} {o0 o1 o2 o3 o4 o5 o6 o7 o8 : Oper} {a : Act} {w : World} (b5 b6 : Nat) (hm : P.follows .mixedOrders = true) (hs : Region.noSelect #[o0, o1, o2, o3, o4, o5, o6, o7, o8] = true)
    (f0 : Region.free .any #[o0, o1, o2, o3, o4, o5, o6, o7, o8] #[false, false, false, false, false, false, false, false, false] 0 = true) (r0 : (Region.ready .any #[o0, o1, o2, o3, o4, o5, o6, o7, o8] #[false, false, false, false, false, false, false, false, false]).contains 0 = true)
    (f1 : Region.free .any #[o0, o1, o2, o3, o4, o5, o6, o7, o8] #[true, false, false, false, false, false, false, false, false] 1 = true) (r1 : (Region.ready .any #[o0, o1, o2, o3, o4, o5, o6, o7, o8] #[true, false, false, false, false, false, false, false, false]).contains 1 = true)
    (f2 : Region.free .any #[o0, o1, o2, o3, o4, o5, o6, o7, o8] #[true, true, false, false, false, false, false, false, false] 2 = true) (r2 : (Region.ready .any #[o0, o1, o2, o3, o4, o5, o6, o7, o8] #[true, true, false, false, false, false, false, false, false]).contains 2 = true)
    (f3 : Region.free .any #[o0, o1, o2, o3, o4, o5, o6, o7, o8] #[true, true, true, false, false, false, false, false, false] 3 = true) (r3 : (Region.ready .any #[o0, o1, o2, o3, o4, o5, o6, o7, o8] #[true, true, true, false, false, false, false, false, false]).contains 3 = true)
    (f4 : Region.free .any #[o0, o1, o2, o3, o4, o5, o6, o7, o8] #[true, true, true, true, false, false, false, false, false] 4 = true) (r4 : (Region.ready .any #[o0, o1, o2, o3, o4, o5, o6, o7, o8] #[true, true, true, true, false, false, false, false, false]).contains 4 = true)
    (f5 : Region.free .any #[o0, o1, o2, o3, o4, o5, o6, o7, o8] #[true, true, true, true, true, false, false, false, false] 5 = true) (r5 : (Region.ready .any #[o0, o1, o2, o3, o4, o5, o6, o7, o8] #[true, true, true, true, true, false, false, false, false]).contains 5 = true)
    (r6 : Region.ready .any #[o0, o1, o2, o3, o4, o5, o6, o7, o8] #[true, true, true, true, true, true, false, false, false] = [6])
    (r7 : Region.ready .any #[o0, o1, o2, o3, o4, o5, o6, o7, o8] #[true, true, true, true, true, true, true, false, false] = [7])
    (f8 : Region.free .any #[o0, o1, o2, o3, o4, o5, o6, o7, o8] #[true, true, true, true, true, true, true, true, false] 8 = true) (r8 : (Region.ready .any #[o0, o1, o2, o3, o4, o5, o6, o7, o8] #[true, true, true, true, true, true, true, true, false]).contains 8 = true)
    (rr : Region.ready .any #[o0, o1, o2, o3, o4, o5, o6, o7, o8] #[true, true, true, true, true, true, true, true, true] = [])
    (g6 : o6.guard = none) (g7 : o7.guard = none)
    (v0 v1 v2 v3 v4 v5 v8 : Value) (A0 A1 A2 A3 A4 A5 A6 A7 A8 : Act)
    (p0 : a.put o0.dst v0 = A0) (p1 : A0.put o1.dst v1 = A1) (p2 : A1.put o2.dst v2 = A2) (p3 : A2.put o3.dst v3 = A3) (p4 : A3.put o4.dst v4 = A4) (p5 : A4.put o5.dst v5 = A5) (p6 : A5.put o6.dst undef = A6) (p7 : A6.put o7.dst undef = A7) (p8 : A7.put o8.dst v8 = A8) 
    (hy0 : YieldsIf P #[o0, o1, o2, o3, o4, o5, o6, o7, o8] (Kept [b5, b6] w) o0 v0 a)
    (hy1 : YieldsIf P #[o0, o1, o2, o3, o4, o5, o6, o7, o8] (Kept [b5, b6] w) o1 v1 A0)
    (hy2 : YieldsIf P #[o0, o1, o2, o3, o4, o5, o6, o7, o8] (Kept [b5, b6] w) o2 v2 A1)
    (hy3 : YieldsIf P #[o0, o1, o2, o3, o4, o5, o6, o7, o8] (Kept [b5, b6] w) o3 v3 A2)
    (hy4 : YieldsIf P #[o0, o1, o2, o3, o4, o5, o6, o7, o8] (Kept [b5, b6] w) o4 v4 A3)
    (hy5 : YieldsIf P #[o0, o1, o2, o3, o4, o5, o6, o7, o8] (Kept [b5, b6] w) o5 v5 A4)
    (t5 t6 : TypeId) (x5 y5 x6 y6 : Operand) (h5 : o6.op = .store t5 x5 y5) (h6 : o7.op = .store t6 x6 y6) (cs5 cs6 old5 old6 : Array Value) (u5 u6 : TypeId) (hne : b5 ≠ b6)
    (e5 : A5.eval x5 = .pointer (some ⟨b5, 0, none⟩)) (z5 : A5.eval y5 = .agg cs5) (hg5 : w.heap[b5]? = some (.cells old5 u5 (0, 0))) (i5 : (P.info? t5).map (·.size) = some cs5.size) (l5 : old5.size = cs5.size) (n5 : cs5.all (·.oneCell') = true)
    (e6 : A6.eval x6 = .pointer (some ⟨b6, 0, none⟩)) (z6 : A6.eval y6 = .agg cs6) (hg6 : w.heap[b6]? = some (.cells old6 u6 (0, 0))) (i6 : (P.info? t6).map (·.size) = some cs6.size) (l6 : old6.size = cs6.size) (n6 : cs6.all (·.oneCell') = true)
    (hyl : YieldsIf P #[o0, o1, o2, o3, o4, o5, o6, o7, o8] (Kept [b5, b6] w) o8 v8 A7)
    (h : ∀ w1, Kept [] w w1 → Q .normal A8 ((w1.setRow b5 cs5).setRow b6 cs6)) :
    (Code.region id #[o0, o1, o2, o3, o4, o5, o6, o7, o8] true).wp P Q a w := by
  subst p0 p1 p2 p3 p4 p5 p6 p7 p8
  have hS : Kept [b5, b6] w w.drew := (Kept.refl [b5, b6] w).drew
  have k00 : Kept [] w w.drew := (Kept.refl [] w).drew
  refine wp_region_noPanic ?_
  refine wp_region_held_drew (S := Kept [b5, b6] w) hm hS (fun hH => ?_)
  show wpAnyH P .any #[o0, o1, o2, o3, o4, o5, o6, o7, o8] (NoPanic Q) (Kept [b5, b6] w) 9 #[false, false, false, false, false, false, false, false, false] a w.drew
  refine wpAnyH_take (i := 0) (oi := o0) rfl hs f0 r0 (fun _ _ _ h => h) hy0 hS ?_
  refine wpAnyH_take (i := 1) (oi := o1) rfl hs f1 r1 (fun _ _ _ h => h) hy1 hS ?_
  refine wpAnyH_take (i := 2) (oi := o2) rfl hs f2 r2 (fun _ _ _ h => h) hy2 hS ?_
  refine wpAnyH_take (i := 3) (oi := o3) rfl hs f3 r3 (fun _ _ _ h => h) hy3 hS ?_
  refine wpAnyH_take (i := 4) (oi := o4) rfl hs f4 r4 (fun _ _ _ h => h) hy4 hS ?_
  refine wpAnyH_take (i := 5) (oi := o5) rfl hs f5 r5 (fun _ _ _ h => h) hy5 hS ?_
  have hg5' := k00.heap hg5 (by simp)
  have hg6' := (setRow_other w.drew b5 b6 cs5 (fun e => hne e.symm)).trans (k00.heap hg6 (by simp))
  have hS5 : Kept [b5, b6] w (w.drew.setRow b5 cs5) := (k00.mono (by simp)).setRow (Or.inl (by simp)) cs5
  have hS6 : Kept [b5, b6] w ((w.drew.setRow b5 cs5).setRow b6 cs6) := hS5.setRow (Or.inl (by simp)) cs6
  refine wpAnyH_ready (rs := [6]) r6 (by simp) (AllReadyH.cons (o := o6) rfl (fun K hK => ?_) AllReadyH.nil)
  have ws1 : ∀ y, Region.wanted o6 y = true := fun y => by unfold Region.wanted; rw [g6]
  rw [if_pos (ws1 _)]
  refine wp_store_row t5 x5 y5 h5 b5 cs5 e5 z5 u5 old5 hg5' i5 l5 n5 ?_
  refine hK.out _ _ hS5 (fun _ => ?_)
  refine wpAnyH_ready (rs := [7]) r7 (by simp) (AllReadyH.cons (o := o7) rfl (fun K hK => ?_) AllReadyH.nil)
  have ws2 : ∀ y, Region.wanted o7 y = true := fun y => by unfold Region.wanted; rw [g7]
  rw [if_pos (ws2 _)]
  refine wp_store_row t6 x6 y6 h6 b6 cs6 e6 z6 u6 old6 hg6' i6 l6 n6 ?_
  refine hK.out _ _ hS6 (fun _ => ?_)
  refine wpAnyH_take (i := 8) (oi := o8) rfl hs f8 r8 (fun _ _ _ h => h) hyl hS6 ?_
  exact ⟨rr, NoPanic.normal (h w.drew k00)⟩
theorem wp_r9c {id : Nat} {o0 o1 o2 o3 o4 o5 o6 o7 o8 : Oper} {a : Act} {w : World} (b5 b6 : Nat) (hm : P.follows .mixedOrders = true) (hs : Region.noSelect #[o0, o1, o2, o3, o4, o5, o6, o7, o8] = true)
    (f0 : Region.free .any #[o0, o1, o2, o3, o4, o5, o6, o7, o8] #[false, false, false, false, false, false, false, false, false] 0 = true) (r0 : (Region.ready .any #[o0, o1, o2, o3, o4, o5, o6, o7, o8] #[false, false, false, false, false, false, false, false, false]).contains 0 = true)
    (f1 : Region.free .any #[o0, o1, o2, o3, o4, o5, o6, o7, o8] #[true, false, false, false, false, false, false, false, false] 1 = true) (r1 : (Region.ready .any #[o0, o1, o2, o3, o4, o5, o6, o7, o8] #[true, false, false, false, false, false, false, false, false]).contains 1 = true)
    (f2 : Region.free .any #[o0, o1, o2, o3, o4, o5, o6, o7, o8] #[true, true, false, false, false, false, false, false, false] 2 = true) (r2 : (Region.ready .any #[o0, o1, o2, o3, o4, o5, o6, o7, o8] #[true, true, false, false, false, false, false, false, false]).contains 2 = true)
    (f3 : Region.free .any #[o0, o1, o2, o3, o4, o5, o6, o7, o8] #[true, true, true, false, false, false, false, false, false] 3 = true) (r3 : (Region.ready .any #[o0, o1, o2, o3, o4, o5, o6, o7, o8] #[true, true, true, false, false, false, false, false, false]).contains 3 = true)
    (f5 : Region.free .any #[o0, o1, o2, o3, o4, o5, o6, o7, o8] #[true, true, true, true, false, false, false, false, false] 5 = true) (r5 : (Region.ready .any #[o0, o1, o2, o3, o4, o5, o6, o7, o8] #[true, true, true, true, false, false, false, false, false]).contains 5 = true)
    (r4 : Region.ready .any #[o0, o1, o2, o3, o4, o5, o6, o7, o8] #[true, true, true, true, false, true, false, false, false] = [4])
    (r6 : Region.ready .any #[o0, o1, o2, o3, o4, o5, o6, o7, o8] #[true, true, true, true, true, true, false, false, false] = [6])
    (r7 : Region.ready .any #[o0, o1, o2, o3, o4, o5, o6, o7, o8] #[true, true, true, true, true, true, true, false, false] = [7])
    (f8 : Region.free .any #[o0, o1, o2, o3, o4, o5, o6, o7, o8] #[true, true, true, true, true, true, true, true, false] 8 = true) (r8 : (Region.ready .any #[o0, o1, o2, o3, o4, o5, o6, o7, o8] #[true, true, true, true, true, true, true, true, false]).contains 8 = true)
    (rr : Region.ready .any #[o0, o1, o2, o3, o4, o5, o6, o7, o8] #[true, true, true, true, true, true, true, true, true] = [])
    (g4 : o4.guard = none) (g6 : o6.guard = none) (g7 : o7.guard = none)
    (v0 v1 v2 v3 v5 v4 v8 : Value) (A0 A1 A2 A3 A5 A4 A6 A7 A8 : Act)
    (p0 : a.put o0.dst v0 = A0) (p1 : A0.put o1.dst v1 = A1) (p2 : A1.put o2.dst v2 = A2) (p3 : A2.put o3.dst v3 = A3) (p5 : A3.put o5.dst v5 = A5) (p4 : A5.put o4.dst v4 = A4) (p6 : A4.put o6.dst undef = A6) (p7 : A6.put o7.dst undef = A7) (p8 : A7.put o8.dst v8 = A8) 
    (hy0 : YieldsIf P #[o0, o1, o2, o3, o4, o5, o6, o7, o8] (Kept [b5, b6] w) o0 v0 a)
    (hy1 : YieldsIf P #[o0, o1, o2, o3, o4, o5, o6, o7, o8] (Kept [b5, b6] w) o1 v1 A0)
    (hy2 : YieldsIf P #[o0, o1, o2, o3, o4, o5, o6, o7, o8] (Kept [b5, b6] w) o2 v2 A1)
    (hy3 : YieldsIf P #[o0, o1, o2, o3, o4, o5, o6, o7, o8] (Kept [b5, b6] w) o3 v3 A2)
    (hy5 : YieldsIf P #[o0, o1, o2, o3, o4, o5, o6, o7, o8] (Kept [b5, b6] w) o5 v5 A3)
    (k4 : ∀ w0, Kept [] w w0 → ∀ K : Act → World → Prop, (∀ w1, Kept [] w0 w1 → K (A5.put o4.dst v4) w1) → o4.wp P A5 w0 K (NoPanic Q))
    (t5 t6 : TypeId) (x5 y5 x6 y6 : Operand) (h5 : o6.op = .store t5 x5 y5) (h6 : o7.op = .store t6 x6 y6) (cs5 cs6 old5 old6 : Array Value) (u5 u6 : TypeId) (hne : b5 ≠ b6)
    (e5 : A4.eval x5 = .pointer (some ⟨b5, 0, none⟩)) (z5 : A4.eval y5 = .agg cs5) (hg5 : w.heap[b5]? = some (.cells old5 u5 (0, 0))) (i5 : (P.info? t5).map (·.size) = some cs5.size) (l5 : old5.size = cs5.size) (n5 : cs5.all (·.oneCell') = true)
    (e6 : A6.eval x6 = .pointer (some ⟨b6, 0, none⟩)) (z6 : A6.eval y6 = .agg cs6) (hg6 : w.heap[b6]? = some (.cells old6 u6 (0, 0))) (i6 : (P.info? t6).map (·.size) = some cs6.size) (l6 : old6.size = cs6.size) (n6 : cs6.all (·.oneCell') = true)
    (hyl : YieldsIf P #[o0, o1, o2, o3, o4, o5, o6, o7, o8] (Kept [b5, b6] w) o8 v8 A7)
    (h : ∀ w1, Kept [] w w1 → Q .normal A8 ((w1.setRow b5 cs5).setRow b6 cs6)) :
    (Code.region id #[o0, o1, o2, o3, o4, o5, o6, o7, o8] true).wp P Q a w := by
  subst p0 p1 p2 p3 p5 p4 p6 p7 p8
  have hS : Kept [b5, b6] w w.drew := (Kept.refl [b5, b6] w).drew
  have k00 : Kept [] w w.drew := (Kept.refl [] w).drew
  refine wp_region_noPanic ?_
  refine wp_region_held_drew (S := Kept [b5, b6] w) hm hS (fun hH => ?_)
  show wpAnyH P .any #[o0, o1, o2, o3, o4, o5, o6, o7, o8] (NoPanic Q) (Kept [b5, b6] w) 9 #[false, false, false, false, false, false, false, false, false] a w.drew
  refine wpAnyH_take (i := 0) (oi := o0) rfl hs f0 r0 (fun _ _ _ h => h) hy0 hS ?_
  refine wpAnyH_take (i := 1) (oi := o1) rfl hs f1 r1 (fun _ _ _ h => h) hy1 hS ?_
  refine wpAnyH_take (i := 2) (oi := o2) rfl hs f2 r2 (fun _ _ _ h => h) hy2 hS ?_
  refine wpAnyH_take (i := 3) (oi := o3) rfl hs f3 r3 (fun _ _ _ h => h) hy3 hS ?_
  refine wpAnyH_take (i := 5) (oi := o5) rfl hs f5 r5 (fun _ _ _ h => h) hy5 hS ?_
  refine wpAnyH_ready (rs := [4]) r4 (by simp) (AllReadyH.cons (o := o4) rfl (fun K hK => ?_) AllReadyH.nil)
  have wa4 : ∀ y, Region.wanted o4 y = true := fun y => by unfold Region.wanted; rw [g4]
  rw [if_pos (wa4 _)]
  refine k4 w.drew k00 K (fun w4 q4 => ?_)
  have kk4 := k00.trans q4 (by simp)
  refine hK.out _ _ (kk4.mono (by simp)) (fun _ => ?_)
  have hg5' := kk4.heap hg5 (by simp)
  have hg6' := (setRow_other w4 b5 b6 cs5 (fun e => hne e.symm)).trans (kk4.heap hg6 (by simp))
  have hS5 : Kept [b5, b6] w (w4.setRow b5 cs5) := (kk4.mono (by simp)).setRow (Or.inl (by simp)) cs5
  have hS6 : Kept [b5, b6] w ((w4.setRow b5 cs5).setRow b6 cs6) := hS5.setRow (Or.inl (by simp)) cs6
  refine wpAnyH_ready (rs := [6]) r6 (by simp) (AllReadyH.cons (o := o6) rfl (fun K hK => ?_) AllReadyH.nil)
  have ws1 : ∀ y, Region.wanted o6 y = true := fun y => by unfold Region.wanted; rw [g6]
  rw [if_pos (ws1 _)]
  refine wp_store_row t5 x5 y5 h5 b5 cs5 e5 z5 u5 old5 hg5' i5 l5 n5 ?_
  refine hK.out _ _ hS5 (fun _ => ?_)
  refine wpAnyH_ready (rs := [7]) r7 (by simp) (AllReadyH.cons (o := o7) rfl (fun K hK => ?_) AllReadyH.nil)
  have ws2 : ∀ y, Region.wanted o7 y = true := fun y => by unfold Region.wanted; rw [g7]
  rw [if_pos (ws2 _)]
  refine wp_store_row t6 x6 y6 h6 b6 cs6 e6 z6 u6 old6 hg6' i6 l6 n6 ?_
  refine hK.out _ _ hS6 (fun _ => ?_)
  refine wpAnyH_take (i := 8) (oi := o8) rfl hs f8 r8 (fun _ _ _ h => h) hyl hS6 ?_
  exact ⟨rr, NoPanic.normal (h w4 kk4)⟩
theorem wp_r12c {id : Nat} {o0 o1 o2 o3 o4 o5 o6 o7 o8 o9 o10 o11 : Oper} {a : Act} {w : World} (b5 b6 : Nat) (hm : P.follows .mixedOrders = true) (hs : Region.noSelect #[o0, o1, o2, o3, o4, o5, o6, o7, o8, o9, o10, o11] = true)
    (f0 : Region.free .any #[o0, o1, o2, o3, o4, o5, o6, o7, o8, o9, o10, o11] #[false, false, false, false, false, false, false, false, false, false, false, false] 0 = true) (r0 : (Region.ready .any #[o0, o1, o2, o3, o4, o5, o6, o7, o8, o9, o10, o11] #[false, false, false, false, false, false, false, false, false, false, false, false]).contains 0 = true)
    (f1 : Region.free .any #[o0, o1, o2, o3, o4, o5, o6, o7, o8, o9, o10, o11] #[true, false, false, false, false, false, false, false, false, false, false, false] 1 = true) (r1 : (Region.ready .any #[o0, o1, o2, o3, o4, o5, o6, o7, o8, o9, o10, o11] #[true, false, false, false, false, false, false, false, false, false, false, false]).contains 1 = true)
    (f2 : Region.free .any #[o0, o1, o2, o3, o4, o5, o6, o7, o8, o9, o10, o11] #[true, true, false, false, false, false, false, false, false, false, false, false] 2 = true) (r2 : (Region.ready .any #[o0, o1, o2, o3, o4, o5, o6, o7, o8, o9, o10, o11] #[true, true, false, false, false, false, false, false, false, false, false, false]).contains 2 = true)
    (f4 : Region.free .any #[o0, o1, o2, o3, o4, o5, o6, o7, o8, o9, o10, o11] #[true, true, true, false, false, false, false, false, false, false, false, false] 4 = true) (r4 : (Region.ready .any #[o0, o1, o2, o3, o4, o5, o6, o7, o8, o9, o10, o11] #[true, true, true, false, false, false, false, false, false, false, false, false]).contains 4 = true)
    (f5 : Region.free .any #[o0, o1, o2, o3, o4, o5, o6, o7, o8, o9, o10, o11] #[true, true, true, false, true, false, false, false, false, false, false, false] 5 = true) (r5 : (Region.ready .any #[o0, o1, o2, o3, o4, o5, o6, o7, o8, o9, o10, o11] #[true, true, true, false, true, false, false, false, false, false, false, false]).contains 5 = true)
    (f6 : Region.free .any #[o0, o1, o2, o3, o4, o5, o6, o7, o8, o9, o10, o11] #[true, true, true, false, true, true, false, false, false, false, false, false] 6 = true) (r6 : (Region.ready .any #[o0, o1, o2, o3, o4, o5, o6, o7, o8, o9, o10, o11] #[true, true, true, false, true, true, false, false, false, false, false, false]).contains 6 = true)
    (f8 : Region.free .any #[o0, o1, o2, o3, o4, o5, o6, o7, o8, o9, o10, o11] #[true, true, true, false, true, true, true, false, false, false, false, false] 8 = true) (r8 : (Region.ready .any #[o0, o1, o2, o3, o4, o5, o6, o7, o8, o9, o10, o11] #[true, true, true, false, true, true, true, false, false, false, false, false]).contains 8 = true)
    (r3 : Region.ready .any #[o0, o1, o2, o3, o4, o5, o6, o7, o8, o9, o10, o11] #[true, true, true, false, true, true, true, false, true, false, false, false] = [3])
    (r7 : Region.ready .any #[o0, o1, o2, o3, o4, o5, o6, o7, o8, o9, o10, o11] #[true, true, true, true, true, true, true, false, true, false, false, false] = [7])
    (r9 : Region.ready .any #[o0, o1, o2, o3, o4, o5, o6, o7, o8, o9, o10, o11] #[true, true, true, true, true, true, true, true, true, false, false, false] = [9])
    (r10 : Region.ready .any #[o0, o1, o2, o3, o4, o5, o6, o7, o8, o9, o10, o11] #[true, true, true, true, true, true, true, true, true, true, false, false] = [10])
    (f11 : Region.free .any #[o0, o1, o2, o3, o4, o5, o6, o7, o8, o9, o10, o11] #[true, true, true, true, true, true, true, true, true, true, true, false] 11 = true) (r11 : (Region.ready .any #[o0, o1, o2, o3, o4, o5, o6, o7, o8, o9, o10, o11] #[true, true, true, true, true, true, true, true, true, true, true, false]).contains 11 = true)
    (rr : Region.ready .any #[o0, o1, o2, o3, o4, o5, o6, o7, o8, o9, o10, o11] #[true, true, true, true, true, true, true, true, true, true, true, true] = [])
    (g3 : o3.guard = none) (g7 : o7.guard = none) (g9 : o9.guard = none) (g10 : o10.guard = none)
    (v0 v1 v2 v4 v5 v6 v8 v3 v7 v11 : Value) (A0 A1 A2 A4 A5 A6 A8 A3 A7 A9 A10 A11 : Act)
    (p0 : a.put o0.dst v0 = A0) (p1 : A0.put o1.dst v1 = A1) (p2 : A1.put o2.dst v2 = A2) (p4 : A2.put o4.dst v4 = A4) (p5 : A4.put o5.dst v5 = A5) (p6 : A5.put o6.dst v6 = A6) (p8 : A6.put o8.dst v8 = A8) (p3 : A8.put o3.dst v3 = A3) (p7 : A3.put o7.dst v7 = A7) (p9 : A7.put o9.dst undef = A9) (p10 : A9.put o10.dst undef = A10) (p11 : A10.put o11.dst v11 = A11) 
    (hy0 : YieldsIf P #[o0, o1, o2, o3, o4, o5, o6, o7, o8, o9, o10, o11] (Kept [b5, b6] w) o0 v0 a)
    (hy1 : YieldsIf P #[o0, o1, o2, o3, o4, o5, o6, o7, o8, o9, o10, o11] (Kept [b5, b6] w) o1 v1 A0)
    (hy2 : YieldsIf P #[o0, o1, o2, o3, o4, o5, o6, o7, o8, o9, o10, o11] (Kept [b5, b6] w) o2 v2 A1)
    (hy4 : YieldsIf P #[o0, o1, o2, o3, o4, o5, o6, o7, o8, o9, o10, o11] (Kept [b5, b6] w) o4 v4 A2)
    (hy5 : YieldsIf P #[o0, o1, o2, o3, o4, o5, o6, o7, o8, o9, o10, o11] (Kept [b5, b6] w) o5 v5 A4)
    (hy6 : YieldsIf P #[o0, o1, o2, o3, o4, o5, o6, o7, o8, o9, o10, o11] (Kept [b5, b6] w) o6 v6 A5)
    (hy8 : YieldsIf P #[o0, o1, o2, o3, o4, o5, o6, o7, o8, o9, o10, o11] (Kept [b5, b6] w) o8 v8 A6)
    (k3 : ∀ w0, Kept [] w w0 → ∀ K : Act → World → Prop, (∀ w1, Kept [] w0 w1 → K (A8.put o3.dst v3) w1) → o3.wp P A8 w0 K (NoPanic Q))
    (k7 : ∀ w0, Kept [] w w0 → ∀ K : Act → World → Prop, (∀ w1, Kept [] w0 w1 → K (A3.put o7.dst v7) w1) → o7.wp P A3 w0 K (NoPanic Q))
    (t5 t6 : TypeId) (x5 y5 x6 y6 : Operand) (h5 : o9.op = .store t5 x5 y5) (h6 : o10.op = .store t6 x6 y6) (cs5 cs6 old5 old6 : Array Value) (u5 u6 : TypeId) (hne : b5 ≠ b6)
    (e5 : A7.eval x5 = .pointer (some ⟨b5, 0, none⟩)) (z5 : A7.eval y5 = .agg cs5) (hg5 : w.heap[b5]? = some (.cells old5 u5 (0, 0))) (i5 : (P.info? t5).map (·.size) = some cs5.size) (l5 : old5.size = cs5.size) (n5 : cs5.all (·.oneCell') = true)
    (e6 : A9.eval x6 = .pointer (some ⟨b6, 0, none⟩)) (z6 : A9.eval y6 = .agg cs6) (hg6 : w.heap[b6]? = some (.cells old6 u6 (0, 0))) (i6 : (P.info? t6).map (·.size) = some cs6.size) (l6 : old6.size = cs6.size) (n6 : cs6.all (·.oneCell') = true)
    (hyl : YieldsIf P #[o0, o1, o2, o3, o4, o5, o6, o7, o8, o9, o10, o11] (Kept [b5, b6] w) o11 v11 A10)
    (h : ∀ w1, Kept [] w w1 → Q .normal A11 ((w1.setRow b5 cs5).setRow b6 cs6)) :
    (Code.region id #[o0, o1, o2, o3, o4, o5, o6, o7, o8, o9, o10, o11] true).wp P Q a w := by
  subst p0 p1 p2 p4 p5 p6 p8 p3 p7 p9 p10 p11
  have hS : Kept [b5, b6] w w.drew := (Kept.refl [b5, b6] w).drew
  have k00 : Kept [] w w.drew := (Kept.refl [] w).drew
  refine wp_region_noPanic ?_
  refine wp_region_held_drew (S := Kept [b5, b6] w) hm hS (fun hH => ?_)
  show wpAnyH P .any #[o0, o1, o2, o3, o4, o5, o6, o7, o8, o9, o10, o11] (NoPanic Q) (Kept [b5, b6] w) 12 #[false, false, false, false, false, false, false, false, false, false, false, false] a w.drew
  refine wpAnyH_take (i := 0) (oi := o0) rfl hs f0 r0 (fun _ _ _ h => h) hy0 hS ?_
  refine wpAnyH_take (i := 1) (oi := o1) rfl hs f1 r1 (fun _ _ _ h => h) hy1 hS ?_
  refine wpAnyH_take (i := 2) (oi := o2) rfl hs f2 r2 (fun _ _ _ h => h) hy2 hS ?_
  refine wpAnyH_take (i := 4) (oi := o4) rfl hs f4 r4 (fun _ _ _ h => h) hy4 hS ?_
  refine wpAnyH_take (i := 5) (oi := o5) rfl hs f5 r5 (fun _ _ _ h => h) hy5 hS ?_
  refine wpAnyH_take (i := 6) (oi := o6) rfl hs f6 r6 (fun _ _ _ h => h) hy6 hS ?_
  refine wpAnyH_take (i := 8) (oi := o8) rfl hs f8 r8 (fun _ _ _ h => h) hy8 hS ?_
  refine wpAnyH_ready (rs := [3]) r3 (by simp) (AllReadyH.cons (o := o3) rfl (fun K hK => ?_) AllReadyH.nil)
  have wa3 : ∀ y, Region.wanted o3 y = true := fun y => by unfold Region.wanted; rw [g3]
  rw [if_pos (wa3 _)]
  refine k3 w.drew k00 K (fun w3 q3 => ?_)
  have kk3 := k00.trans q3 (by simp)
  refine hK.out _ _ (kk3.mono (by simp)) (fun _ => ?_)
  refine wpAnyH_ready (rs := [7]) r7 (by simp) (AllReadyH.cons (o := o7) rfl (fun K hK => ?_) AllReadyH.nil)
  have wa7 : ∀ y, Region.wanted o7 y = true := fun y => by unfold Region.wanted; rw [g7]
  rw [if_pos (wa7 _)]
  refine k7 w3 kk3 K (fun w7 q7 => ?_)
  have kk7 := kk3.trans q7 (by simp)
  refine hK.out _ _ (kk7.mono (by simp)) (fun _ => ?_)
  have hg5' := kk7.heap hg5 (by simp)
  have hg6' := (setRow_other w7 b5 b6 cs5 (fun e => hne e.symm)).trans (kk7.heap hg6 (by simp))
  have hS5 : Kept [b5, b6] w (w7.setRow b5 cs5) := (kk7.mono (by simp)).setRow (Or.inl (by simp)) cs5
  have hS6 : Kept [b5, b6] w ((w7.setRow b5 cs5).setRow b6 cs6) := hS5.setRow (Or.inl (by simp)) cs6
  refine wpAnyH_ready (rs := [9]) r9 (by simp) (AllReadyH.cons (o := o9) rfl (fun K hK => ?_) AllReadyH.nil)
  have ws1 : ∀ y, Region.wanted o9 y = true := fun y => by unfold Region.wanted; rw [g9]
  rw [if_pos (ws1 _)]
  refine wp_store_row t5 x5 y5 h5 b5 cs5 e5 z5 u5 old5 hg5' i5 l5 n5 ?_
  refine hK.out _ _ hS5 (fun _ => ?_)
  refine wpAnyH_ready (rs := [10]) r10 (by simp) (AllReadyH.cons (o := o10) rfl (fun K hK => ?_) AllReadyH.nil)
  have ws2 : ∀ y, Region.wanted o10 y = true := fun y => by unfold Region.wanted; rw [g10]
  rw [if_pos (ws2 _)]
  refine wp_store_row t6 x6 y6 h6 b6 cs6 e6 z6 u6 old6 hg6' i6 l6 n6 ?_
  refine hK.out _ _ hS6 (fun _ => ?_)
  refine wpAnyH_take (i := 11) (oi := o11) rfl hs f11 r11 (fun _ _ _ h => h) hyl hS6 ?_
  exact ⟨rr, NoPanic.normal (h w7 kk7)⟩
end

theorem wp_node {o : Oper} {a : Act} {w : World} {K : Act → World → Prop} {Q : Exit → Act → World → Prop} (x0 x1 x2 : Operand) (ts : Array TypeId) (ho : o.op = .call { callee := .value (.func 50), args := #[x0, x1, x2], argTypes := ts }) (k : Nat) (l m : List Nat) (e0 : a.eval x0 = .int .i64 (k : Int)) (e1 : a.eval x1 = .agg (l.map u8).toArray) (e2 : a.eval x2 = .agg (m.map u8).toArray)
    (hk : 1 ≤ k ∧ k ≤ 32) (hl : Dg l) (hm : Dg m) (h : ∀ w1, Kept [] w w1 → K (a.put o.dst (.agg (brow (nodS k l m)))) w1) : o.wp Tryd.prog a w K Q := by
  unfold Oper.wp execOp
  simp only [ho]
  have hf : a.eval (.func 50) = .func (.func 50) #[] #[] := rfl
  have hcl : ∀ args W, (callFunc 50 args).run Tryd.prog W = .ok (.enter 50 args) W := fun args W => Tryd.call50 args W
  simp only [resolve, invoke, hf, e0, e1, e2, Sem.run_bind, Sem.run_pure, Result.andThen_ok, List.map_toArray, List.map_cons, List.map_nil, hcl]
  simp [Deferred.ofValue, hcl, go_sem]
  refine (refNode_any k l m w hk hl hm).mono ?_
  rintro e w2 ⟨rfl, k2⟩
  exact h w2 k2
end Go.Proofs.YtbljofojeagdkaaDoor
