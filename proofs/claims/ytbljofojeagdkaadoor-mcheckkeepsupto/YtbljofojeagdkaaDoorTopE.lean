import Derived.Test.YtbljofojeagdkaaDoorTopD
import Derived.Deep.RegionHeld3
import Derived.Test.YtbljofojeagdkaaDoorTopC
import Derived.Test.YtbljofojeagdkaaDoorBase
import Derived.Test.YtbljofojeagdkaaDoorCards
import Derived.Test.YtbljofojeagdkaaDoorTie
import Derived.ProofKit
import Derived.OpenShut
import Derived.Deep.Slices
import Derived.SizedLaws
import Derived.Test.YtbljofojeagdkaaDoorRowz
import Derived.Test.YtbljofojeagdkaaDoorTopA
/-
  A return of two rows and a value, out of reads and calls: reads may come up behind stores. One law a shape, for all orders.
-/
namespace Go.Proofs.YtbljofojeagdkaaDoor
open Go Go.RowKit Go.BigFrame
set_option linter.unusedVariables false
set_option linter.unusedSimpArgs false
section
variable {P : Program} {Q : Exit → Act → World → Prop}
theorem wp_r5 {id : Nat} {o0 o1 o2 o3 o4 : Oper} {a : Act} {w : World} (b5 b6 : Nat) (hm : P.follows .mixedOrders = true) (hs : Region.noSelect #[o0, o1, o2, o3, o4] = true)
    (f0 : Region.free .any #[o0, o1, o2, o3, o4] #[false, false, false, false, false] 0 = true) (r0 : (Region.ready .any #[o0, o1, o2, o3, o4] #[false, false, false, false, false]).contains 0 = true)
    (f1 : Region.free .any #[o0, o1, o2, o3, o4] #[true, false, false, false, false] 1 = true) (r1 : (Region.ready .any #[o0, o1, o2, o3, o4] #[true, false, false, false, false]).contains 1 = true)
    (r2 : Region.ready .any #[o0, o1, o2, o3, o4] #[true, true, false, false, false] = [2])
    (r3 : Region.ready .any #[o0, o1, o2, o3, o4] #[true, true, true, false, false] = [3])
    (f4 : Region.free .any #[o0, o1, o2, o3, o4] #[true, true, true, true, false] 4 = true) (r4 : (Region.ready .any #[o0, o1, o2, o3, o4] #[true, true, true, true, false]).contains 4 = true)
    (rr : Region.ready .any #[o0, o1, o2, o3, o4] #[true, true, true, true, true] = [])
    (g2 : o2.guard = none) (g3 : o3.guard = none)
    (v0 v1 v4 : Value) (A0 A1 A2 A3 A4 : Act)
    (p0 : a.put o0.dst v0 = A0) (p1 : A0.put o1.dst v1 = A1) (p2 : A1.put o2.dst undef = A2) (p3 : A2.put o3.dst undef = A3) (p4 : A3.put o4.dst v4 = A4) 
    (hy0 : YieldsIf P #[o0, o1, o2, o3, o4] (Kept [b5, b6] w) o0 v0 a)
    (hy1 : YieldsIf P #[o0, o1, o2, o3, o4] (Kept [b5, b6] w) o1 v1 A0)
    (t5 t6 : TypeId) (x5 y5 x6 y6 : Operand) (h5 : o2.op = .store t5 x5 y5) (h6 : o3.op = .store t6 x6 y6) (cs5 cs6 old5 old6 : Array Value) (u5 u6 : TypeId) (hne : b5 ≠ b6)
    (e5 : A1.eval x5 = .pointer (some ⟨b5, 0, none⟩)) (z5 : A1.eval y5 = .agg cs5) (hg5 : w.heap[b5]? = some (.cells old5 u5 (0, 0))) (i5 : (P.info? t5).map (·.size) = some cs5.size) (l5 : old5.size = cs5.size) (n5 : cs5.all (·.oneCell') = true)
    (e6 : A2.eval x6 = .pointer (some ⟨b6, 0, none⟩)) (z6 : A2.eval y6 = .agg cs6) (hg6 : w.heap[b6]? = some (.cells old6 u6 (0, 0))) (i6 : (P.info? t6).map (·.size) = some cs6.size) (l6 : old6.size = cs6.size) (n6 : cs6.all (·.oneCell') = true)
    (hyl : YieldsIf P #[o0, o1, o2, o3, o4] (Kept [b5, b6] w) o4 v4 A3)
    (h : ∀ w1, Kept [] w w1 → Q .normal A4 ((w1.setRow b5 cs5).setRow b6 cs6)) :
    (Code.region id #[o0, o1, o2, o3, o4] true).wp P Q a w := by
  subst p0 p1 p2 p3 p4
  have hS : Kept [b5, b6] w w.drew := (Kept.refl [b5, b6] w).drew
  have k00 : Kept [] w w.drew := (Kept.refl [] w).drew
  refine wp_region_noPanic ?_
  refine wp_region_held_drew (S := Kept [b5, b6] w) hm hS (fun hH => ?_)
  show wpAnyH P .any #[o0, o1, o2, o3, o4] (NoPanic Q) (Kept [b5, b6] w) 5 #[false, false, false, false, false] a w.drew
  refine wpAnyH_take (i := 0) (oi := o0) rfl hs f0 r0 (fun _ _ _ h => h) hy0 hS ?_
  refine wpAnyH_take (i := 1) (oi := o1) rfl hs f1 r1 (fun _ _ _ h => h) hy1 hS ?_
  have hg5' := k00.heap hg5 (by simp)
  have hg6' := (setRow_other w.drew b5 b6 cs5 (fun e => hne e.symm)).trans (k00.heap hg6 (by simp))
  have hS5 : Kept [b5, b6] w (w.drew.setRow b5 cs5) := (k00.mono (by simp)).setRow (Or.inl (by simp)) cs5
  have hS6 : Kept [b5, b6] w ((w.drew.setRow b5 cs5).setRow b6 cs6) := hS5.setRow (Or.inl (by simp)) cs6
  refine wpAnyH_ready (rs := [2]) r2 (by simp) (AllReadyH.cons (o := o2) rfl (fun K hK => ?_) AllReadyH.nil)
  have ws1 : ∀ y, Region.wanted o2 y = true := fun y => by unfold Region.wanted; rw [g2]
  rw [if_pos (ws1 _)]
  refine wp_store_row t5 x5 y5 h5 b5 cs5 e5 z5 u5 old5 hg5' i5 l5 n5 ?_
  refine hK.out _ _ hS5 (fun _ => ?_)
  refine wpAnyH_ready (rs := [3]) r3 (by simp) (AllReadyH.cons (o := o3) rfl (fun K hK => ?_) AllReadyH.nil)
  have ws2 : ∀ y, Region.wanted o3 y = true := fun y => by unfold Region.wanted; rw [g3]
  rw [if_pos (ws2 _)]
  refine wp_store_row t6 x6 y6 h6 b6 cs6 e6 z6 u6 old6 hg6' i6 l6 n6 ?_
  refine hK.out _ _ hS6 (fun _ => ?_)
  refine wpAnyH_take (i := 4) (oi := o4) rfl hs f4 r4 (fun _ _ _ h => h) hyl hS6 ?_
  exact ⟨rr, NoPanic.normal (h w.drew k00)⟩
theorem wp_r8 {id : Nat} {o0 o1 o2 o3 o4 o5 o6 o7 : Oper} {a : Act} {w : World} (b5 b6 : Nat) (hm : P.follows .mixedOrders = true) (hs : Region.noSelect #[o0, o1, o2, o3, o4, o5, o6, o7] = true)
    (f0 : Region.free .any #[o0, o1, o2, o3, o4, o5, o6, o7] #[false, false, false, false, false, false, false, false] 0 = true) (r0 : (Region.ready .any #[o0, o1, o2, o3, o4, o5, o6, o7] #[false, false, false, false, false, false, false, false]).contains 0 = true)
    (f1 : Region.free .any #[o0, o1, o2, o3, o4, o5, o6, o7] #[true, false, false, false, false, false, false, false] 1 = true) (r1 : (Region.ready .any #[o0, o1, o2, o3, o4, o5, o6, o7] #[true, false, false, false, false, false, false, false]).contains 1 = true)
    (f2 : Region.free .any #[o0, o1, o2, o3, o4, o5, o6, o7] #[true, true, false, false, false, false, false, false] 2 = true) (r2 : (Region.ready .any #[o0, o1, o2, o3, o4, o5, o6, o7] #[true, true, false, false, false, false, false, false]).contains 2 = true)
    (f3 : Region.free .any #[o0, o1, o2, o3, o4, o5, o6, o7] #[true, true, true, false, false, false, false, false] 3 = true) (r3 : (Region.ready .any #[o0, o1, o2, o3, o4, o5, o6, o7] #[true, true, true, false, false, false, false, false]).contains 3 = true)
    (f4 : Region.free .any #[o0, o1, o2, o3, o4, o5, o6, o7] #[true, true, true, true, false, false, false, false] 4 = true) (r4 : (Region.ready .any #[o0, o1, o2, o3, o4, o5, o6, o7] #[true, true, true, true, false, false, false, false]).contains 4 = true)
    (r5 : Region.ready .any #[o0, o1, o2, o3, o4, o5, o6, o7] #[true, true, true, true, true, false, false, false] = [5])
    (r6 : Region.ready .any #[o0, o1, o2, o3, o4, o5, o6, o7] #[true, true, true, true, true, true, false, false] = [6])
    (f7 : Region.free .any #[o0, o1, o2, o3, o4, o5, o6, o7] #[true, true, true, true, true, true, true, false] 7 = true) (r7 : (Region.ready .any #[o0, o1, o2, o3, o4, o5, o6, o7] #[true, true, true, true, true, true, true, false]).contains 7 = true)
    (rr : Region.ready .any #[o0, o1, o2, o3, o4, o5, o6, o7] #[true, true, true, true, true, true, true, true] = [])
    (g5 : o5.guard = none) (g6 : o6.guard = none)
    (v0 v1 v2 v3 v4 v7 : Value) (A0 A1 A2 A3 A4 A5 A6 A7 : Act)
    (p0 : a.put o0.dst v0 = A0) (p1 : A0.put o1.dst v1 = A1) (p2 : A1.put o2.dst v2 = A2) (p3 : A2.put o3.dst v3 = A3) (p4 : A3.put o4.dst v4 = A4) (p5 : A4.put o5.dst undef = A5) (p6 : A5.put o6.dst undef = A6) (p7 : A6.put o7.dst v7 = A7) 
    (hy0 : YieldsIf P #[o0, o1, o2, o3, o4, o5, o6, o7] (Kept [b5, b6] w) o0 v0 a)
    (hy1 : YieldsIf P #[o0, o1, o2, o3, o4, o5, o6, o7] (Kept [b5, b6] w) o1 v1 A0)
    (hy2 : YieldsIf P #[o0, o1, o2, o3, o4, o5, o6, o7] (Kept [b5, b6] w) o2 v2 A1)
    (hy3 : YieldsIf P #[o0, o1, o2, o3, o4, o5, o6, o7] (Kept [b5, b6] w) o3 v3 A2)
    (hy4 : YieldsIf P #[o0, o1, o2, o3, o4, o5, o6, o7] (Kept [b5, b6] w) o4 v4 A3)
    (t5 t6 : TypeId) (x5 y5 x6 y6 : Operand) (h5 : o5.op = .store t5 x5 y5) (h6 : o6.op = .store t6 x6 y6) (cs5 cs6 old5 old6 : Array Value) (u5 u6 : TypeId) (hne : b5 ≠ b6)
    (e5 : A4.eval x5 = .pointer (some ⟨b5, 0, none⟩)) (z5 : A4.eval y5 = .agg cs5) (hg5 : w.heap[b5]? = some (.cells old5 u5 (0, 0))) (i5 : (P.info? t5).map (·.size) = some cs5.size) (l5 : old5.size = cs5.size) (n5 : cs5.all (·.oneCell') = true)
    (e6 : A5.eval x6 = .pointer (some ⟨b6, 0, none⟩)) (z6 : A5.eval y6 = .agg cs6) (hg6 : w.heap[b6]? = some (.cells old6 u6 (0, 0))) (i6 : (P.info? t6).map (·.size) = some cs6.size) (l6 : old6.size = cs6.size) (n6 : cs6.all (·.oneCell') = true)
    (hyl : YieldsIf P #[o0, o1, o2, o3, o4, o5, o6, o7] (Kept [b5, b6] w) o7 v7 A6)
    (h : ∀ w1, Kept [] w w1 → Q .normal A7 ((w1.setRow b5 cs5).setRow b6 cs6)) :
    (Code.region id #[o0, o1, o2, o3, o4, o5, o6, o7] true).wp P Q a w := by
  subst p0 p1 p2 p3 p4 p5 p6 p7
  have hS : Kept [b5, b6] w w.drew := (Kept.refl [b5, b6] w).drew
  have k00 : Kept [] w w.drew := (Kept.refl [] w).drew
  refine wp_region_noPanic ?_
  refine wp_region_held_drew (S := Kept [b5, b6] w) hm hS (fun hH => ?_)
  show wpAnyH P .any #[o0, o1, o2, o3, o4, o5, o6, o7] (NoPanic Q) (Kept [b5, b6] w) 8 #[false, false, false, false, false, false, false, false] a w.drew
  refine wpAnyH_take (i := 0) (oi := o0) rfl hs f0 r0 (fun _ _ _ h => h) hy0 hS ?_
  refine wpAnyH_take (i := 1) (oi := o1) rfl hs f1 r1 (fun _ _ _ h => h) hy1 hS ?_
  refine wpAnyH_take (i := 2) (oi := o2) rfl hs f2 r2 (fun _ _ _ h => h) hy2 hS ?_
  refine wpAnyH_take (i := 3) (oi := o3) rfl hs f3 r3 (fun _ _ _ h => h) hy3 hS ?_
  refine wpAnyH_take (i := 4) (oi := o4) rfl hs f4 r4 (fun _ _ _ h => h) hy4 hS ?_
  have hg5' := k00.heap hg5 (by simp)
  have hg6' := (setRow_other w.drew b5 b6 cs5 (fun e => hne e.symm)).trans (k00.heap hg6 (by simp))
  have hS5 : Kept [b5, b6] w (w.drew.setRow b5 cs5) := (k00.mono (by simp)).setRow (Or.inl (by simp)) cs5
  have hS6 : Kept [b5, b6] w ((w.drew.setRow b5 cs5).setRow b6 cs6) := hS5.setRow (Or.inl (by simp)) cs6
  refine wpAnyH_ready (rs := [5]) r5 (by simp) (AllReadyH.cons (o := o5) rfl (fun K hK => ?_) AllReadyH.nil)
  have ws1 : ∀ y, Region.wanted o5 y = true := fun y => by unfold Region.wanted; rw [g5]
  rw [if_pos (ws1 _)]
  refine wp_store_row t5 x5 y5 h5 b5 cs5 e5 z5 u5 old5 hg5' i5 l5 n5 ?_
  refine hK.out _ _ hS5 (fun _ => ?_)
  refine wpAnyH_ready (rs := [6]) r6 (by simp) (AllReadyH.cons (o := o6) rfl (fun K hK => ?_) AllReadyH.nil)
  have ws2 : ∀ y, Region.wanted o6 y = true := fun y => by unfold Region.wanted; rw [g6]
  rw [if_pos (ws2 _)]
  refine wp_store_row t6 x6 y6 h6 b6 cs6 e6 z6 u6 old6 hg6' i6 l6 n6 ?_
  refine hK.out _ _ hS6 (fun _ => ?_)
  refine wpAnyH_take (i := 7) (oi := o7) rfl hs f7 r7 (fun _ _ _ h => h) hyl hS6 ?_
  exact ⟨rr, NoPanic.normal (h w.drew k00)⟩
theorem wp_r9 {id : Nat} {o0 o1 o2 o3 o4 o5 o6 o7 o8 : Oper} {a : Act} {w : World} (b5 b6 : Nat) (hm : P.follows .mixedOrders = true) (hs : Region.noSelect #[o0, o1, o2, o3, o4, o5, o6, o7, o8] = true)
    (f0 : Region.free .any #[o0, o1, o2, o3, o4, o5, o6, o7, o8] #[false, false, false, false, false, false, false, false, false] 0 = true) (r0 : (Region.ready .any #[o0, o1, o2, o3, o4, o5, o6, o7, o8] #[false, false, false, false, false, false, false, false, false]).contains 0 = true)
    (f1 : Region.free .any #[o0, o1, o2, o3, o4, o5, o6, o7, o8] #[true, false, false, false, false, false, false, false, false] 1 = true) (r1 : (Region.ready .any #[o0, o1, o2, o3, o4, o5, o6, o7, o8] #[true, false, false, false, false, false, false, false, false]).contains 1 = true)
    (f2 : Region.free .any #[o0, o1, o2, o3, o4, o5, o6, o7, o8] #[true, true, false, false, false, false, false, false, false] 2 = true) (r2 : (Region.ready .any #[o0, o1, o2, o3, o4, o5, o6, o7, o8] #[true, true, false, false, false, false, false, false, false]).contains 2 = true)
    (f3 : Region.free .any #[o0, o1, o2, o3, o4, o5, o6, o7, o8] #[true, true, true, false, false, false, false, false, false] 3 = true) (r3 : (Region.ready .any #[o0, o1, o2, o3, o4, o5, o6, o7, o8] #[true, true, true, false, false, false, false, false, false]).contains 3 = true)
    (f4 : Region.free .any #[o0, o1, o2, o3, o4, o5, o6, o7, o8] #[true, true, true, true, false, false, false, false, false] 4 = true) (r4 : (Region.ready .any #[o0, o1, o2, o3, o4, o5, o6, o7, o8] #[true, true, true, true, false, false, false, false, false]).contains 4 = true)
    (f5 : Region.free .any #[o0, o1, o2, o3, o4, o5, o6, o7, o8] #[true, true, true, true, true, false, false, false, false] 5 = true) (r5 : (Region.ready .any #[o0, o1, o2, o3, o4, o5, o6, o7, o8] #[true, true, true, true, true, false, false, false, false]).contains 5 = true)
    (r6 : Region.ready .any #[o0, o1, o2, o3, o4, o5, o6, o7, o8] #[true, true, true, true, true, true, false, false, false] = [6])
    (r7 : Region.ready .any #[o0, o1, o2, o3, o4, o5, o6, o7, o8] #[true, true, true, true, true, true, true, false, false] = [7])
    (f8 : Region.free .any #[o0, o1, o2, o3, o4, o5, o6, o7, o8] #[true, true, true, true, true, true, true, true, false] 8 = true) (r8 : (Region.ready .any #[o0, o1, o2, o3, o4, o5, o6, o7, o8] #[true, true, true, true, true, true, true, true, false]).contains 8 = true)
    (rr : Region.ready .any #[o0, o1, o2, o3, o4, o5, o6, o7, o8] #[true, true, true, true, true, true, true, true, true] = [])
    (g6 : o6.guard = none) (g7 : o7.guard = none)
    (v0 v1 v2 v3 v4 v5 v8 : Value) (A0 A1 A2 A3 A4 A5 A6 A7 A8 : Act)
    (p0 : a.put o0.dst v0 = A0) (p1 : A0.put o1.dst v1 = A1) (p2 : A1.put o2.dst v2 = A2) (p3 : A2.put o3.dst v3 = A3) (p4 : A3.put o4.dst v4 = A4) (p5 : A4.put o5.dst v5 = A5) (p6 : A5.put o6.dst undef = A6) (p7 : A6.put o7.dst undef = A7) (p8 : A7.put o8.dst v8 = A8) 
    (hy0 : YieldsIf P #[o0, o1, o2, o3, o4, o5, o6, o7, o8] (Kept [b5, b6] w) o0 v0 a)
    (hy1 : YieldsIf P #[o0, o1, o2, o3, o4, o5, o6, o7, o8] (Kept [b5, b6] w) o1 v1 A0)
    (hy2 : YieldsIf P #[o0, o1, o2, o3, o4, o5, o6, o7, o8] (Kept [b5, b6] w) o2 v2 A1)
    (hy3 : YieldsIf P #[o0, o1, o2, o3, o4, o5, o6, o7, o8] (Kept [b5, b6] w) o3 v3 A2)
    (hy4 : YieldsIf P #[o0, o1, o2, o3, o4, o5, o6, o7, o8] (Kept [b5, b6] w) o4 v4 A3)
    (hy5 : YieldsIf P #[o0, o1, o2, o3, o4, o5, o6, o7, o8] (Kept [b5, b6] w) o5 v5 A4)
    (t5 t6 : TypeId) (x5 y5 x6 y6 : Operand) (h5 : o6.op = .store t5 x5 y5) (h6 : o7.op = .store t6 x6 y6) (cs5 cs6 old5 old6 : Array Value) (u5 u6 : TypeId) (hne : b5 ≠ b6)
    (e5 : A5.eval x5 = .pointer (some ⟨b5, 0, none⟩)) (z5 : A5.eval y5 = .agg cs5) (hg5 : w.heap[b5]? = some (.cells old5 u5 (0, 0))) (i5 : (P.info? t5).map (·.size) = some cs5.size) (l5 : old5.size = cs5.size) (n5 : cs5.all (·.oneCell') = true)
    (e6 : A6.eval x6 = .pointer (some ⟨b6, 0, none⟩)) (z6 : A6.eval y6 = .agg cs6) (hg6 : w.heap[b6]? = some (.cells old6 u6 (0, 0))) (i6 : (P.info? t6).map (·.size) = some cs6.size) (l6 : old6.size = cs6.size) (n6 : cs6.all (·.oneCell') = true)
    (hyl : YieldsIf P #[o0, o1, o2, o3, o4, o5, o6, o7, o8] (Kept [b5, b6] w) o8 v8 A7)
    (h : ∀ w1, Kept [] w w1 → Q .normal A8 ((w1.setRow b5 cs5).setRow b6 cs6)) :
    (Code.region id #[o0, o1, o2, o3, o4, o5, o6, o7, o8] true).wp P Q a w := by
  subst p0 p1 p2 p3 p4 p5 p6 p7 p8
  have hS : Kept [b5, b6] w w.drew := (Kept.refl [b5, b6] w).drew
  have k00 : Kept [] w w.drew := (Kept.refl [] w).drew
  refine wp_region_noPanic ?_
  refine wp_region_held_drew (S := Kept [b5, b6] w) hm hS (fun hH => ?_)
  show wpAnyH P .any #[o0, o1, o2, o3, o4, o5, o6, o7, o8] (NoPanic Q) (Kept [b5, b6] w) 9 #[false, false, false, false, false, false, false, false, false] a w.drew
  refine wpAnyH_take (i := 0) (oi := o0) rfl hs f0 r0 (fun _ _ _ h => h) hy0 hS ?_
  refine wpAnyH_take (i := 1) (oi := o1) rfl hs f1 r1 (fun _ _ _ h => h) hy1 hS ?_
  refine wpAnyH_take (i := 2) (oi := o2) rfl hs f2 r2 (fun _ _ _ h => h) hy2 hS ?_
  refine wpAnyH_take (i := 3) (oi := o3) rfl hs f3 r3 (fun _ _ _ h => h) hy3 hS ?_
  refine wpAnyH_take (i := 4) (oi := o4) rfl hs f4 r4 (fun _ _ _ h => h) hy4 hS ?_
  refine wpAnyH_take (i := 5) (oi := o5) rfl hs f5 r5 (fun _ _ _ h => h) hy5 hS ?_
  have hg5' := k00.heap hg5 (by simp)
  have hg6' := (setRow_other w.drew b5 b6 cs5 (fun e => hne e.symm)).trans (k00.heap hg6 (by simp))
  have hS5 : Kept [b5, b6] w (w.drew.setRow b5 cs5) := (k00.mono (by simp)).setRow (Or.inl (by simp)) cs5
  have hS6 : Kept [b5, b6] w ((w.drew.setRow b5 cs5).setRow b6 cs6) := hS5.setRow (Or.inl (by simp)) cs6
  refine wpAnyH_ready (rs := [6]) r6 (by simp) (AllReadyH.cons (o := o6) rfl (fun K hK => ?_) AllReadyH.nil)
  have ws1 : ∀ y, Region.wanted o6 y = true := fun y => by unfold Region.wanted; rw [g6]
  rw [if_pos (ws1 _)]
  refine wp_store_row t5 x5 y5 h5 b5 cs5 e5 z5 u5 old5 hg5' i5 l5 n5 ?_
  refine hK.out _ _ hS5 (fun _ => ?_)
  refine wpAnyH_ready (rs := [7]) r7 (by simp) (AllReadyH.cons (o := o7) rfl (fun K hK => ?_) AllReadyH.nil)
  have ws2 : ∀ y, Region.wanted o7 y = true := fun y => by unfold Region.wanted; rw [g7]
  rw [if_pos (ws2 _)]
  refine wp_store_row t6 x6 y6 h6 b6 cs6 e6 z6 u6 old6 hg6' i6 l6 n6 ?_
  refine hK.out _ _ hS6 (fun _ => ?_)
  refine wpAnyH_take (i := 8) (oi := o8) rfl hs f8 r8 (fun _ _ _ h => h) hyl hS6 ?_
  exact ⟨rr, NoPanic.normal (h w.drew k00)⟩
theorem wp_r9c {id : Nat} {o0 o1 o2 o3 o4 o5 o6 o7 o8 : Oper} {a : Act} {w : World} (b5 b6 : Nat) (hm : P.follows .mixedOrders = true) (hs : Region.noSelect #[o0, o1, o2, o3, o4, o5, o6, o7, o8] = true)
    (f0 : Region.free .any #[o0, o1, o2, o3, o4, o5, o6, o7, o8] #[false, false, false, false, false, false, false, false, false] 0 = true) (r0 : (Region.ready .any #[o0, o1, o2, o3, o4, o5, o6, o7, o8] #[false, false, false, false, false, false, false, false, false]).contains 0 = true)
    (f1 : Region.free .any #[o0, o1, o2, o3, o4, o5, o6, o7, o8] #[true, false, false, false, false, false, false, false, false] 1 = true) (r1 : (Region.ready .any #[o0, o1, o2, o3, o4, o5, o6, o7, o8] #[true, false, false, false, false, false, false, false, false]).contains 1 = true)
    (f2 : Region.free .any #[o0, o1, o2, o3, o4, o5, o6, o7, o8] #[true, true, false, false, false, false, false, false, false] 2 = true) (r2 : (Region.ready .any #[o0, o1, o2, o3, o4, o5, o6, o7, o8] #[true, true, false, false, false, false, false, false, false]).contains 2 = true)
    (f3 : Region.free .any #[o0, o1, o2, o3, o4, o5, o6, o7, o8] #[true, true, true, false, false, false, false, false, false] 3 = true) (r3 : (Region.ready .any #[o0, o1, o2, o3, o4, o5, o6, o7, o8] #[true, true, true, false, false, false, false, false, false]).contains 3 = true)
    (f5 : Region.free .any #[o0, o1, o2, o3, o4, o5, o6, o7, o8] #[true, true, true, true, false, false, false, false, false] 5 = true) (r5 : (Region.ready .any #[o0, o1, o2, o3, o4, o5, o6, o7, o8] #[true, true, true, true, false, false, false, false, false]).contains 5 = true)
    (r4 : Region.ready .any #[o0, o1, o2, o3, o4, o5, o6, o7, o8] #[true, true, true, true, false, true, false, false, false] = [4])
    (r6 : Region.ready .any #[o0, o1, o2, o3, o4, o5, o6, o7, o8] #[true, true, true, true, true, true, false, false, false] = [6])
    (r7 : Region.ready .any #[o0, o1, o2, o3, o4, o5, o6, o7, o8] #[true, true, true, true, true, true, true, false, false] = [7])
    (f8 : Region.free .any #[o0, o1, o2, o3, o4, o5, o6, o7, o8] #[true, true, true, true, true, true, true, true, false] 8 = true) (r8 : (Region.ready .any #[o0, o1, o2, o3, o4, o5, o6, o7, o8] #[true, true, true, true, true, true, true, true, false]).contains 8 = true)
    (rr : Region.ready .any #[o0, o1, o2, o3, o4, o5, o6, o7, o8] #[true, true, true, true, true, true, true, true, true] = [])
    (g4 : o4.guard = none) (g6 : o6.guard = none) (g7 : o7.guard = none)
    (v0 v1 v2 v3 v5 v4 v8 : Value) (A0 A1 A2 A3 A5 A4 A6 A7 A8 : Act)
    (p0 : a.put o0.dst v0 = A0) (p1 : A0.put o1.dst v1 = A1) (p2 : A1.put o2.dst v2 = A2) (p3 : A2.put o3.dst v3 = A3) (p5 : A3.put o5.dst v5 = A5) (p4 : A5.put o4.dst v4 = A4) (p6 : A4.put o6.dst undef = A6) (p7 : A6.put o7.dst undef = A7) (p8 : A7.put o8.dst v8 = A8) 
    (hy0 : YieldsIf P #[o0, o1, o2, o3, o4, o5, o6, o7, o8] (Kept [b5, b6] w) o0 v0 a)
    (hy1 : YieldsIf P #[o0, o1, o2, o3, o4, o5, o6, o7, o8] (Kept [b5, b6] w) o1 v1 A0)
    (hy2 : YieldsIf P #[o0, o1, o2, o3, o4, o5, o6, o7, o8] (Kept [b5, b6] w) o2 v2 A1)
    (hy3 : YieldsIf P #[o0, o1, o2, o3, o4, o5, o6, o7, o8] (Kept [b5, b6] w) o3 v3 A2)
    (hy5 : YieldsIf P #[o0, o1, o2, o3, o4, o5, o6, o7, o8] (Kept [b5, b6] w) o5 v5 A3)
    (k4 : ∀ w0, Kept [] w w0 → ∀ K : Act → World → Prop, (∀ w1, Kept [] w0 w1 → K (A5.put o4.dst v4) w1) → o4.wp P A5 w0 K (NoPanic Q))
    (t5 t6 : TypeId) (x5 y5 x6 y6 : Operand) (h5 : o6.op = .store t5 x5 y5) (h6 : o7.op = .store t6 x6 y6) (cs5 cs6 old5 old6 : Array Value) (u5 u6 : TypeId) (hne : b5 ≠ b6)
    (e5 : A4.eval x5 = .pointer (some ⟨b5, 0, none⟩)) (z5 : A4.eval y5 = .agg cs5) (hg5 : w.heap[b5]? = some (.cells old5 u5 (0, 0))) (i5 : (P.info? t5).map (·.size) = some cs5.size) (l5 : old5.size = cs5.size) (n5 : cs5.all (·.oneCell') = true)
    (e6 : A6.eval x6 = .pointer (some ⟨b6, 0, none⟩)) (z6 : A6.eval y6 = .agg cs6) (hg6 : w.heap[b6]? = some (.cells old6 u6 (0, 0))) (i6 : (P.info? t6).map (·.size) = some cs6.size) (l6 : old6.size = cs6.size) (n6 : cs6.all (·.oneCell') = true)
    (hyl : YieldsIf P #[o0, o1, o2, o3, o4, o5, o6, o7, o8] (Kept [b5, b6] w) o8 v8 A7)
    (h : ∀ w1, Kept [] w w1 → Q .normal A8 ((w1.setRow b5 cs5).setRow b6 cs6)) :
    (Code.region id #[o0, o1, o2, o3, o4, o5, o6, o7, o8] true).wp P Q a w := by
  subst p0 p1 p2 p3 p5 p4 p6 p7 p8
  have hS : Kept [b5, b6] w w.drew := (Kept.refl [b5, b6] w).drew
  have k00 : Kept [] w w.drew := (Kept.refl [] w).drew
  refine wp_region_noPanic ?_
  refine wp_region_held_drew (S := Kept [b5, b6] w) hm hS (fun hH => ?_)
  show wpAnyH P .any #[o0, o1, o2, o3, o4, o5, o6, o7, o8] (NoPanic Q) (Kept [b5, b6] w) 9 #[false, false, false, false, false, false, false, false, false] a w.drew
  refine wpAnyH_take (i := 0) (oi := o0) rfl hs f0 r0 (fun _ _ _ h => h) hy0 hS ?_
  refine wpAnyH_take (i := 1) (oi := o1) rfl hs f1 r1 (fun _ _ _ h => h) hy1 hS ?_
  refine wpAnyH_take (i := 2) (oi := o2) rfl hs f2 r2 (fun _ _ _ h => h) hy2 hS ?_
  refine wpAnyH_take (i := 3) (oi := o3) rfl hs f3 r3 (fun _ _ _ h => h) hy3 hS ?_
  refine wpAnyH_take (i := 5) (oi := o5) rfl hs f5 r5 (fun _ _ _ h => h) hy5 hS ?_
  refine wpAnyH_ready (rs := [4]) r4 (by simp) (AllReadyH.cons (o := o4) rfl (fun K hK => ?_) AllReadyH.nil)
  have wa4 : ∀ y, Region.wanted o4 y = true := fun y => by unfold Region.wanted; rw [g4]
  rw [if_pos (wa4 _)]
  refine k4 w.drew k00 K (fun w4 q4 => ?_)
  have kk4 := k00.trans q4 (by simp)
  refine hK.out _ _ (kk4.mono (by simp)) (fun _ => ?_)
  have hg5' := kk4.heap hg5 (by simp)
  have hg6' := (setRow_other w4 b5 b6 cs5 (fun e => hne e.symm)).trans (kk4.heap hg6 (by simp))
  have hS5 : Kept [b5, b6] w (w4.setRow b5 cs5) := (kk4.mono (by simp)).setRow (Or.inl (by simp)) cs5
  have hS6 : Kept [b5, b6] w ((w4.setRow b5 cs5).setRow b6 cs6) := hS5.setRow (Or.inl (by simp)) cs6
  refine wpAnyH_ready (rs := [6]) r6 (by simp) (AllReadyH.cons (o := o6) rfl (fun K hK => ?_) AllReadyH.nil)
  have ws1 : ∀ y, Region.wanted o6 y = true := fun y => by unfold Region.wanted; rw [g6]
  rw [if_pos (ws1 _)]
  refine wp_store_row t5 x5 y5 h5 b5 cs5 e5 z5 u5 old5 hg5' i5 l5 n5 ?_
  refine hK.out _ _ hS5 (fun _ => ?_)
  refine wpAnyH_ready (rs := [7]) r7 (by simp) (AllReadyH.cons (o := o7) rfl (fun K hK => ?_) AllReadyH.nil)
  have ws2 : ∀ y, Region.wanted o7 y = true := fun y => by unfold Region.wanted; rw [g7]
  rw [if_pos (ws2 _)]
  refine wp_store_row t6 x6 y6 h6 b6 cs6 e6 z6 u6 old6 hg6' i6 l6 n6 ?_
  refine hK.out _ _ hS6 (fun _ => ?_)
  refine wpAnyH_take (i := 8) (oi := o8) rfl hs f8 r8 (fun _ _ _ h => h) hyl hS6 ?_
  exact ⟨rr, NoPanic.normal (h w4 kk4)⟩
theorem wp_r12c {id : Nat} {o0 o1 o2 o3 o4 o5 o6 o7 o8 o9 o10 o11 : Oper} {a : Act} {w : World} (b5 b6 : Nat) (hm : P.follows .mixedOrders = true) (hs : Region.noSelect #[o0, o1, o2, o3, o4, o5, o6, o7, o8, o9, o10, o11] = true)
    (f0 : Region.free .any #[o0, o1, o2, o3, o4, o5, o6, o7, o8, o9, o10, o11] #[false, false, false, false, false, false, false, false, false, false, false, false] 0 = true) (r0 : (Region.ready .any #[o0, o1, o2, o3, o4, o5, o6, o7, o8, o9, o10, o11] #[false, false, false, false, false, false, false, false, false, false, false, false]).contains 0 = true)
    (f1 : Region.free .any #[o0, o1, o2, o3, o4, o5, o6, o7, o8, o9, o10, o11] #[true, false, false, false, false, false, false, false, false, false, false, false] 1 = true) (r1 : (Region.ready .any #[o0, o1, o2, o3, o4, o5, o6, o7, o8, o9, o10, o11] #[true, false, false, false, false, false, false, false, false, false, false, false]).contains 1 = true)
    (f2 : Region.free .any #[o0, o1, o2, o3, o4, o5, o6, o7, o8, o9, o10, o11] #[true, true, false, false, false, false, false, false, false, false, false, false] 2 = true) (r2 : (Region.ready .any #[o0, o1, o2, o3, o4, o5, o6, o7, o8, o9, o10, o11] #[true, true, false, false, false, false, false, false, false, false, false, false]).contains 2 = true)
    (f4 : Region.free .any #[o0, o1, o2, o3, o4, o5, o6, o7, o8, o9, o10, o11] #[true, true, true, false, false, false, false, false, false, false, false, false] 4 = true) (r4 : (Region.ready .any #[o0, o1, o2, o3, o4, o5, o6, o7, o8, o9, o10, o11] #[true, true, true, false, false, false, false, false, false, false, false, false]).contains 4 = true)
    (f5 : Region.free .any #[o0, o1, o2, o3, o4, o5, o6, o7, o8, o9, o10, o11] #[true, true, true, false, true, false, false, false, false, false, false, false] 5 = true) (r5 : (Region.ready .any #[o0, o1, o2, o3, o4, o5, o6, o7, o8, o9, o10, o11] #[true, true, true, false, true, false, false, false, false, false, false, false]).contains 5 = true)
    (f6 : Region.free .any #[o0, o1, o2, o3, o4, o5, o6, o7, o8, o9, o10, o11] #[true, true, true, false, true, true, false, false, false, false, false, false] 6 = true) (r6 : (Region.ready .any #[o0, o1, o2, o3, o4, o5, o6, o7, o8, o9, o10, o11] #[true, true, true, false, true, true, false, false, false, false, false, false]).contains 6 = true)
    (f8 : Region.free .any #[o0, o1, o2, o3, o4, o5, o6, o7, o8, o9, o10, o11] #[true, true, true, false, true, true, true, false, false, false, false, false] 8 = true) (r8 : (Region.ready .any #[o0, o1, o2, o3, o4, o5, o6, o7, o8, o9, o10, o11] #[true, true, true, false, true, true, true, false, false, false, false, false]).contains 8 = true)
    (r3 : Region.ready .any #[o0, o1, o2, o3, o4, o5, o6, o7, o8, o9, o10, o11] #[true, true, true, false, true, true, true, false, true, false, false, false] = [3])
    (r7 : Region.ready .any #[o0, o1, o2, o3, o4, o5, o6, o7, o8, o9, o10, o11] #[true, true, true, true, true, true, true, false, true, false, false, false] = [7])
    (r9 : Region.ready .any #[o0, o1, o2, o3, o4, o5, o6, o7, o8, o9, o10, o11] #[true, true, true, true, true, true, true, true, true, false, false, false] = [9])
    (r10 : Region.ready .any #[o0, o1, o2, o3, o4, o5, o6, o7, o8, o9, o10, o11] #[true, true, true, true, true, true, true, true, true, true, false, false] = [10])
    (f11 : Region.free .any #[o0, o1, o2, o3, o4, o5, o6, o7, o8, o9, o10, o11] #[true, true, true, true, true, true, true, true, true, true, true, false] 11 = true) (r11 : (Region.ready .any #[o0, o1, o2, o3, o4, o5, o6, o7, o8, o9, o10, o11] #[true, true, true, true, true, true, true, true, true, true, true, false]).contains 11 = true)
    (rr : Region.ready .any #[o0, o1, o2, o3, o4, o5, o6, o7, o8, o9, o10, o11] #[true, true, true, true, true, true, true, true, true, true, true, true] = [])
    (g3 : o3.guard = none) (g7 : o7.guard = none) (g9 : o9.guard = none) (g10 : o10.guard = none)
    (v0 v1 v2 v4 v5 v6 v8 v3 v7 v11 : Value) (A0 A1 A2 A4 A5 A6 A8 A3 A7 A9 A10 A11 : Act)
    (p0 : a.put o0.dst v0 = A0) (p1 : A0.put o1.dst v1 = A1) (p2 : A1.put o2.dst v2 = A2) (p4 : A2.put o4.dst v4 = A4) (p5 : A4.put o5.dst v5 = A5) (p6 : A5.put o6.dst v6 = A6) (p8 : A6.put o8.dst v8 = A8) (p3 : A8.put o3.dst v3 = A3) (p7 : A3.put o7.dst v7 = A7) (p9 : A7.put o9.dst undef = A9) (p10 : A9.put o10.dst undef = A10) (p11 : A10.put o11.dst v11 = A11) 
    (hy0 : YieldsIf P #[o0, o1, o2, o3, o4, o5, o6, o7, o8, o9, o10, o11] (Kept [b5, b6] w) o0 v0 a)
    (hy1 : YieldsIf P #[o0, o1, o2, o3, o4, o5, o6, o7, o8, o9, o10, o11] (Kept [b5, b6] w) o1 v1 A0)
    (hy2 : YieldsIf P #[o0, o1, o2, o3, o4, o5, o6, o7, o8, o9, o10, o11] (Kept [b5, b6] w) o2 v2 A1)
    (hy4 : YieldsIf P #[o0, o1, o2, o3, o4, o5, o6, o7, o8, o9, o10, o11] (Kept [b5, b6] w) o4 v4 A2)
    (hy5 : YieldsIf P #[o0, o1, o2, o3, o4, o5, o6, o7, o8, o9, o10, o11] (Kept [b5, b6] w) o5 v5 A4)
    (hy6 : YieldsIf P #[o0, o1, o2, o3, o4, o5, o6, o7, o8, o9, o10, o11] (Kept [b5, b6] w) o6 v6 A5)
    (hy8 : YieldsIf P #[o0, o1, o2, o3, o4, o5, o6, o7, o8, o9, o10, o11] (Kept [b5, b6] w) o8 v8 A6)
    (k3 : ∀ w0, Kept [] w w0 → ∀ K : Act → World → Prop, (∀ w1, Kept [] w0 w1 → K (A8.put o3.dst v3) w1) → o3.wp P A8 w0 K (NoPanic Q))
    (k7 : ∀ w0, Kept [] w w0 → ∀ K : Act → World → Prop, (∀ w1, Kept [] w0 w1 → K (A3.put o7.dst v7) w1) → o7.wp P A3 w0 K (NoPanic Q))
    (t5 t6 : TypeId) (x5 y5 x6 y6 : Operand) (h5 : o9.op = .store t5 x5 y5) (h6 : o10.op = .store t6 x6 y6) (cs5 cs6 old5 old6 : Array Value) (u5 u6 : TypeId) (hne : b5 ≠ b6)
    (e5 : A7.eval x5 = .pointer (some ⟨b5, 0, none⟩)) (z5 : A7.eval y5 = .agg cs5) (hg5 : w.heap[b5]? = some (.cells old5 u5 (0, 0))) (i5 : (P.info? t5).map (·.size) = some cs5.size) (l5 : old5.size = cs5.size) (n5 : cs5.all (·.oneCell') = true)
    (e6 : A9.eval x6 = .pointer (some ⟨b6, 0, none⟩)) (z6 : A9.eval y6 = .agg cs6) (hg6 : w.heap[b6]? = some (.cells old6 u6 (0, 0))) (i6 : (P.info? t6).map (·.size) = some cs6.size) (l6 : old6.size = cs6.size) (n6 : cs6.all (·.oneCell') = true)
    (hyl : YieldsIf P #[o0, o1, o2, o3, o4, o5, o6, o7, o8, o9, o10, o11] (Kept [b5, b6] w) o11 v11 A10)
    (h : ∀ w1, Kept [] w w1 → Q .normal A11 ((w1.setRow b5 cs5).setRow b6 cs6)) :
    (Code.region id #[o0, o1, o2, o3, o4, o5, o6, o7, o8, o9, o10, o11] true).wp P Q a w := by
  subst p0 p1 p2 p4 p5 p6 p8 p3 p7 p9 p10 p11
  have hS : Kept [b5, b6] w w.drew := (Kept.refl [b5, b6] w).drew
  have k00 : Kept [] w w.drew := (Kept.refl [] w).drew
  refine wp_region_noPanic ?_
  refine wp_region_held_drew (S := Kept [b5, b6] w) hm hS (fun hH => ?_)
  show wpAnyH P .any #[o0, o1, o2, o3, o4, o5, o6, o7, o8, o9, o10, o11] (NoPanic Q) (Kept [b5, b6] w) 12 #[false, false, false, false, false, false, false, false, false, false, false, false] a w.drew
  refine wpAnyH_take (i := 0) (oi := o0) rfl hs f0 r0 (fun _ _ _ h => h) hy0 hS ?_
  refine wpAnyH_take (i := 1) (oi := o1) rfl hs f1 r1 (fun _ _ _ h => h) hy1 hS ?_
  refine wpAnyH_take (i := 2) (oi := o2) rfl hs f2 r2 (fun _ _ _ h => h) hy2 hS ?_
  refine wpAnyH_take (i := 4) (oi := o4) rfl hs f4 r4 (fun _ _ _ h => h) hy4 hS ?_
  refine wpAnyH_take (i := 5) (oi := o5) rfl hs f5 r5 (fun _ _ _ h => h) hy5 hS ?_
  refine wpAnyH_take (i := 6) (oi := o6) rfl hs f6 r6 (fun _ _ _ h => h) hy6 hS ?_
  refine wpAnyH_take (i := 8) (oi := o8) rfl hs f8 r8 (fun _ _ _ h => h) hy8 hS ?_
  refine wpAnyH_ready (rs := [3]) r3 (by simp) (AllReadyH.cons (o := o3) rfl (fun K hK => ?_) AllReadyH.nil)
  have wa3 : ∀ y, Region.wanted o3 y = true := fun y => by unfold Region.wanted; rw [g3]
  rw [if_pos (wa3 _)]
  refine k3 w.drew k00 K (fun w3 q3 => ?_)
  have kk3 := k00.trans q3 (by simp)
  refine hK.out _ _ (kk3.mono (by simp)) (fun _ => ?_)
  refine wpAnyH_ready (rs := [7]) r7 (by simp) (AllReadyH.cons (o := o7) rfl (fun K hK => ?_) AllReadyH.nil)
  have wa7 : ∀ y, Region.wanted o7 y = true := fun y => by unfold Region.wanted; rw [g7]
  rw [if_pos (wa7 _)]
  refine k7 w3 kk3 K (fun w7 q7 => ?_)
  have kk7 := kk3.trans q7 (by simp)
  refine hK.out _ _ (kk7.mono (by simp)) (fun _ => ?_)
  have hg5' := kk7.heap hg5 (by simp)
  have hg6' := (setRow_other w7 b5 b6 cs5 (fun e => hne e.symm)).trans (kk7.heap hg6 (by simp))
  have hS5 : Kept [b5, b6] w (w7.setRow b5 cs5) := (kk7.mono (by simp)).setRow (Or.inl (by simp)) cs5
  have hS6 : Kept [b5, b6] w ((w7.setRow b5 cs5).setRow b6 cs6) := hS5.setRow (Or.inl (by simp)) cs6
  refine wpAnyH_ready (rs := [9]) r9 (by simp) (AllReadyH.cons (o := o9) rfl (fun K hK => ?_) AllReadyH.nil)
  have ws1 : ∀ y, Region.wanted o9 y = true := fun y => by unfold Region.wanted; rw [g9]
  rw [if_pos (ws1 _)]
  refine wp_store_row t5 x5 y5 h5 b5 cs5 e5 z5 u5 old5 hg5' i5 l5 n5 ?_
  refine hK.out _ _ hS5 (fun _ => ?_)
  refine wpAnyH_ready (rs := [10]) r10 (by simp) (AllReadyH.cons (o := o10) rfl (fun K hK => ?_) AllReadyH.nil)
  have ws2 : ∀ y, Region.wanted o10 y = true := fun y => by unfold Region.wanted; rw [g10]
  rw [if_pos (ws2 _)]
  refine wp_store_row t6 x6 y6 h6 b6 cs6 e6 z6 u6 old6 hg6' i6 l6 n6 ?_
  refine hK.out _ _ hS6 (fun _ => ?_)
  refine wpAnyH_take (i := 11) (oi := o11) rfl hs f11 r11 (fun _ _ _ h => h) hyl hS6 ?_
  exact ⟨rr, NoPanic.normal (h w7 kk7)⟩
end

theorem wp_node {o : Oper} {a : Act} {w : World} {K : Act → World → Prop} {Q : Exit → Act → World → Prop} (x0 x1 x2 : Operand) (ts : Array TypeId) (ho : o.op = .call { callee := .value (.func 50), args := #[x0, x1, x2], argTypes := ts }) (k : Nat) (l m : List Nat) (e0 : a.eval x0 = .int .i64 (k : Int)) (e1 : a.eval x1 = .agg (l.map u8).toArray) (e2 : a.eval x2 = .agg (m.map u8).toArray)
    (hk : 1 ≤ k ∧ k ≤ 32) (hl : Dg l) (hm : Dg m) (h : ∀ w1, Kept [] w w1 → K (a.put o.dst (.agg (brow (nodS k l m)))) w1) : o.wp Tryd.prog a w K Q := by
  unfold Oper.wp execOp
  simp only [ho]
  have hf : a.eval (.func 50) = .func (.func 50) #[] #[] := rfl
  have hcl : ∀ args W, (callFunc 50 args).run Tryd.prog W = .ok (.enter 50 args) W := fun args W => Tryd.call50 args W
  simp only [resolve, invoke, hf, e0, e1, e2, Sem.run_bind, Sem.run_pure, Result.andThen_ok, List.map_toArray, List.map_cons, List.map_nil, hcl]
  simp [Deferred.ofValue, hcl, go_sem]
  refine (refNode_any k l m w hk hl hm).mono ?_
  rintro e w2 ⟨rfl, k2⟩
  exact h w2 k2
end Go.Proofs.YtbljofojeagdkaaDoor
namespace Go.Proofs.YtbljofojeagdkaaDoor
open Go.RowKit Go.BigFrame
set_option linter.unusedVariables false
set_option linter.unusedSimpArgs false

theorem two_heaps {W w9 : World} {b5 b6 : Nat} {z5 z6 : Array Value} {t t' : TypeId} (k9 : Kept [] W w9) (hz : W.heap[b5]? = some (.cells z5 t (0, 0))) (hy : W.heap[b6]? = some (.cells z6 t' (0, 0))) (hne : b5 ≠ b6) (c5 c6 : Array Value) :
    ((w9.setRow b5 c5).setRow b6 c6).heap[b5]? = some (.cells c5 t (0, 0)) ∧ ((w9.setRow b5 c5).setRow b6 c6).heap[b6]? = some (.cells c6 t' (0, 0)) :=
  ⟨(setRow_other (w9.setRow b5 c5) b6 b5 c6 hne).trans (setRow_heap w9 b5 z5 c5 t (0, 0) (k9.heap hz (by simp))), setRow_heap (w9.setRow b5 c5) b6 z6 c6 t' (0, 0) ((setRow_other w9 b5 b6 c5 (fun e => hne e.symm)).trans (k9.heap hy (by simp)))⟩

set_option maxRecDepth 100000 in
set_option maxHeartbeats 8000000 in
theorem two_any (k : Nat) (old : List Nat) (hk : 1 ≤ k ∧ k ≤ 32) (ho : Dg old) : ∀ (rp : List (List Nat)) (m n : Nat) (b : Bool) (pv : Value) (w : World), 1 ≤ m → m ≤ n → n < 18446744073709551616 → RdD w pv rp.reverse →
    Calls Tryd.prog 31 #[.int .i64 k, .int .u64 m, .int .u64 n, .agg (brow old), pv, .bool b] w fun e w' => ∃ d1 d2, e = .returned (.tuple #[.agg (brow d1), .agg (brow d2), .bool (twD k old rp m n b).isSome]) ∧ Dg d1 ∧ Dg d2 ∧ (∀ x, twD k old rp m n b = some x → (d1, d2) = x) ∧ Kept [] w w' := by
  intro rp
  induction rp with
  | nil =>
    intro m n b pv w hm1 hmn hn hp
    obtain ⟨ao, len, cap, rfl, h1, h2, h3, h4, h5⟩ := hp
    have hlen : len = 0 := by simpa using h1.symm
    subst hlen
    clear h1 h2 h3 h4 h5
    have hol := ho.1
    have HSL := hide (by rw [List.length_map, hol]; exact Tryd.size_dig : (Tryd.prog.info? 23).map (·.size) = some (old.map u8).length)
    obtain ⟨F, hF⟩ : ∃ F, twD k old [] m n b = F := ⟨_, rfl⟩
    have HFF := hide hF
    rw [hF]
    clear hF
    go_enter Tryd.func31, Tryd.ntmps31
    have HGL := hide ((((Kept.refl [] (w.alloc (.cells (brow old) 23))).alloc (.cells (zb 32) 23)).alloc (.cells (zb 32) 23)).heap (heap_alloc_new w (.cells (brow old) 23)) (by simp))
    have HGZ := hide (((Kept.refl [] ((w.alloc (.cells (brow old) 23)).alloc (.cells (zb 32) 23))).alloc (.cells (zb 32) 23)).heap (alloc_at w (.cells (brow old) 23) (.cells (zb 32) 23)) (by simp))
    have HGY := hide (alloc3_at w (.cells (brow old) 23) (.cells (zb 32) 23) (.cells (zb 32) 23))
    have HK0 := hide ((((Kept.refl [] w).alloc (.cells (brow old) 23)).alloc (.cells (zb 32) 23)).alloc (.cells (zb 32) 23))
    by_cases h1 : m = n
    · have h1' : ((m : Int) == n) = true := by simp; omega
      cases b with
      | true =>
        have HC := hide (by rw [← unhide HFF]; simp [twD, h1] : F = some (old, old))
        have HBV := hide (by rw [unhide HC]; rfl : F.isSome = true)
        go_wp2_with fail
        rw [zb32]
        obtain ⟨W0, hW0⟩ : ∃ W0, ((w.alloc (.cells (brow old) 23)).alloc (.cells (zb 32) 23)).alloc (.cells (zb 32) 23) = W0 := ⟨_, rfl⟩
        rw [hW0] at HGL HGZ HGY HK0 ⊢
        have HZN := HGZ
        have HYN := HGY
        have HRO := hide (range_row (unhide HGL))
        clear hW0
        refine wp_r8 (w.heap.size + 1) (w.heap.size + 1 + 1) (by kernel_rfl) (by kernel_rfl) (by kernel_rfl) (by kernel_rfl) (by kernel_rfl) (by kernel_rfl) (by kernel_rfl) (by kernel_rfl) (by kernel_rfl) (by kernel_rfl) (by kernel_rfl) (by kernel_rfl) (by kernel_rfl) (by kernel_rfl) (by kernel_rfl) (by kernel_rfl) (by kernel_rfl) rfl rfl
          (.agg (old.map u8).toArray) (.agg (old.map u8).toArray) (.slice ao 0 cap) (.int .i64 0) (.bool true) (.bool true) _ _ _ _ _ _ _ _ (by simp only [Act.put, List.setIfInBounds_toArray, List.set_cons_zero, List.set_cons_succ]; rfl) (by simp only [Act.put, List.setIfInBounds_toArray, List.set_cons_zero, List.set_cons_succ]; rfl) (by simp only [Act.put, List.setIfInBounds_toArray, List.set_cons_zero, List.set_cons_succ]; rfl) (by simp only [Act.put, List.setIfInBounds_toArray, List.set_cons_zero, List.set_cons_succ]; rfl) (by simp only [Act.put, List.setIfInBounds_toArray, List.set_cons_zero, List.set_cons_succ]; rfl) (by simp only [Act.put, List.setIfInBounds_toArray, List.set_cons_zero, List.set_cons_succ]; rfl) (by simp only [Act.put, List.setIfInBounds_toArray, List.set_cons_zero, List.set_cons_succ]; rfl) (by simp only [Act.put, List.setIfInBounds_toArray, List.set_cons_zero, List.set_cons_succ]; rfl)
          (by exact yieldsIf_load_mid (by rfl) _ _ rfl w.heap.size 0 rfl (old.map u8) _ (fun W' hW' => range_kept (unhide HRO) hW' (by simp; omega)) Tryd.underlying23 rfl (unhide HSL))
          (by exact yieldsIf_load_mid (by rfl) _ _ rfl w.heap.size 0 rfl (old.map u8) _ (fun W' hW' => range_kept (unhide HRO) hW' (by simp; omega)) Tryd.underlying23 rfl (unhide HSL))
          (by exact Or.inl ⟨by rfl, fun W' hW' => by go_simp⟩)
          (by exact Or.inl ⟨by rfl, fun W' hW' => by go_simp⟩)
          (by exact Or.inl ⟨by rfl, fun W' hW' => by go_simp⟩)
          23 23 _ _ _ _ rfl rfl (brow old) (brow old) (zb 32) (zb 32) 23 23 (by omega)
          (by rfl) (by rfl) (unhide HZN) (by rw [brow_size, hol]; exact Tryd.size_dig) (by rw [zb_size, brow_size, hol]) (brow_one _)
          (by rfl) (by rfl) (unhide HYN) (by rw [brow_size, hol]; exact Tryd.size_dig) (by rw [zb_size, brow_size, hol]) (brow_one _)
          (by exact Or.inl ⟨by rfl, fun W' hW' => by go_simp⟩) ?_
        intro w9 k9
        have HH := hide (two_heaps k9 (unhide HZN) (unhide HYN) (by omega) (brow old) (brow old))
        have HK9 := hide ((((unhide HK0).trans k9 (by simp)).setRow (g := w.heap.size + 1) (Or.inr (by omega)) (brow old)).setRow (g := w.heap.size + 1 + 1) (Or.inr (by omega)) (brow old))
        clear k9
        go_wp2_with fail
        refine bodyPost_ret (v := .tuple #[.agg (brow old), .agg (brow old), .bool true]) ?_ rfl ⟨old, old, by rw [unhide HBV], ho, ho, (fun y hy => by rw [unhide HC] at hy; cases hy; rfl), unhide HK9⟩
        exact results_cell_cell_tmp rfl _ _ (w.heap.size + 1) (w.heap.size + 1 + 1) _ _ (brow old) (brow old) (0, 0) (0, 0) _ _ rfl (unhide HH).1 rfl (unhide HH).2 Tryd.underlying23 rfl (by rw [brow_size, hol]; exact Tryd.size_dig) Tryd.underlying23 rfl (by rw [brow_size, hol]; exact Tryd.size_dig) _ rfl
      | false =>
        have HC := hide (by rw [← unhide HFF]; simp [twD] : F = none)
        have HBV := hide (by rw [unhide HC]; rfl : F.isSome = false)
        go_wp2_with fail
        rw [zb32]
        obtain ⟨W0, hW0⟩ : ∃ W0, ((w.alloc (.cells (brow old) 23)).alloc (.cells (zb 32) 23)).alloc (.cells (zb 32) 23) = W0 := ⟨_, rfl⟩
        rw [hW0] at HGL HGZ HGY HK0 ⊢
        have HZN := HGZ
        have HYN := HGY
        have HRO := hide (range_row (unhide HGL))
        clear hW0
        refine wp_r5 (w.heap.size + 1) (w.heap.size + 1 + 1) (by kernel_rfl) (by kernel_rfl) (by kernel_rfl) (by kernel_rfl) (by kernel_rfl) (by kernel_rfl) (by kernel_rfl) (by kernel_rfl) (by kernel_rfl) (by kernel_rfl) (by kernel_rfl) rfl rfl
          (.agg (old.map u8).toArray) (.agg (old.map u8).toArray) (.bool false) _ _ _ _ _ (by simp only [Act.put, List.setIfInBounds_toArray, List.set_cons_zero, List.set_cons_succ]; rfl) (by simp only [Act.put, List.setIfInBounds_toArray, List.set_cons_zero, List.set_cons_succ]; rfl) (by simp only [Act.put, List.setIfInBounds_toArray, List.set_cons_zero, List.set_cons_succ]; rfl) (by simp only [Act.put, List.setIfInBounds_toArray, List.set_cons_zero, List.set_cons_succ]; rfl) (by simp only [Act.put, List.setIfInBounds_toArray, List.set_cons_zero, List.set_cons_succ]; rfl)
          (by exact yieldsIf_load_mid (by rfl) _ _ rfl w.heap.size 0 rfl (old.map u8) _ (fun W' hW' => range_kept (unhide HRO) hW' (by simp; omega)) Tryd.underlying23 rfl (unhide HSL))
          (by exact yieldsIf_load_mid (by rfl) _ _ rfl w.heap.size 0 rfl (old.map u8) _ (fun W' hW' => range_kept (unhide HRO) hW' (by simp; omega)) Tryd.underlying23 rfl (unhide HSL))
          23 23 _ _ _ _ rfl rfl (brow old) (brow old) (zb 32) (zb 32) 23 23 (by omega)
          (by rfl) (by rfl) (unhide HZN) (by rw [brow_size, hol]; exact Tryd.size_dig) (by rw [zb_size, brow_size, hol]) (brow_one _)
          (by rfl) (by rfl) (unhide HYN) (by rw [brow_size, hol]; exact Tryd.size_dig) (by rw [zb_size, brow_size, hol]) (brow_one _)
          (by exact Or.inl ⟨by rfl, fun W' hW' => by go_simp⟩) ?_
        intro w9 k9
        have HH := hide (two_heaps k9 (unhide HZN) (unhide HYN) (by omega) (brow old) (brow old))
        have HK9 := hide ((((unhide HK0).trans k9 (by simp)).setRow (g := w.heap.size + 1) (Or.inr (by omega)) (brow old)).setRow (g := w.heap.size + 1 + 1) (Or.inr (by omega)) (brow old))
        clear k9
        go_wp2_with fail
        refine bodyPost_ret (v := .tuple #[.agg (brow old), .agg (brow old), .bool false]) ?_ rfl ⟨old, old, by rw [unhide HBV], ho, ho, (fun y hy => by rw [unhide HC] at hy; cases hy), unhide HK9⟩
        exact results_cell_cell_tmp rfl _ _ (w.heap.size + 1) (w.heap.size + 1 + 1) _ _ (brow old) (brow old) (0, 0) (0, 0) _ _ rfl (unhide HH).1 rfl (unhide HH).2 Tryd.underlying23 rfl (by rw [brow_size, hol]; exact Tryd.size_dig) Tryd.underlying23 rfl (by rw [brow_size, hol]; exact Tryd.size_dig) _ rfl
    · have h1' : ((m : Int) == n) = false := by simp; omega
      have HC := hide (by rw [← unhide HFF]; simp [twD, h1] : F = none)
      have HBV := hide (by rw [unhide HC]; rfl : F.isSome = false)
      go_wp2_with fail
      rw [zb32]
      obtain ⟨W0, hW0⟩ : ∃ W0, ((w.alloc (.cells (brow old) 23)).alloc (.cells (zb 32) 23)).alloc (.cells (zb 32) 23) = W0 := ⟨_, rfl⟩
      rw [hW0] at HGL HGZ HGY HK0 ⊢
      have HZN := HGZ
      have HYN := HGY
      have HRO := hide (range_row (unhide HGL))
      clear hW0
      refine wp_r5 (w.heap.size + 1) (w.heap.size + 1 + 1) (by kernel_rfl) (by kernel_rfl) (by kernel_rfl) (by kernel_rfl) (by kernel_rfl) (by kernel_rfl) (by kernel_rfl) (by kernel_rfl) (by kernel_rfl) (by kernel_rfl) (by kernel_rfl) rfl rfl
        (.agg (old.map u8).toArray) (.agg (old.map u8).toArray) (.bool false) _ _ _ _ _ (by simp only [Act.put, List.setIfInBounds_toArray, List.set_cons_zero, List.set_cons_succ]; rfl) (by simp only [Act.put, List.setIfInBounds_toArray, List.set_cons_zero, List.set_cons_succ]; rfl) (by simp only [Act.put, List.setIfInBounds_toArray, List.set_cons_zero, List.set_cons_succ]; rfl) (by simp only [Act.put, List.setIfInBounds_toArray, List.set_cons_zero, List.set_cons_succ]; rfl) (by simp only [Act.put, List.setIfInBounds_toArray, List.set_cons_zero, List.set_cons_succ]; rfl)
        (by exact yieldsIf_load_mid (by rfl) _ _ rfl w.heap.size 0 rfl (old.map u8) _ (fun W' hW' => range_kept (unhide HRO) hW' (by simp; omega)) Tryd.underlying23 rfl (unhide HSL))
        (by exact yieldsIf_load_mid (by rfl) _ _ rfl w.heap.size 0 rfl (old.map u8) _ (fun W' hW' => range_kept (unhide HRO) hW' (by simp; omega)) Tryd.underlying23 rfl (unhide HSL))
        23 23 _ _ _ _ rfl rfl (brow old) (brow old) (zb 32) (zb 32) 23 23 (by omega)
        (by rfl) (by rfl) (unhide HZN) (by rw [brow_size, hol]; exact Tryd.size_dig) (by rw [zb_size, brow_size, hol]) (brow_one _)
        (by rfl) (by rfl) (unhide HYN) (by rw [brow_size, hol]; exact Tryd.size_dig) (by rw [zb_size, brow_size, hol]) (brow_one _)
        (by exact Or.inl ⟨by rfl, fun W' hW' => by go_simp⟩) ?_
      intro w9 k9
      have HH := hide (two_heaps k9 (unhide HZN) (unhide HYN) (by omega) (brow old) (brow old))
      have HK9 := hide ((((unhide HK0).trans k9 (by simp)).setRow (g := w.heap.size + 1) (Or.inr (by omega)) (brow old)).setRow (g := w.heap.size + 1 + 1) (Or.inr (by omega)) (brow old))
      clear k9
      go_wp2_with fail
      refine bodyPost_ret (v := .tuple #[.agg (brow old), .agg (brow old), .bool false]) ?_ rfl ⟨old, old, by rw [unhide HBV], ho, ho, (fun y hy => by rw [unhide HC] at hy; cases hy), unhide HK9⟩
      exact results_cell_cell_tmp rfl _ _ (w.heap.size + 1) (w.heap.size + 1 + 1) _ _ (brow old) (brow old) (0, 0) (0, 0) _ _ rfl (unhide HH).1 rfl (unhide HH).2 Tryd.underlying23 rfl (by rw [brow_size, hol]; exact Tryd.size_dig) Tryd.underlying23 rfl (by rw [brow_size, hol]; exact Tryd.size_dig) _ rfl
  | cons x r ih =>
    intro m n b pv w hm1 hmn hn hp
    have HP := hide hp
    obtain ⟨ao, len, cap, rfl, h1, h2, h3, h4, h5⟩ := hp
    have hlen : len = r.length + 1 := by rw [← h1]; simp
    subst hlen
    have H5 := hide h5
    clear h1 h4 h5
    have hol := ho.1
    have HX := hide ((unhide HP).dg (show x ∈ (x :: r).reverse by simp))
    have hxl := (unhide HX).1
    have HSX1 := hide (by rw [List.length_map, hxl]; exact Tryd.size_dig : (Tryd.prog.info? 23).map (·.size) = some (x.map u8).length)
    have HSL := hide (by rw [List.length_map, hol]; exact Tryd.size_dig : (Tryd.prog.info? 23).map (·.size) = some (old.map u8).length)
    obtain ⟨F, hF⟩ : ∃ F, twD k old (x :: r) m n b = F := ⟨_, rfl⟩
    have HFF := hide hF
    rw [hF]
    clear hF
    go_enter Tryd.func31, Tryd.ntmps31
    have HGL := hide ((((Kept.refl [] (w.alloc (.cells (brow old) 23))).alloc (.cells (zb 32) 23)).alloc (.cells (zb 32) 23)).heap (heap_alloc_new w (.cells (brow old) 23)) (by simp))
    have HGZ := hide (((Kept.refl [] ((w.alloc (.cells (brow old) 23)).alloc (.cells (zb 32) 23))).alloc (.cells (zb 32) 23)).heap (alloc_at w (.cells (brow old) 23) (.cells (zb 32) 23)) (by simp))
    have HGY := hide (alloc3_at w (.cells (brow old) 23) (.cells (zb 32) 23) (.cells (zb 32) 23))
    have HK0 := hide ((((Kept.refl [] w).alloc (.cells (brow old) 23)).alloc (.cells (zb 32) 23)).alloc (.cells (zb 32) 23))
    by_cases h1 : m = n
    · have h1' : ((m : Int) == n) = true := by simp; omega
      cases b with
      | true =>
        have hne : (((r.length : Int) + 1) == 0) = false := by simp; omega
        have HC := hide (by rw [← unhide HFF]; simp [twD, h1] : F = none)
        have HBV := hide (by rw [unhide HC]; rfl : F.isSome = false)
        go_wp2_with fail
        rw [zb32]
        obtain ⟨W0, hW0⟩ : ∃ W0, ((w.alloc (.cells (brow old) 23)).alloc (.cells (zb 32) 23)).alloc (.cells (zb 32) 23) = W0 := ⟨_, rfl⟩
        rw [hW0] at HGL HGZ HGY HK0 ⊢
        have HZN := HGZ
        have HYN := HGY
        have HRO := hide (range_row (unhide HGL))
        clear hW0
        refine wp_r8 (w.heap.size + 1) (w.heap.size + 1 + 1) (by kernel_rfl) (by kernel_rfl) (by kernel_rfl) (by kernel_rfl) (by kernel_rfl) (by kernel_rfl) (by kernel_rfl) (by kernel_rfl) (by kernel_rfl) (by kernel_rfl) (by kernel_rfl) (by kernel_rfl) (by kernel_rfl) (by kernel_rfl) (by kernel_rfl) (by kernel_rfl) (by kernel_rfl) rfl rfl
          (.agg (old.map u8).toArray) (.agg (old.map u8).toArray) (.slice ao (r.length + 1) cap) (.int .i64 ((r.length : Int) + 1)) (.bool false) (.bool false) _ _ _ _ _ _ _ _ (by simp only [Act.put, List.setIfInBounds_toArray, List.set_cons_zero, List.set_cons_succ]; rfl) (by simp only [Act.put, List.setIfInBounds_toArray, List.set_cons_zero, List.set_cons_succ]; rfl) (by simp only [Act.put, List.setIfInBounds_toArray, List.set_cons_zero, List.set_cons_succ]; rfl) (by simp only [Act.put, List.setIfInBounds_toArray, List.set_cons_zero, List.set_cons_succ]; rfl) (by simp only [Act.put, List.setIfInBounds_toArray, List.set_cons_zero, List.set_cons_succ]; rfl) (by simp only [Act.put, List.setIfInBounds_toArray, List.set_cons_zero, List.set_cons_succ]; rfl) (by simp only [Act.put, List.setIfInBounds_toArray, List.set_cons_zero, List.set_cons_succ]; rfl) (by simp only [Act.put, List.setIfInBounds_toArray, List.set_cons_zero, List.set_cons_succ]; rfl)
          (by exact yieldsIf_load_mid (by rfl) _ _ rfl w.heap.size 0 rfl (old.map u8) _ (fun W' hW' => range_kept (unhide HRO) hW' (by simp; omega)) Tryd.underlying23 rfl (unhide HSL))
          (by exact yieldsIf_load_mid (by rfl) _ _ rfl w.heap.size 0 rfl (old.map u8) _ (fun W' hW' => range_kept (unhide HRO) hW' (by simp; omega)) Tryd.underlying23 rfl (unhide HSL))
          (by exact Or.inl ⟨by rfl, fun W' hW' => by go_simp⟩)
          (by exact Or.inl ⟨by rfl, fun W' hW' => by go_simp⟩)
          (by exact Or.inl ⟨by rfl, fun W' hW' => by go_simp⟩)
          23 23 _ _ _ _ rfl rfl (brow old) (brow old) (zb 32) (zb 32) 23 23 (by omega)
          (by rfl) (by rfl) (unhide HZN) (by rw [brow_size, hol]; exact Tryd.size_dig) (by rw [zb_size, brow_size, hol]) (brow_one _)
          (by rfl) (by rfl) (unhide HYN) (by rw [brow_size, hol]; exact Tryd.size_dig) (by rw [zb_size, brow_size, hol]) (brow_one _)
          (by exact Or.inl ⟨by rfl, fun W' hW' => by go_simp⟩) ?_
        intro w9 k9
        have HH := hide (two_heaps k9 (unhide HZN) (unhide HYN) (by omega) (brow old) (brow old))
        have HK9 := hide ((((unhide HK0).trans k9 (by simp)).setRow (g := w.heap.size + 1) (Or.inr (by omega)) (brow old)).setRow (g := w.heap.size + 1 + 1) (Or.inr (by omega)) (brow old))
        clear k9
        go_wp2_with fail
        refine bodyPost_ret (v := .tuple #[.agg (brow old), .agg (brow old), .bool false]) ?_ rfl ⟨old, old, by rw [unhide HBV], ho, ho, (fun y hy => by rw [unhide HC] at hy; cases hy), unhide HK9⟩
        exact results_cell_cell_tmp rfl _ _ (w.heap.size + 1) (w.heap.size + 1 + 1) _ _ (brow old) (brow old) (0, 0) (0, 0) _ _ rfl (unhide HH).1 rfl (unhide HH).2 Tryd.underlying23 rfl (by rw [brow_size, hol]; exact Tryd.size_dig) Tryd.underlying23 rfl (by rw [brow_size, hol]; exact Tryd.size_dig) _ rfl
      | false =>
        by_cases hr : r.length = 0
        · have hr1 : (((r.length : Int) + 1) != 1) = false := by simp; omega
          have hr0 : (0 : Int) < (r.length : Int) + 1 := by omega
          have hre : r = [] := List.eq_nil_of_length_eq_zero hr
          obtain ⟨b0, off, rfl, hcell⟩ := unhide H5 (by omega)
          have HRX0 := hide (by have := hcell 0 (by omega); rw [hre] at this; simpa using this : w.rangeAt b0 off (x.map u8))
          have hb0 : b0 < w.heap.size := by
            have h9 := unhide HRX0 0 (u8 (x.getD 0 0)) (by rw [List.getElem?_map, List.getD_eq_getElem?_getD, List.getElem?_eq_getElem (show 0 < x.length by omega)]; rfl)
            exact block_lt_of_cell h9
          clear hcell
          have HC := hide (by rw [← unhide HFF]; simp [twD, h1, hre] : F = some (x, x))
          have HBV := hide (by rw [unhide HC]; rfl : F.isSome = true)
          go_wp2_with fail
          rw [zb32]
          obtain ⟨W0, hW0⟩ : ∃ W0, ((w.alloc (.cells (brow old) 23)).alloc (.cells (zb 32) 23)).alloc (.cells (zb 32) 23) = W0 := ⟨_, rfl⟩
          rw [hW0] at HGL HGZ HGY HK0 ⊢
          have HZN := HGZ
          have HYN := HGY
          have HRO := hide (range_row (unhide HGL))
          clear hW0
          have HRX := hide (range_kept (unhide HRX0) (unhide HK0) (by simp))
          refine wp_r9 (w.heap.size + 1) (w.heap.size + 1 + 1) (by kernel_rfl) (by kernel_rfl) (by kernel_rfl) (by kernel_rfl) (by kernel_rfl) (by kernel_rfl) (by kernel_rfl) (by kernel_rfl) (by kernel_rfl) (by kernel_rfl) (by kernel_rfl) (by kernel_rfl) (by kernel_rfl) (by kernel_rfl) (by kernel_rfl) (by kernel_rfl) (by kernel_rfl) (by kernel_rfl) (by kernel_rfl) rfl rfl
            (.slice (some ⟨b0, off, none⟩) (r.length + 1) cap) (.pointer (some ⟨b0, off, none⟩)) (.agg (x.map u8).toArray) (.slice (some ⟨b0, off, none⟩) (r.length + 1) cap) (.pointer (some ⟨b0, off, none⟩)) (.agg (x.map u8).toArray) (.bool true) _ _ _ _ _ _ _ _ _ (by simp only [Act.put, List.setIfInBounds_toArray, List.set_cons_zero, List.set_cons_succ]; rfl) (by simp only [Act.put, List.setIfInBounds_toArray, List.set_cons_zero, List.set_cons_succ]; rfl) (by simp only [Act.put, List.setIfInBounds_toArray, List.set_cons_zero, List.set_cons_succ]; rfl) (by simp only [Act.put, List.setIfInBounds_toArray, List.set_cons_zero, List.set_cons_succ]; rfl) (by simp only [Act.put, List.setIfInBounds_toArray, List.set_cons_zero, List.set_cons_succ]; rfl) (by simp only [Act.put, List.setIfInBounds_toArray, List.set_cons_zero, List.set_cons_succ]; rfl) (by simp only [Act.put, List.setIfInBounds_toArray, List.set_cons_zero, List.set_cons_succ]; rfl) (by simp only [Act.put, List.setIfInBounds_toArray, List.set_cons_zero, List.set_cons_succ]; rfl) (by simp only [Act.put, List.setIfInBounds_toArray, List.set_cons_zero, List.set_cons_succ]; rfl)
            (by exact Or.inl ⟨by rfl, fun W' hW' => by go_simp⟩)
            (by exact Or.inl ⟨by rfl, fun W' hW' => by go_simp⟩)
            (by exact yieldsIf_load_mid (by rfl) _ _ rfl b0 off rfl (x.map u8) _ (fun W' hW' => range_kept (unhide HRX) hW' (by simp; omega)) Tryd.underlying23 rfl (unhide HSX1))
            (by exact Or.inl ⟨by rfl, fun W' hW' => by go_simp⟩)
            (by exact Or.inl ⟨by rfl, fun W' hW' => by go_simp⟩)
            (by exact yieldsIf_load_mid (by rfl) _ _ rfl b0 off rfl (x.map u8) _ (fun W' hW' => range_kept (unhide HRX) hW' (by simp; omega)) Tryd.underlying23 rfl (unhide HSX1))
            23 23 _ _ _ _ rfl rfl (brow x) (brow x) (zb 32) (zb 32) 23 23 (by omega)
            (by rfl) (by rfl) (unhide HZN) (by rw [brow_size, hxl]; exact Tryd.size_dig) (by rw [zb_size, brow_size, hxl]) (brow_one _)
            (by rfl) (by rfl) (unhide HYN) (by rw [brow_size, hxl]; exact Tryd.size_dig) (by rw [zb_size, brow_size, hxl]) (brow_one _)
            (by exact Or.inl ⟨by rfl, fun W' hW' => by go_simp⟩) ?_
          intro w9 k9
          have HH := hide (two_heaps k9 (unhide HZN) (unhide HYN) (by omega) (brow x) (brow x))
          have HK9 := hide ((((unhide HK0).trans k9 (by simp)).setRow (g := w.heap.size + 1) (Or.inr (by omega)) (brow x)).setRow (g := w.heap.size + 1 + 1) (Or.inr (by omega)) (brow x))
          clear k9
          go_wp2_with fail
          refine bodyPost_ret (v := .tuple #[.agg (brow x), .agg (brow x), .bool true]) ?_ rfl ⟨x, x, by rw [unhide HBV], (unhide HX), (unhide HX), (fun y hy => by rw [unhide HC] at hy; cases hy; rfl), unhide HK9⟩
          exact results_cell_cell_tmp rfl _ _ (w.heap.size + 1) (w.heap.size + 1 + 1) _ _ (brow x) (brow x) (0, 0) (0, 0) _ _ rfl (unhide HH).1 rfl (unhide HH).2 Tryd.underlying23 rfl (by rw [brow_size, hxl]; exact Tryd.size_dig) Tryd.underlying23 rfl (by rw [brow_size, hxl]; exact Tryd.size_dig) _ rfl
        · have hr1 : (((r.length : Int) + 1) != 1) = true := by simp; omega
          have hre : r ≠ [] := fun e => hr (by rw [e]; rfl)
          have HC := hide (by rw [← unhide HFF]; simp [twD, h1, hre] : F = none)
          have HBV := hide (by rw [unhide HC]; rfl : F.isSome = false)
          go_wp2_with fail
          rw [zb32]
          obtain ⟨W0, hW0⟩ : ∃ W0, ((w.alloc (.cells (brow old) 23)).alloc (.cells (zb 32) 23)).alloc (.cells (zb 32) 23) = W0 := ⟨_, rfl⟩
          rw [hW0] at HGL HGZ HGY HK0 ⊢
          have HZN := HGZ
          have HYN := HGY
          have HRO := hide (range_row (unhide HGL))
          clear hW0
          refine wp_r5 (w.heap.size + 1) (w.heap.size + 1 + 1) (by kernel_rfl) (by kernel_rfl) (by kernel_rfl) (by kernel_rfl) (by kernel_rfl) (by kernel_rfl) (by kernel_rfl) (by kernel_rfl) (by kernel_rfl) (by kernel_rfl) (by kernel_rfl) rfl rfl
            (.agg (old.map u8).toArray) (.agg (old.map u8).toArray) (.bool false) _ _ _ _ _ (by simp only [Act.put, List.setIfInBounds_toArray, List.set_cons_zero, List.set_cons_succ]; rfl) (by simp only [Act.put, List.setIfInBounds_toArray, List.set_cons_zero, List.set_cons_succ]; rfl) (by simp only [Act.put, List.setIfInBounds_toArray, List.set_cons_zero, List.set_cons_succ]; rfl) (by simp only [Act.put, List.setIfInBounds_toArray, List.set_cons_zero, List.set_cons_succ]; rfl) (by simp only [Act.put, List.setIfInBounds_toArray, List.set_cons_zero, List.set_cons_succ]; rfl)
            (by exact yieldsIf_load_mid (by rfl) _ _ rfl w.heap.size 0 rfl (old.map u8) _ (fun W' hW' => range_kept (unhide HRO) hW' (by simp; omega)) Tryd.underlying23 rfl (unhide HSL))
            (by exact yieldsIf_load_mid (by rfl) _ _ rfl w.heap.size 0 rfl (old.map u8) _ (fun W' hW' => range_kept (unhide HRO) hW' (by simp; omega)) Tryd.underlying23 rfl (unhide HSL))
            23 23 _ _ _ _ rfl rfl (brow old) (brow old) (zb 32) (zb 32) 23 23 (by omega)
            (by rfl) (by rfl) (unhide HZN) (by rw [brow_size, hol]; exact Tryd.size_dig) (by rw [zb_size, brow_size, hol]) (brow_one _)
            (by rfl) (by rfl) (unhide HYN) (by rw [brow_size, hol]; exact Tryd.size_dig) (by rw [zb_size, brow_size, hol]) (brow_one _)
            (by exact Or.inl ⟨by rfl, fun W' hW' => by go_simp⟩) ?_
          intro w9 k9
          have HH := hide (two_heaps k9 (unhide HZN) (unhide HYN) (by omega) (brow old) (brow old))
          have HK9 := hide ((((unhide HK0).trans k9 (by simp)).setRow (g := w.heap.size + 1) (Or.inr (by omega)) (brow old)).setRow (g := w.heap.size + 1 + 1) (Or.inr (by omega)) (brow old))
          clear k9
          go_wp2_with fail
          refine bodyPost_ret (v := .tuple #[.agg (brow old), .agg (brow old), .bool false]) ?_ rfl ⟨old, old, by rw [unhide HBV], ho, ho, (fun y hy => by rw [unhide HC] at hy; cases hy), unhide HK9⟩
          exact results_cell_cell_tmp rfl _ _ (w.heap.size + 1) (w.heap.size + 1 + 1) _ _ (brow old) (brow old) (0, 0) (0, 0) _ _ rfl (unhide HH).1 rfl (unhide HH).2 Tryd.underlying23 rfl (by rw [brow_size, hol]; exact Tryd.size_dig) Tryd.underlying23 rfl (by rw [brow_size, hol]; exact Tryd.size_dig) _ rfl
    · have h1' : ((m : Int) == n) = false := by simp; omega
      have hne : (((r.length : Int) + 1) == 0) = false := by simp; omega
      go_wp2_with fail
      refine Calls.mono (ended_any _ (x :: r).reverse r x _ ((unhide HP).old (unhide HK0)) (by simp)) ?_
      rintro e w1 ⟨u1, rfl, d1, k1⟩
      have HD1 := hide d1
      have HG1 := hide (k1.heap (unhide HGL) (by simp))
      have HZ1 := hide (k1.heap (unhide HGZ) (by simp))
      have HY1 := hide (k1.heap (unhide HGY) (by simp))
      have HK1 := hide ((unhide HK0).trans k1 (by simp))
      obtain ⟨a1, n1, c1, rfl, _⟩ := id d1
      clear d1 k1 HGL HGZ HGY
      have HNE0 := hide (by have h8 := lt_of_heap (unhide HY1); omega : w1.heap.size ≠ w.heap.size + 1 ∧ w1.heap.size ≠ w.heap.size + 1 + 1)
      have HXW := hide (setRow_heap (w1.alloc (.cells (zb 32) 23)) w1.heap.size (zb 32) (brow x) 23 (0, 0) (heap_alloc_new _ _))
      have k2 := ((Kept.refl [] w1).alloc (.cells (zb 32) 23)).setRow (g := w1.heap.size) (Or.inr (Nat.le_refl _)) (brow x)
      have HSX := hide (by rw [brow_size, hxl]; exact Tryd.size_dig : (Tryd.prog.info? 23).map (·.size) = some (brow x).size)
      have HSXL := hide (by rw [List.length_map, hxl]; exact Tryd.size_dig : (Tryd.prog.info? 23).map (·.size) = some (x.map u8).length)
      have HSL := hide (by rw [List.length_map, hol]; exact Tryd.size_dig : (Tryd.prog.info? 23).map (·.size) = some (old.map u8).length)
      have HD2 := hide ((unhide HD1).old k2)
      have HG2 := hide (k2.heap (unhide HG1) (by simp))
      have HZ2 := hide (k2.heap (unhide HZ1) (by simp))
      have HY2 := hide (k2.heap (unhide HY1) (by simp))
      have HK2 := hide ((unhide HK1).trans k2 (by simp))
      clear k2 HD1 HG1 HZ1 HY1
      go_wp2_with (rw [zb32]; refine wpList_store_row rfl 23 _ _ rfl w1.heap.size (brow x) rfl rfl _ (zb 32) (heap_alloc_new _ _) (unhide HSX) (by rw [zb_size, brow_size, hxl]) (brow_one _) ?_)
      refine Calls.mono (refSplit_any n _ (by omega) hn) ?_
      rintro e w3 ⟨rfl, k3⟩
      have HX3 := hide (k3.heap (unhide HXW) (by simp))
      have HD3 := hide ((unhide HD2).old k3)
      have HG3 := hide (k3.heap (unhide HG2) (by simp))
      have HZ3 := hide (k3.heap (unhide HZ2) (by simp))
      have HY3 := hide (k3.heap (unhide HY2) (by simp))
      have HK3 := hide ((unhide HK2).trans k3 (by simp))
      clear k3 HXW HD2 HG2 HZ2 HY2
      have hk1 := spl_pos n
      have hk2 := spl_lt (n := n) (by omega)
      have HK12 := hide (unhide HK1).size
      have HNE := hide (unhide HNE0)
      by_cases hik : m ≤ spl n
      · have hik' : (m : Int) ≤ (spl n : Nat) := by omega
        have HC := hide (by rw [← unhide HFF]; conv => lhs; unfold twD; rw [if_neg h1, if_pos hik] : F = (twD k old r m (spl n) b).map (fun y => (y.1, nodS k y.2 x)))
        have IH := fun (w' : World) (h' : RdD w' (.slice a1 n1 c1) r.reverse) => ih m (spl n) b (.slice a1 n1 c1) w' hm1 hik (by omega) h'
        generalize twD k old r m (spl n) b = O at HC IH
        go_wp2_with (refine wpList_load_mid rfl 23 _ rfl w.heap.size 0 rfl (old.map u8) _ (range_row (unhide HG3)) Tryd.underlying23 rfl (unhide HSL) ?_)
        refine Calls.mono (IH _ (unhide HD3)) ?_
        rintro e w4 ⟨d4, d5, rfl, g4, g5, q4, k4⟩
        have H4 := hide g4
        have H5' := hide g5
        have HQ := hide q4
        have hl4 := g4.1
        have hl5 := g5.1
        have HS4 := hide (by rw [List.length_map, hl4]; exact Tryd.size_dig : (Tryd.prog.info? 23).map (·.size) = some (d4.map u8).length)
        have HS5 := hide (by rw [List.length_map, hl5]; exact Tryd.size_dig : (Tryd.prog.info? 23).map (·.size) = some (d5.map u8).length)
        have HA0 := hide (((Kept.refl [] (w4.alloc (.cells (zb 32) 23))).alloc (.cells (zb 32) 23)).heap (heap_alloc_new w4 (.cells (zb 32) 23)) (by simp))
        have HB0 := hide ((setRow_other ((w4.alloc (.cells (zb 32) 23)).alloc (.cells (zb 32) 23)) w4.heap.size (w4.heap.size + 1) (brow d4) (by omega)).trans (alloc_at w4 (.cells (zb 32) 23) (.cells (zb 32) 23)))
        have kab := ((((Kept.refl [] w4).alloc (.cells (zb 32) 23)).alloc (.cells (zb 32) 23)).setRow (g := w4.heap.size) (Or.inr (Nat.le_refl _)) (brow d4)).setRow (g := w4.heap.size + 1) (Or.inr (by omega)) (brow d5)
        have HA1 := hide (range_row ((setRow_other (((w4.alloc (.cells (zb 32) 23)).alloc (.cells (zb 32) 23)).setRow w4.heap.size (brow d4)) (w4.heap.size + 1) w4.heap.size (brow d5) (by omega)).trans (setRow_heap _ _ _ (brow d4) _ _ (unhide HA0))))
        have HB1 := hide (range_row (setRow_heap (((w4.alloc (.cells (zb 32) 23)).alloc (.cells (zb 32) 23)).setRow w4.heap.size (brow d4)) _ _ (brow d5) _ _ (unhide HB0)))
        have kk := k4.trans kab (by simp)
        have HZN := hide (kk.heap (unhide HZ3) (by simp))
        have HYN := hide (kk.heap (unhide HY3) (by simp))
        have HXN := hide (range_row (kk.heap (unhide HX3) (by simp)))
        have HKN := hide ((unhide HK3).trans kk (by simp))
        have hsz1 := (unhide HK12)
        have hsz4 : w.heap.size + 1 + 1 < w4.heap.size := by have := lt_of_heap (k4.heap (unhide HY3) (by simp)); omega
        have hszx : w1.heap.size ≠ w.heap.size + 1 ∧ w1.heap.size ≠ w.heap.size + 1 + 1 := unhide HNE
        clear k4 kab kk g4 g5 q4 HZ3 HY3 HX3 HD3 HG3 IH
        go_wp2_with (first
          | (rw [zb32]; refine wpList_store_row rfl 23 _ _ rfl w4.heap.size (brow d4) rfl rfl _ (zb 32) (unhide HA0) (by rw [brow_size, hl4]; exact Tryd.size_dig) (by rw [zb_size, brow_size, hl4]) (brow_one _) ?_)
          | (refine wpList_store_row rfl 23 _ _ rfl (w4.heap.size + 1) (brow d5) rfl rfl _ (zb 32) (unhide HB0) (by rw [brow_size, hl5]; exact Tryd.size_dig) (by rw [zb_size, brow_size, hl5]) (brow_one _) ?_))
        obtain ⟨Y, hY⟩ : ∃ Y, (((w4.alloc (.cells (zb 32) 23)).alloc (.cells (zb 32) 23)).setRow w4.heap.size (brow d4)).setRow (w4.heap.size + 1) (brow d5) = Y := ⟨_, rfl⟩
        rw [hY] at HA1 HB1 HZN HYN HXN HKN ⊢
        clear hY HA0 HB0
        have HBV := hide (by rw [unhide HC]; cases O <;> rfl : F.isSome = O.isSome)
        refine wp_r9c (w.heap.size + 1) (w.heap.size + 1 + 1) (by kernel_rfl) (by kernel_rfl) (by kernel_rfl) (by kernel_rfl) (by kernel_rfl) (by kernel_rfl) (by kernel_rfl) (by kernel_rfl) (by kernel_rfl) (by kernel_rfl) (by kernel_rfl) (by kernel_rfl) (by kernel_rfl) (by kernel_rfl) (by kernel_rfl) (by kernel_rfl) (by kernel_rfl) (by kernel_rfl) rfl rfl rfl
          (.agg (d4.map u8).toArray) (.int .i64 (k : Int)) (.agg (d5.map u8).toArray) (.agg (x.map u8).toArray) (.bool O.isSome) (.agg (brow (nodS k d5 x))) (.bool O.isSome) _ _ _ _ _ _ _ _ _ (by simp only [Act.put, List.setIfInBounds_toArray, List.set_cons_zero, List.set_cons_succ]; rfl) (by simp only [Act.put, List.setIfInBounds_toArray, List.set_cons_zero, List.set_cons_succ]; rfl) (by simp only [Act.put, List.setIfInBounds_toArray, List.set_cons_zero, List.set_cons_succ]; rfl) (by simp only [Act.put, List.setIfInBounds_toArray, List.set_cons_zero, List.set_cons_succ]; rfl) (by simp only [Act.put, List.setIfInBounds_toArray, List.set_cons_zero, List.set_cons_succ]; rfl) (by simp only [Act.put, List.setIfInBounds_toArray, List.set_cons_zero, List.set_cons_succ]; rfl) (by simp only [Act.put, List.setIfInBounds_toArray, List.set_cons_zero, List.set_cons_succ]; rfl) (by simp only [Act.put, List.setIfInBounds_toArray, List.set_cons_zero, List.set_cons_succ]; rfl) (by simp only [Act.put, List.setIfInBounds_toArray, List.set_cons_zero, List.set_cons_succ]; rfl)
          (by exact yieldsIf_load_mid (by rfl) _ _ rfl w4.heap.size 0 rfl (d4.map u8) _ (fun W' hW' => range_kept (unhide HA1) hW' (by simp; omega)) Tryd.underlying23 rfl (unhide HS4))
          (by exact Or.inl ⟨by rfl, fun W' hW' => by go_simp⟩)
          (by exact yieldsIf_load_mid (by rfl) _ _ rfl (w4.heap.size + 1) 0 rfl (d5.map u8) _ (fun W' hW' => range_kept (unhide HB1) hW' (by simp; omega)) Tryd.underlying23 rfl (unhide HS5))
          (by exact yieldsIf_load_mid (by rfl) _ _ rfl w1.heap.size 0 rfl (x.map u8) _ (fun W' hW' => range_kept (unhide HXN) hW' (by simp; omega)) Tryd.underlying23 rfl (unhide HSXL))
          (by exact Or.inl ⟨by rfl, fun W' hW' => by go_simp⟩)
          (by intro w0 hk0 K hK; exact wp_node (.tmp 76) (.tmp 77) (.tmp 78) _ rfl k d5 x rfl rfl rfl hk (unhide H5') (unhide HX) hK)
          23 23 _ _ _ _ rfl rfl (brow d4) (brow (nodS k d5 x)) (zb 32) (zb 32) 23 23 (by omega)
          (by rfl) (by rfl) (unhide HZN) (by rw [brow_size, hl4]; exact Tryd.size_dig) (by rw [zb_size, brow_size, hl4]) (brow_one _)
          (by rfl) (by rfl) (unhide HYN) (by rw [brow_size, (nodS_dg k d5 x).1]; exact Tryd.size_dig) (by rw [zb_size, brow_size, (nodS_dg k d5 x).1]) (brow_one _)
          (by exact Or.inl ⟨by rfl, fun W' hW' => by go_simp⟩) ?_
        intro w9 k9
        have HH := hide (two_heaps k9 (unhide HZN) (unhide HYN) (by omega) (brow d4) (brow (nodS k d5 x)))
        have HK9 := hide ((((unhide HKN).trans k9 (by simp)).setRow (g := w.heap.size + 1) (Or.inr (by omega)) (brow d4)).setRow (g := w.heap.size + 1 + 1) (Or.inr (by omega)) (brow (nodS k d5 x)))
        clear k9
        go_wp2_with fail
        refine bodyPost_ret (v := .tuple #[.agg (brow d4), .agg (brow (nodS k d5 x)), .bool O.isSome]) ?_ rfl ⟨d4, (nodS k d5 x), by rw [unhide HBV], (unhide H4), (nodS_dg k d5 x), (fun y hy => by rw [unhide HC] at hy; obtain ⟨u, hu, rfl⟩ := Option.map_eq_some_iff.1 hy; have h9 := unhide HQ u hu; rw [← h9]), unhide HK9⟩
        exact results_cell_cell_tmp rfl _ _ (w.heap.size + 1) (w.heap.size + 1 + 1) _ _ (brow d4) (brow (nodS k d5 x)) (0, 0) (0, 0) _ _ rfl (unhide HH).1 rfl (unhide HH).2 Tryd.underlying23 rfl (by rw [brow_size, hl4]; exact Tryd.size_dig) Tryd.underlying23 rfl (by rw [brow_size, (nodS_dg k d5 x).1]; exact Tryd.size_dig) _ rfl
      · have hik' : ¬ (m : Int) ≤ (spl n : Nat) := by omega
        have hs1 : ((m : Int) - (spl n : Nat)) = ((m - spl n : Nat) : Int) := by omega
        have hs2 : ((n : Int) - (spl n : Nat)) = ((n - spl n : Nat) : Int) := by omega
        have hb1 : ((spl n : Nat) : Int) ≤ m := by omega
        have hb2 : ((spl n : Nat) : Int) ≤ n := by omega
        have HC := hide (by rw [← unhide HFF]; conv => lhs; unfold twD; rw [if_neg h1, if_neg hik] : F = (twD k old r (m - spl n) (n - spl n) false).map (fun y => (nodS k x y.1, nodS k x y.2)))
        have IH := fun (w' : World) (h' : RdD w' (.slice a1 n1 c1) r.reverse) => ih (m - spl n) (n - spl n) false (.slice a1 n1 c1) w' (by omega) (by omega) (by omega) h'
        generalize twD k old r (m - spl n) (n - spl n) false = O at HC IH
        go_wp2_with (refine wpList_load_mid rfl 23 _ rfl w.heap.size 0 rfl (old.map u8) _ (range_row (unhide HG3)) Tryd.underlying23 rfl (unhide HSL) ?_)
        refine Calls.mono (IH _ (unhide HD3)) ?_
        rintro e w4 ⟨d4, d5, rfl, g4, g5, q4, k4⟩
        have H4 := hide g4
        have H5' := hide g5
        have HQ := hide q4
        have hl4 := g4.1
        have hl5 := g5.1
        have HS4 := hide (by rw [List.length_map, hl4]; exact Tryd.size_dig : (Tryd.prog.info? 23).map (·.size) = some (d4.map u8).length)
        have HS5 := hide (by rw [List.length_map, hl5]; exact Tryd.size_dig : (Tryd.prog.info? 23).map (·.size) = some (d5.map u8).length)
        have HA0 := hide (((Kept.refl [] (w4.alloc (.cells (zb 32) 23))).alloc (.cells (zb 32) 23)).heap (heap_alloc_new w4 (.cells (zb 32) 23)) (by simp))
        have HB0 := hide ((setRow_other ((w4.alloc (.cells (zb 32) 23)).alloc (.cells (zb 32) 23)) w4.heap.size (w4.heap.size + 1) (brow d4) (by omega)).trans (alloc_at w4 (.cells (zb 32) 23) (.cells (zb 32) 23)))
        have kab := ((((Kept.refl [] w4).alloc (.cells (zb 32) 23)).alloc (.cells (zb 32) 23)).setRow (g := w4.heap.size) (Or.inr (Nat.le_refl _)) (brow d4)).setRow (g := w4.heap.size + 1) (Or.inr (by omega)) (brow d5)
        have HA1 := hide (range_row ((setRow_other (((w4.alloc (.cells (zb 32) 23)).alloc (.cells (zb 32) 23)).setRow w4.heap.size (brow d4)) (w4.heap.size + 1) w4.heap.size (brow d5) (by omega)).trans (setRow_heap _ _ _ (brow d4) _ _ (unhide HA0))))
        have HB1 := hide (range_row (setRow_heap (((w4.alloc (.cells (zb 32) 23)).alloc (.cells (zb 32) 23)).setRow w4.heap.size (brow d4)) _ _ (brow d5) _ _ (unhide HB0)))
        have kk := k4.trans kab (by simp)
        have HZN := hide (kk.heap (unhide HZ3) (by simp))
        have HYN := hide (kk.heap (unhide HY3) (by simp))
        have HXN := hide (range_row (kk.heap (unhide HX3) (by simp)))
        have HKN := hide ((unhide HK3).trans kk (by simp))
        have hsz1 := (unhide HK12)
        have hsz4 : w.heap.size + 1 + 1 < w4.heap.size := by have := lt_of_heap (k4.heap (unhide HY3) (by simp)); omega
        have hszx : w1.heap.size ≠ w.heap.size + 1 ∧ w1.heap.size ≠ w.heap.size + 1 + 1 := unhide HNE
        clear k4 kab kk g4 g5 q4 HZ3 HY3 HX3 HD3 HG3 IH
        go_wp2_with (first
          | (rw [zb32]; refine wpList_store_row rfl 23 _ _ rfl w4.heap.size (brow d4) rfl rfl _ (zb 32) (unhide HA0) (by rw [brow_size, hl4]; exact Tryd.size_dig) (by rw [zb_size, brow_size, hl4]) (brow_one _) ?_)
          | (refine wpList_store_row rfl 23 _ _ rfl (w4.heap.size + 1) (brow d5) rfl rfl _ (zb 32) (unhide HB0) (by rw [brow_size, hl5]; exact Tryd.size_dig) (by rw [zb_size, brow_size, hl5]) (brow_one _) ?_))
        obtain ⟨Y, hY⟩ : ∃ Y, (((w4.alloc (.cells (zb 32) 23)).alloc (.cells (zb 32) 23)).setRow w4.heap.size (brow d4)).setRow (w4.heap.size + 1) (brow d5) = Y := ⟨_, rfl⟩
        rw [hY] at HA1 HB1 HZN HYN HXN HKN ⊢
        clear hY HA0 HB0
        have HBV := hide (by rw [unhide HC]; cases O <;> rfl : F.isSome = O.isSome)
        refine wp_r12c (w.heap.size + 1) (w.heap.size + 1 + 1) (by kernel_rfl) (by kernel_rfl) (by kernel_rfl) (by kernel_rfl) (by kernel_rfl) (by kernel_rfl) (by kernel_rfl) (by kernel_rfl) (by kernel_rfl) (by kernel_rfl) (by kernel_rfl) (by kernel_rfl) (by kernel_rfl) (by kernel_rfl) (by kernel_rfl) (by kernel_rfl) (by kernel_rfl) (by kernel_rfl) (by kernel_rfl) (by kernel_rfl) (by kernel_rfl) (by kernel_rfl) (by kernel_rfl) rfl rfl rfl rfl
          (.int .i64 (k : Int)) (.agg (x.map u8).toArray) (.agg (d4.map u8).toArray) (.int .i64 (k : Int)) (.agg (x.map u8).toArray) (.agg (d5.map u8).toArray) (.bool O.isSome) (.agg (brow (nodS k x d4))) (.agg (brow (nodS k x d5))) (.bool O.isSome) _ _ _ _ _ _ _ _ _ _ _ _ (by simp only [Act.put, List.setIfInBounds_toArray, List.set_cons_zero, List.set_cons_succ]; rfl) (by simp only [Act.put, List.setIfInBounds_toArray, List.set_cons_zero, List.set_cons_succ]; rfl) (by simp only [Act.put, List.setIfInBounds_toArray, List.set_cons_zero, List.set_cons_succ]; rfl) (by simp only [Act.put, List.setIfInBounds_toArray, List.set_cons_zero, List.set_cons_succ]; rfl) (by simp only [Act.put, List.setIfInBounds_toArray, List.set_cons_zero, List.set_cons_succ]; rfl) (by simp only [Act.put, List.setIfInBounds_toArray, List.set_cons_zero, List.set_cons_succ]; rfl) (by simp only [Act.put, List.setIfInBounds_toArray, List.set_cons_zero, List.set_cons_succ]; rfl) (by simp only [Act.put, List.setIfInBounds_toArray, List.set_cons_zero, List.set_cons_succ]; rfl) (by simp only [Act.put, List.setIfInBounds_toArray, List.set_cons_zero, List.set_cons_succ]; rfl) (by simp only [Act.put, List.setIfInBounds_toArray, List.set_cons_zero, List.set_cons_succ]; rfl) (by simp only [Act.put, List.setIfInBounds_toArray, List.set_cons_zero, List.set_cons_succ]; rfl) (by simp only [Act.put, List.setIfInBounds_toArray, List.set_cons_zero, List.set_cons_succ]; rfl)
          (by exact Or.inl ⟨by rfl, fun W' hW' => by go_simp⟩)
          (by exact yieldsIf_load_mid (by rfl) _ _ rfl w1.heap.size 0 rfl (x.map u8) _ (fun W' hW' => range_kept (unhide HXN) hW' (by simp; omega)) Tryd.underlying23 rfl (unhide HSXL))
          (by exact yieldsIf_load_mid (by rfl) _ _ rfl w4.heap.size 0 rfl (d4.map u8) _ (fun W' hW' => range_kept (unhide HA1) hW' (by simp; omega)) Tryd.underlying23 rfl (unhide HS4))
          (by exact Or.inl ⟨by rfl, fun W' hW' => by go_simp⟩)
          (by exact yieldsIf_load_mid (by rfl) _ _ rfl w1.heap.size 0 rfl (x.map u8) _ (fun W' hW' => range_kept (unhide HXN) hW' (by simp; omega)) Tryd.underlying23 rfl (unhide HSXL))
          (by exact yieldsIf_load_mid (by rfl) _ _ rfl (w4.heap.size + 1) 0 rfl (d5.map u8) _ (fun W' hW' => range_kept (unhide HB1) hW' (by simp; omega)) Tryd.underlying23 rfl (unhide HS5))
          (by exact Or.inl ⟨by rfl, fun W' hW' => by go_simp⟩)
          (by intro w0 hk0 K hK; exact wp_node (.tmp 95) (.tmp 96) (.tmp 97) _ rfl k x d4 rfl rfl rfl hk (unhide HX) (unhide H4) hK)
          (by intro w0 hk0 K hK; exact wp_node (.tmp 99) (.tmp 100) (.tmp 101) _ rfl k x d5 rfl rfl rfl hk (unhide HX) (unhide H5') hK)
          23 23 _ _ _ _ rfl rfl (brow (nodS k x d4)) (brow (nodS k x d5)) (zb 32) (zb 32) 23 23 (by omega)
          (by rfl) (by rfl) (unhide HZN) (by rw [brow_size, (nodS_dg k x d4).1]; exact Tryd.size_dig) (by rw [zb_size, brow_size, (nodS_dg k x d4).1]) (brow_one _)
          (by rfl) (by rfl) (unhide HYN) (by rw [brow_size, (nodS_dg k x d5).1]; exact Tryd.size_dig) (by rw [zb_size, brow_size, (nodS_dg k x d5).1]) (brow_one _)
          (by exact Or.inl ⟨by rfl, fun W' hW' => by go_simp⟩) ?_
        intro w9 k9
        have HH := hide (two_heaps k9 (unhide HZN) (unhide HYN) (by omega) (brow (nodS k x d4)) (brow (nodS k x d5)))
        have HK9 := hide ((((unhide HKN).trans k9 (by simp)).setRow (g := w.heap.size + 1) (Or.inr (by omega)) (brow (nodS k x d4))).setRow (g := w.heap.size + 1 + 1) (Or.inr (by omega)) (brow (nodS k x d5)))
        clear k9
        go_wp2_with fail
        refine bodyPost_ret (v := .tuple #[.agg (brow (nodS k x d4)), .agg (brow (nodS k x d5)), .bool O.isSome]) ?_ rfl ⟨(nodS k x d4), (nodS k x d5), by rw [unhide HBV], (nodS_dg k x d4), (nodS_dg k x d5), (fun y hy => by rw [unhide HC] at hy; obtain ⟨u, hu, rfl⟩ := Option.map_eq_some_iff.1 hy; have h9 := unhide HQ u hu; rw [← h9]), unhide HK9⟩
        exact results_cell_cell_tmp rfl _ _ (w.heap.size + 1) (w.heap.size + 1 + 1) _ _ (brow (nodS k x d4)) (brow (nodS k x d5)) (0, 0) (0, 0) _ _ rfl (unhide HH).1 rfl (unhide HH).2 Tryd.underlying23 rfl (by rw [brow_size, (nodS_dg k x d4).1]; exact Tryd.size_dig) Tryd.underlying23 rfl (by rw [brow_size, (nodS_dg k x d5).1]; exact Tryd.size_dig) _ rfl
end Go.Proofs.YtbljofojeagdkaaDoor
namespace Go.Proofs.YtbljofojeagdkaaDoor
open Go.RowKit Go.BigFrame
set_option linter.unusedVariables false
set_option linter.unusedSimpArgs false

set_option maxRecDepth 100000 in
set_option maxHeartbeats 2000000 in
theorem docRootsOf_any (z : Int) (m n : Nat) (leaf : List Nat) (pv : Value) (p : List (List Nat)) (w : World) (hz : -9223372036854775808 ≤ z ∧ z ≤ 9223372036854775807) (hl : Dg leaf) (hi : m < 18446744073709551616) (hn : n < 18446744073709551616) (hp : RdD w pv p) (hpl : p.length ≤ 1048576) :
    Calls Tryd.prog 12 #[.int .i64 z, .int .u64 m, .int .u64 n, .agg (brow leaf), pv] w fun e w' => e = .returned (.tuple #[.agg (brow (rootsD z leaf m n p).1), .agg (brow (rootsD z leaf m n p).2), .int .i64 (rootsE z leaf m n p)]) ∧ Kept [] w w' := by
  have HP := hide hp
  have hdg := rootsD_dg (z := z) (m := m) (n := n) hl (fun d hd => hp.dg hd)
  obtain ⟨ao, len, cap, rfl, h1, h2, h3, h4, h5⟩ := hp
  clear h4 h5
  subst h1
  have HL := hide hl
  have hll := hl.1
  obtain ⟨D, hD⟩ : ∃ D, rootsD z leaf m n p = D := ⟨_, rfl⟩
  obtain ⟨E, hE⟩ : ∃ E, rootsE z leaf m n p = E := ⟨_, rfl⟩
  have HD := hide hD
  have HE := hide hE
  rw [hD] at hdg
  rw [hD, hE]
  clear hD hE
  obtain ⟨D1, D2⟩ := D
  have hd1 := hdg.1.1
  have hd2 := hdg.2.1
  simp only at hd1 hd2 ⊢
  clear hdg
  go_enter Tryd.func12, Tryd.ntmps12
  have HGL := hide ((((Kept.refl [] (w.alloc (.cells (brow leaf) 23))).alloc (.cells (zb 32) 23)).alloc (.cells (zb 32) 23)).heap (heap_alloc_new w (.cells (brow leaf) 23)) (by simp))
  have HGZ := hide (((Kept.refl [] ((w.alloc (.cells (brow leaf) 23)).alloc (.cells (zb 32) 23))).alloc (.cells (zb 32) 23)).heap (alloc_at w (.cells (brow leaf) 23) (.cells (zb 32) 23)) (by simp))
  have HGY := hide (alloc3_at w (.cells (brow leaf) 23) (.cells (zb 32) 23) (.cells (zb 32) 23))
  have HK0 := hide ((((Kept.refl [] w).alloc (.cells (brow leaf) 23)).alloc (.cells (zb 32) 23)).alloc (.cells (zb 32) 23))
  obtain ⟨W0, hW0⟩ : ∃ W0, ((w.alloc (.cells (brow leaf) 23)).alloc (.cells (zb 32) 23)).alloc (.cells (zb 32) 23) = W0 := ⟨_, rfl⟩
  have hsz : w.heap.size + 1 + 1 + 1 = W0.heap.size := by rw [← hW0]; simp
  have HLIT := hide (own_lit1 W0 leaf hll)
  rw [hW0] at HGL HGZ HGY HK0
  have k0 := (Kept.refl [] W0).alloc (.cells (brow leaf) 23)
  have HK00 := hide k0
  have HP0 := hide ((unhide HP).old ((unhide HK0).trans k0 (by simp)))
  clear k0
  go_wp2_with (first
    | (rw [zb32, hW0]; refine wpList_load_mid rfl 23 _ rfl w.heap.size 0 rfl (leaf.map u8) _ (range_row (unhide HGL)) Tryd.underlying23 rfl (by rw [List.length_map, hll]; exact Tryd.size_dig) ?_)
    | (at_builtin; rw [zb32, one_dig leaf hll]; refine wpList_appendD rfl (.tmp 19) (.tmp 20) rfl rfl _ W0.heap.size (.slice (some ⟨W0.heap.size, 0, none⟩) 1 1) [leaf] p ao p.length cap (by exact unhide HLIT) (by exact unhide HP0) (by simp; omega) (by simp) rfl rfl ?_; intro ao1 cap1 w1 HO1 HG1; have HKG := hide ((unhide HK00).grown (unhide HG1) (by intro k hk; right; simp [Value.ownBlock] at hk; omega)); clear HG1))
  have HR1 := hide (rdd_owns (unhide HO1) (fun d hd => by rcases List.mem_append.1 hd with h | h; simp at h; subst h; exact unhide HL; exact (unhide HP).dg h))
  have HK1' := hide ((unhide HK0).trans (unhide HKG) (by simp))
  have HL1' := hide ((unhide HKG).heap (unhide HGL) (by simp))
  have HZ1' := hide ((unhide HKG).heap (unhide HGZ) (by simp))
  have HY1' := hide ((unhide HKG).heap (unhide HGY) (by simp))
  clear HGL HGZ HGY HO1 HKG HLIT HK00 HP0 hW0
  refine Calls.mono (refCheck_any z _ ([leaf] ++ p) _ hz (unhide HR1)) ?_
  rintro e w2 ⟨rfl, k2⟩
  have HK1 := hide ((unhide HK1').trans k2 (by simp))
  have HL1 := hide (k2.heap (unhide HL1') (by simp))
  have HZ1 := hide (k2.heap (unhide HZ1') (by simp))
  have HY1 := hide (k2.heap (unhide HY1') (by simp))
  clear k2 HK1' HL1' HZ1' HY1' HR1
  obtain ⟨f, hf⟩ : ∃ f, formedE z ([leaf] ++ p) = f := ⟨_, rfl⟩
  have HF := hide (show formedE z (leaf :: p) = f from hf)
  rw [hf]
  clear hf
  by_cases hf0 : f = 0
  · subst hf0
    obtain ⟨hw, hff⟩ := formedE_zero (unhide HF)
    by_cases hr : m = 0 ∨ n ≤ m
    · have HC := hide (by rw [← unhide HE, ← unhide HD]; exact rootsE_r (unhide HF) hr : E = 4 ∧ (D1, D2) = (zD, zD))
      have HYD := hide ((setRow_other w2 (w.heap.size + 1) (w.heap.size + 1 + 1) (zb 32) (by omega)).trans (unhide HY1))
      have HKK := hide (((unhide HK1).setRow (g := w.heap.size + 1) (Or.inr (by omega)) (zb 32)).setRow (g := w.heap.size + 1 + 1) (Or.inr (by omega)) (zb 32))
      have HZR := hide ((setRow_other (w2.setRow (w.heap.size + 1) (zb 32)) (w.heap.size + 1 + 1) (w.heap.size + 1) (zb 32) (by omega)).trans (setRow_heap w2 _ _ (zb 32) _ _ (unhide HZ1)))
      have HYR := hide (setRow_heap (w2.setRow (w.heap.size + 1) (zb 32)) _ _ (zb 32) _ _ (unhide HYD))
      by_cases hm0 : m = 0
      · have hr1 : (m : Int) < 1 := by omega
        have hrd : decide ((m : Int) < 1) = true := by simp; omega
        go_wp2_with (first
          | (rw [zb32]; refine wpList_store_row rfl 23 (.tmp 10) _ rfl (w.heap.size + 1) (zb 32) rfl rfl _ (zb 32) (unhide HZ1) (by rw [zb_size]; exact Tryd.size_dig) rfl (brow_one _) ?_)
          | (refine wpList_store_row rfl 23 (.tmp 11) _ rfl (w.heap.size + 1 + 1) (zb 32) rfl rfl _ (zb 32) (unhide HYD) (by rw [zb_size]; exact Tryd.size_dig) rfl (brow_one _) ?_))
        rw [(unhide HC).1]
        have HC1 := hide (Prod.mk.inj (unhide HC).2).1
        have HC2 := hide (Prod.mk.inj (unhide HC).2).2
        rw [unhide HC1, unhide HC2]
        refine bodyPost_ret (v := .tuple #[.agg (zb 32), .agg (zb 32), .int .i64 4]) ?_ rfl ⟨rfl, unhide HKK⟩
        exact results_cell_cell_tmp rfl _ _ (w.heap.size + 1) (w.heap.size + 1 + 1) _ _ (zb 32) (zb 32) (0, 0) (0, 0) _ _ rfl (unhide HZR) rfl (unhide HYR) Tryd.underlying23 rfl (by rw [zb_size]; exact Tryd.size_dig) Tryd.underlying23 rfl (by rw [zb_size]; exact Tryd.size_dig) _ rfl
      · have hr1 : ¬ (m : Int) < 1 := by omega
        have hrd : decide ((m : Int) < 1) = false := by simp; omega
        have hr2 : (n : Int) ≤ m := by omega
        have hrd2 : decide ((n : Int) ≤ m) = true := by simp; omega
        go_wp2_with (first
          | (rw [zb32]; refine wpList_store_row rfl 23 (.tmp 10) _ rfl (w.heap.size + 1) (zb 32) rfl rfl _ (zb 32) (unhide HZ1) (by rw [zb_size]; exact Tryd.size_dig) rfl (brow_one _) ?_)
          | (refine wpList_store_row rfl 23 (.tmp 11) _ rfl (w.heap.size + 1 + 1) (zb 32) rfl rfl _ (zb 32) (unhide HYD) (by rw [zb_size]; exact Tryd.size_dig) rfl (brow_one _) ?_))
        rw [(unhide HC).1]
        have HC1 := hide (Prod.mk.inj (unhide HC).2).1
        have HC2 := hide (Prod.mk.inj (unhide HC).2).2
        rw [unhide HC1, unhide HC2]
        refine bodyPost_ret (v := .tuple #[.agg (zb 32), .agg (zb 32), .int .i64 4]) ?_ rfl ⟨rfl, unhide HKK⟩
        exact results_cell_cell_tmp rfl _ _ (w.heap.size + 1) (w.heap.size + 1 + 1) _ _ (zb 32) (zb 32) (0, 0) (0, 0) _ _ rfl (unhide HZR) rfl (unhide HYR) Tryd.underlying23 rfl (by rw [zb_size]; exact Tryd.size_dig) Tryd.underlying23 rfl (by rw [zb_size]; exact Tryd.size_dig) _ rfl
    · have hr1 : ¬ (m : Int) < 1 := by omega
      have hrd : decide ((m : Int) < 1) = false := by simp; omega
      have hr2 : ¬ (n : Int) ≤ m := by omega
      have hrd2 : decide ((n : Int) ≤ m) = false := by simp; omega
      have hwd : 1 ≤ z ∧ z ≤ 32 := by simpa [widthB] using hw
      obtain ⟨k, rfl⟩ : ∃ k : Nat, z = k := ⟨z.toNat, by omega⟩
      have HC := hide (by rw [← unhide HE, ← unhide HD]; exact rootsE_c (unhide HF) hr : E = opF (twD k leaf p.reverse m n true) ∧ (D1, D2) = opP (twD k leaf p.reverse m n true))
      go_wp2_with (refine wpList_load_mid rfl 23 _ rfl w.heap.size 0 rfl (leaf.map u8) _ (range_row (unhide HL1)) Tryd.underlying23 rfl (by rw [List.length_map, hll]; exact Tryd.size_dig) ?_)
      refine Calls.mono (two_any k leaf ⟨by omega, by omega⟩ (unhide HL) p.reverse m n true _ _ (by omega) (by omega) hn (by rw [List.reverse_reverse]; exact (unhide HP).old (unhide HK1))) ?_
      rintro e w4 ⟨d4, d5, rfl, g4, g5, q4, k4⟩
      generalize twD k leaf p.reverse m n true = O at HC q4
      have HQ := hide q4
      have hl4 := g4.1
      have hl5 := g5.1
      have HS4 := hide (by rw [List.length_map, hl4]; exact Tryd.size_dig : (Tryd.prog.info? 23).map (·.size) = some (d4.map u8).length)
      have HS5 := hide (by rw [List.length_map, hl5]; exact Tryd.size_dig : (Tryd.prog.info? 23).map (·.size) = some (d5.map u8).length)
      have HA0 := hide (((Kept.refl [] (w4.alloc (.cells (zb 32) 23))).alloc (.cells (zb 32) 23)).heap (heap_alloc_new w4 (.cells (zb 32) 23)) (by simp))
      have HB0 := hide ((setRow_other ((w4.alloc (.cells (zb 32) 23)).alloc (.cells (zb 32) 23)) w4.heap.size (w4.heap.size + 1) (brow d4) (by omega)).trans (alloc_at w4 (.cells (zb 32) 23) (.cells (zb 32) 23)))
      have kab := ((((Kept.refl [] w4).alloc (.cells (zb 32) 23)).alloc (.cells (zb 32) 23)).setRow (g := w4.heap.size) (Or.inr (Nat.le_refl _)) (brow d4)).setRow (g := w4.heap.size + 1) (Or.inr (by omega)) (brow d5)
      have HA1 := hide (range_row ((setRow_other (((w4.alloc (.cells (zb 32) 23)).alloc (.cells (zb 32) 23)).setRow w4.heap.size (brow d4)) (w4.heap.size + 1) w4.heap.size (brow d5) (by omega)).trans (setRow_heap _ _ _ (brow d4) _ _ (unhide HA0))))
      have HB1 := hide (range_row (setRow_heap (((w4.alloc (.cells (zb 32) 23)).alloc (.cells (zb 32) 23)).setRow w4.heap.size (brow d4)) _ _ (brow d5) _ _ (unhide HB0)))
      have hsz4 : w.heap.size + 1 + 1 < w4.heap.size := by have := lt_of_heap (k4.heap (unhide HY1) (by simp)); omega
      have kk := k4.trans kab (by simp)
      have HZN := hide (kk.heap (unhide HZ1) (by simp))
      have HYN := hide (kk.heap (unhide HY1) (by simp))
      have HKN := hide ((unhide HK1).trans kk (by simp))
      clear g4 g5 q4 k4 kab kk HZ1 HY1 HL1
      cases O with
      | some d0 =>
        have HQ2 := hide (unhide HQ d0 rfl)
        have HE2 := hide (by rw [(unhide HC).1]; rfl : E = 0)
        have HD2 := hide (by have h9 := (unhide HC).2; rw [show opP (some d0) = d0 from rfl, ← unhide HQ2] at h9; exact h9 : (D1, D2) = (d4, d5))
        go_wp2_with (first
          | (rw [zb32]; refine wpList_store_row rfl 23 (.tmp 14) _ rfl w4.heap.size (brow d4) rfl rfl _ (zb 32) (unhide HA0) (by rw [brow_size, hl4]; exact Tryd.size_dig) (by rw [zb_size, brow_size, hl4]) (brow_one _) ?_)
          | (refine wpList_store_row rfl 23 (.tmp 15) _ rfl (w4.heap.size + 1) (brow d5) rfl rfl _ (zb 32) (unhide HB0) (by rw [brow_size, hl5]; exact Tryd.size_dig) (by rw [zb_size, brow_size, hl5]) (brow_one _) ?_))
        obtain ⟨Y, hY⟩ : ∃ Y, (((w4.alloc (.cells (zb 32) 23)).alloc (.cells (zb 32) 23)).setRow w4.heap.size (brow d4)).setRow (w4.heap.size + 1) (brow d5) = Y := ⟨_, rfl⟩
        rw [hY] at HA1 HB1 HZN HYN HKN ⊢
        clear hY HA0 HB0
        refine wp_r5 (w.heap.size + 1) (w.heap.size + 1 + 1) (by kernel_rfl) (by kernel_rfl) (by kernel_rfl) (by kernel_rfl) (by kernel_rfl) (by kernel_rfl) (by kernel_rfl) (by kernel_rfl) (by kernel_rfl) (by kernel_rfl) (by kernel_rfl) rfl rfl
          (.agg (d4.map u8).toArray) (.agg (d5.map u8).toArray) (.int .i64 0) _ _ _ _ _ (by simp only [Act.put, List.setIfInBounds_toArray, List.set_cons_zero, List.set_cons_succ]; rfl) (by simp only [Act.put, List.setIfInBounds_toArray, List.set_cons_zero, List.set_cons_succ]; rfl) (by simp only [Act.put, List.setIfInBounds_toArray, List.set_cons_zero, List.set_cons_succ]; rfl) (by simp only [Act.put, List.setIfInBounds_toArray, List.set_cons_zero, List.set_cons_succ]; rfl) (by simp only [Act.put, List.setIfInBounds_toArray, List.set_cons_zero, List.set_cons_succ]; rfl)
          (by exact yieldsIf_load_mid (by rfl) _ _ rfl w4.heap.size 0 rfl (d4.map u8) _ (fun W' hW' => range_kept (unhide HA1) hW' (by simp; omega)) Tryd.underlying23 rfl (unhide HS4))
          (by exact yieldsIf_load_mid (by rfl) _ _ rfl (w4.heap.size + 1) 0 rfl (d5.map u8) _ (fun W' hW' => range_kept (unhide HB1) hW' (by simp; omega)) Tryd.underlying23 rfl (unhide HS5))
          23 23 _ _ _ _ rfl rfl (brow d4) (brow d5) (zb 32) (zb 32) 23 23 (by omega)
          (by rfl) (by rfl) (unhide HZN) (by rw [brow_size, hl4]; exact Tryd.size_dig) (by rw [zb_size, brow_size, hl4]) (brow_one _)
          (by rfl) (by rfl) (unhide HYN) (by rw [brow_size, hl5]; exact Tryd.size_dig) (by rw [zb_size, brow_size, hl5]) (brow_one _)
          (by exact Or.inl ⟨by rfl, fun W' hW' => by go_simp⟩) ?_
        intro w9 k9
        have HH := hide (two_heaps k9 (unhide HZN) (unhide HYN) (by omega) (brow d4) (brow d5))
        have HK9 := hide ((((unhide HKN).trans k9 (by simp)).setRow (g := w.heap.size + 1) (Or.inr (by omega)) (brow d4)).setRow (g := w.heap.size + 1 + 1) (Or.inr (by omega)) (brow d5))
        clear k9
        have HDa := hide (Prod.mk.inj (unhide HD2)).1
        have HDb := hide (Prod.mk.inj (unhide HD2)).2
        go_wp2_with fail
        rw [unhide HE2, unhide HDa, unhide HDb]
        refine bodyPost_ret (v := .tuple #[.agg (brow d4), .agg (brow d5), .int .i64 0]) ?_ rfl ⟨rfl, unhide HK9⟩
        exact results_cell_cell_tmp rfl _ _ (w.heap.size + 1) (w.heap.size + 1 + 1) _ _ (brow d4) (brow d5) (0, 0) (0, 0) _ _ rfl (unhide HH).1 rfl (unhide HH).2 Tryd.underlying23 rfl (by rw [brow_size, hl4]; exact Tryd.size_dig) Tryd.underlying23 rfl (by rw [brow_size, hl5]; exact Tryd.size_dig) _ rfl
      | none =>
        have HE2 := hide (by rw [(unhide HC).1]; rfl : E = 10)
        have HD2 := hide (by rw [(unhide HC).2]; rfl : (D1, D2) = (zD, zD))
        have HDa := hide (Prod.mk.inj (unhide HD2)).1
        have HDb := hide (Prod.mk.inj (unhide HD2)).2
        have HYD := hide ((setRow_other ((((w4.alloc (.cells (zb 32) 23)).alloc (.cells (zb 32) 23)).setRow w4.heap.size (brow d4)).setRow (w4.heap.size + 1) (brow d5)) (w.heap.size + 1) (w.heap.size + 1 + 1) (zb 32) (by omega)).trans (unhide HYN))
        have HH := hide (two_heaps (Kept.refl [] _) (unhide HZN) (unhide HYN) (by omega) (zb 32) (zb 32))
        have HK9 := hide (((unhide HKN).setRow (g := w.heap.size + 1) (Or.inr (by omega)) (zb 32)).setRow (g := w.heap.size + 1 + 1) (Or.inr (by omega)) (zb 32))
        go_wp2_with (first
          | (rw [zb32]; refine wpList_store_row rfl 23 (.tmp 14) _ rfl w4.heap.size (brow d4) rfl rfl _ (zb 32) (unhide HA0) (by rw [brow_size, hl4]; exact Tryd.size_dig) (by rw [zb_size, brow_size, hl4]) (brow_one _) ?_; clear HA0)
          | (refine wpList_store_row rfl 23 (.tmp 15) _ rfl (w4.heap.size + 1) (brow d5) rfl rfl _ (zb 32) (unhide HB0) (by rw [brow_size, hl5]; exact Tryd.size_dig) (by rw [zb_size, brow_size, hl5]) (brow_one _) ?_; clear HB0)
          | (rw [zb32]; refine wpList_store_row rfl 23 (.tmp 10) _ rfl (w.heap.size + 1) (zb 32) rfl rfl _ (zb 32) (unhide HZN) (by rw [zb_size]; exact Tryd.size_dig) rfl (brow_one _) ?_)
          | (refine wpList_store_row rfl 23 (.tmp 11) _ rfl (w.heap.size + 1 + 1) (zb 32) rfl rfl _ (zb 32) (unhide HYD) (by rw [zb_size]; exact Tryd.size_dig) rfl (brow_one _) ?_))
        rw [unhide HE2, unhide HDa, unhide HDb]
        refine bodyPost_ret (v := .tuple #[.agg (zb 32), .agg (zb 32), .int .i64 10]) ?_ rfl ⟨rfl, unhide HK9⟩
        exact results_cell_cell_tmp rfl _ _ (w.heap.size + 1) (w.heap.size + 1 + 1) _ _ (zb 32) (zb 32) (0, 0) (0, 0) _ _ rfl (unhide HH).1 rfl (unhide HH).2 Tryd.underlying23 rfl (by rw [zb_size]; exact Tryd.size_dig) Tryd.underlying23 rfl (by rw [zb_size]; exact Tryd.size_dig) _ rfl
  · have hb : ((f : Int) != 0) = true := by simp; omega
    have hb2 : ((f : Int) == 0) = false := by simp; omega
    have HC := hide (by rw [← unhide HE, ← unhide HD, ← unhide HF]; exact rootsE_f (by rw [unhide HF]; exact hf0) : E = f ∧ (D1, D2) = (zD, zD))
    have HYD := hide ((setRow_other w2 (w.heap.size + 1) (w.heap.size + 1 + 1) (zb 32) (by omega)).trans (unhide HY1))
    have HKK := hide (((unhide HK1).setRow (g := w.heap.size + 1) (Or.inr (by omega)) (zb 32)).setRow (g := w.heap.size + 1 + 1) (Or.inr (by omega)) (zb 32))
    have HZR := hide ((setRow_other (w2.setRow (w.heap.size + 1) (zb 32)) (w.heap.size + 1 + 1) (w.heap.size + 1) (zb 32) (by omega)).trans (setRow_heap w2 _ _ (zb 32) _ _ (unhide HZ1)))
    have HYR := hide (setRow_heap (w2.setRow (w.heap.size + 1) (zb 32)) _ _ (zb 32) _ _ (unhide HYD))
    go_wp2_with (first
      | (rw [zb32]; refine wpList_store_row rfl 23 (.tmp 10) _ rfl (w.heap.size + 1) (zb 32) rfl rfl _ (zb 32) (unhide HZ1) (by rw [zb_size]; exact Tryd.size_dig) rfl (brow_one _) ?_)
      | (refine wpList_store_row rfl 23 (.tmp 11) _ rfl (w.heap.size + 1 + 1) (zb 32) rfl rfl _ (zb 32) (unhide HYD) (by rw [zb_size]; exact Tryd.size_dig) rfl (brow_one _) ?_))
    rw [(unhide HC).1]
    have HC1 := hide (Prod.mk.inj (unhide HC).2).1
    have HC2 := hide (Prod.mk.inj (unhide HC).2).2
    rw [unhide HC1, unhide HC2]
    refine bodyPost_ret (v := .tuple #[.agg (zb 32), .agg (zb 32), .int .i64 f]) ?_ rfl ⟨rfl, unhide HKK⟩
    exact results_cell_cell_tmp rfl _ _ (w.heap.size + 1) (w.heap.size + 1 + 1) _ _ (zb 32) (zb 32) (0, 0) (0, 0) _ _ rfl (unhide HZR) rfl (unhide HYR) Tryd.underlying23 rfl (by rw [zb_size]; exact Tryd.size_dig) Tryd.underlying23 rfl (by rw [zb_size]; exact Tryd.size_dig) _ rfl
end Go.Proofs.YtbljofojeagdkaaDoor
namespace Go.Proofs.YtbljofojeagdkaaDoor
open Go.RowKit Go.BigFrame
set_option linter.unusedVariables false
set_option linter.unusedSimpArgs false

theorem nil_of_len {p : List (List Nat)} : p = [] ↔ p.length = 0 := by cases p <;> simp

set_option maxRecDepth 100000 in
set_option maxHeartbeats 8000000 in
theorem consistency_any (z : Int) (m n : Nat) (leaf root : List Nat) (pv : Value) (p : List (List Nat)) (w : World) (hz : -9223372036854775808 ≤ z ∧ z ≤ 9223372036854775807) (hl : Dg leaf) (hr : Dg root) (hi : m < 18446744073709551616) (hn : n < 18446744073709551616) (hp : RdD w pv p) (hT : Tabs w) :
    Calls Tryd.prog 13 #[.int .i64 z, .int .u64 m, .int .u64 n, .agg (brow leaf), .agg (brow root), pv] w fun e w' => e = .returned (.int .i64 (conE z m n leaf root p)) ∧ Kept [] w w' := by
  have HP := hide hp
  obtain ⟨ao, len, cap, rfl, h1, h2, h3, h4, h5⟩ := hp
  clear h4 h5
  subst h1
  have HT := hide hT
  have HL := hide hl
  have HR := hide hr
  have hll := hl.1
  have hrl := hr.1
  have hlb := hl.2
  have hrb := hr.2
  clear hT
  obtain ⟨E, hE⟩ : ∃ E, conE z m n leaf root p = E := ⟨_, rfl⟩
  have HE := hide hE
  rw [hE]
  clear hE
  go_enter Tryd.func13, Tryd.ntmps13
  have HGL := hide (((Kept.refl [] (w.alloc (.cells (brow leaf) 23))).alloc (.cells (brow root) 23)).heap (heap_alloc_new w (.cells (brow leaf) 23)) (by simp))
  have HGR := hide (alloc_at w (.cells (brow leaf) 23) (.cells (brow root) 23))
  have HK0 := hide (((Kept.refl [] w).alloc (.cells (brow leaf) 23)).alloc (.cells (brow root) 23))
  have HSL := hide (by rw [List.length_map, hll]; exact Tryd.size_dig : (Tryd.prog.info? 23).map (·.size) = some (leaf.map u8).length)
  have HSM := hide (by rw [List.length_map, hrl]; exact Tryd.size_dig : (Tryd.prog.info? 23).map (·.size) = some (root.map u8).length)
  have hfs : ∀ A : Array Value, (List.foldl (fun cs x => cs.setIfInBounds x.snd x.fst) A (List.map u8 leaf).zipIdx).size = A.size := fun A => fold_size _ A 0
  go_wp2_with (first
    | (refine wpList_load_mid rfl 23 _ rfl w.heap.size 0 rfl (leaf.map u8) _ (range_row (unhide HGL)) Tryd.underlying23 rfl (unhide HSL) ?_)
    | (refine wpList_load_mid rfl 23 _ rfl (w.heap.size + 1) 0 rfl (root.map u8) _ (range_row (unhide HGR)) Tryd.underlying23 rfl (unhide HSM) ?_))
  rw [zb64, two_digs leaf root hll hrl]
  clear hfs
  have k0 := (Kept.refl [] ((w.alloc (.cells (brow leaf) 23)).alloc (.cells (brow root) 23))).alloc (.cells (leaf.map u8 ++ root.map u8).toArray 23)
  refine Calls.mono (mformed_any z _ _ p [leaf, root] _ hz ((unhide HP).old ((unhide HK0).trans k0 (by simp))) (RdD.two (alloc3_at _ _ _ _) hll hrl hlb hrb)) ?_
  rintro e w1 ⟨rfl, k1⟩
  have k01 := k0.trans k1 (by simp)
  have HK1 := hide ((unhide HK0).trans k01 (by simp))
  have HL1 := hide (k01.heap (unhide HGL) (by simp))
  have HR1 := hide (k01.heap (unhide HGR) (by simp))
  clear k0 k1 k01 HGL HGR
  obtain ⟨f, hf⟩ : ∃ f, formedE z ([leaf, root] ++ p) = f := ⟨_, rfl⟩
  have HF := hide (show formedE z (leaf :: root :: p) = f from hf)
  rw [hf]
  clear hf
  by_cases hf0 : f = 0
  · subst hf0
    obtain ⟨hw, hff⟩ := formedE_zero (unhide HF)
    have HWW := hide hw
    clear hff
    have HE0 := hide (by rw [← unhide HE]; unfold conE; rw [if_neg (by rw [unhide HF]; simp)] : E = if n < m then 4 else if m = n then (if p = [] ∧ leaf = root then 0 else 10) else if m = 0 then (if p = [] ∧ leaf = sumD z [] then 0 else 10) else if rootsE z leaf m n p ≠ 0 then rootsE z leaf m n p else if (rootsD z leaf m n p).1 = leaf ∧ (rootsD z leaf m n p).2 = root then 0 else 10)
    by_cases hgt : n < m
    · have hgt' : (n : Int) < m := by omega
      have HC := hide (by rw [unhide HE0, if_pos hgt] : E = 4)
      go_wp2
      go_ret
      exact ⟨by rw [unhide HC]; rfl, unhide HK1⟩
    · have hgt' : ¬ (n : Int) < m := by omega
      by_cases hmn : m = n
      · have hmn' : ((m : Int) == n) = true := by simp; omega
        have hqd : ∀ W, (Op.equalIn 10000 23 (.agg (leaf.map u8).toArray) (.agg (root.map u8).toArray)).run Tryd.prog W = .ok (decide (leaf = root)) W := fun W => dig_eq W leaf root hll hrl
        by_cases hp0 : p.length = 0
        · have hp0' : ((p.length : Int) == 0) = true := by rw [beq_iff_eq]; omega
          have HC := hide (by rw [unhide HE0, if_neg hgt, if_pos hmn]; by_cases h9 : leaf = root; rw [if_pos ⟨nil_of_len.2 hp0, h9⟩]; simp [prE, h9]; rw [if_neg (fun h => h9 h.2)]; simp [prE, h9] : E = prE (decide (leaf = root)))
          go_wp2_with (first
            | (refine wpList_load_midG rfl 23 _ rfl w.heap.size 0 rfl (leaf.map u8) _ (range_row (unhide HL1)) Tryd.underlying23 rfl (unhide HSL) ?_)
            | (refine wpList_load_midG rfl 23 _ rfl (w.heap.size + 1) 0 rfl (root.map u8) _ (range_row (unhide HR1)) Tryd.underlying23 rfl (unhide HSM) ?_))
          refine Calls.mono (proven_any (decide (leaf = root)) _) ?_
          rintro e w9 ⟨rfl, rfl⟩
          generalize hB9 : prE (decide (leaf = root)) = B9
          rw [hB9] at HC
          clear hB9
          go_wp2
          go_ret
          exact ⟨by rw [unhide HC]; rfl, unhide HK1⟩
        · have hp0' : ((p.length : Int) == 0) = false := by rw [beq_eq_false_iff_ne]; omega
          have HC := hide (by rw [unhide HE0, if_neg hgt, if_pos hmn, if_neg (fun h => hp0 (nil_of_len.1 h.1))]; rfl : E = prE false)
          go_wp2_with fail
          refine Calls.mono (proven_any false _) ?_
          rintro e w9 ⟨rfl, rfl⟩
          generalize hB9 : prE false = B9
          rw [hB9] at HC
          clear hB9
          go_wp2
          go_ret
          exact ⟨by rw [unhide HC]; rfl, unhide HK1⟩
      · have hmn' : ((m : Int) == n) = false := by simp; omega
        by_cases hm0 : m = 0
        · have hm0' : ((m : Int) == 0) = true := by simp; omega
          have hwd : 1 ≤ z ∧ z ≤ 32 := by simpa [widthB] using hw
          go_wp2_with fail
          refine Calls.mono (nolog_any z _ hz hw ((unhide HT).k (unhide HK1))) ?_
          rintro e w2 ⟨rfl, k2⟩
          have HNL := hide (by unfold sumD; rw [if_pos hw] : sumD z [] = cutL z.toNat (hash []))
          have hnl := cutL_len z.toNat (hash []) (by omega) (hash_len [])
          obtain ⟨D, hD⟩ : ∃ D, cutL z.toNat (hash []) = D := ⟨_, rfl⟩
          rw [hD] at HNL hnl ⊢
          clear hD
          have HSD := hide (by rw [List.length_map, hnl]; exact Tryd.size_dig : (Tryd.prog.info? 23).map (·.size) = some (D.map u8).length)
          have kN := ((Kept.refl [] w2).alloc (.cells (zb 32) 23)).setRow (g := w2.heap.size) (Or.inr (Nat.le_refl _)) (brow D)
          have HN3 := hide (range_row (setRow_heap (w2.alloc (.cells (zb 32) 23)) w2.heap.size (zb 32) (brow D) 23 (0, 0) (heap_alloc_new _ _)))
          have kk := k2.trans kN (by simp)
          have HL3 := hide (range_row (kk.heap (unhide HL1) (by simp)))
          have HK3 := hide ((unhide HK1).trans kk (by simp))
          clear k2 kN kk
          have hqd : ∀ W, (Op.equalIn 10000 23 (.agg (leaf.map u8).toArray) (.agg (D.map u8).toArray)).run Tryd.prog W = .ok (decide (leaf = D)) W := fun W => dig_eq W leaf D hll hnl
          by_cases hp0 : p.length = 0
          · have hp0' : ((p.length : Int) == 0) = true := by rw [beq_iff_eq]; omega
            have HC := hide (by rw [unhide HE0, if_neg hgt, if_neg hmn, if_pos hm0, unhide HNL]; by_cases h9 : leaf = D; rw [if_pos ⟨nil_of_len.2 hp0, h9⟩]; simp [prE, h9]; rw [if_neg (fun h => h9 h.2)]; simp [prE, h9] : E = prE (decide (leaf = D)))
            go_wp2_with (first
              | (rw [zb32]; refine wpList_store_row rfl 23 _ _ rfl w2.heap.size (brow D) rfl rfl _ (zb 32) (heap_alloc_new _ _) (by rw [brow_size, hnl]; exact Tryd.size_dig) (by rw [zb_size, brow_size, hnl]) (brow_one _) ?_)
              | (refine wpList_load_midG rfl 23 _ rfl w.heap.size 0 rfl (leaf.map u8) _ (unhide HL3) Tryd.underlying23 rfl (unhide HSL) ?_)
              | (refine wpList_load_midG rfl 23 _ rfl w2.heap.size 0 rfl (D.map u8) _ (unhide HN3) Tryd.underlying23 rfl (unhide HSD) ?_))
            refine Calls.mono (proven_any (decide (leaf = D)) _) ?_
            rintro e w9 ⟨rfl, rfl⟩
            generalize hB9 : prE (decide (leaf = D)) = B9
            rw [hB9] at HC
            clear hB9
            go_wp2
            go_ret
            exact ⟨by rw [unhide HC]; rfl, unhide HK3⟩
          · have hp0' : ((p.length : Int) == 0) = false := by rw [beq_eq_false_iff_ne]; omega
            have HC := hide (by rw [unhide HE0, if_neg hgt, if_neg hmn, if_pos hm0, if_neg (fun h => hp0 (nil_of_len.1 h.1))]; rfl : E = prE false)
            go_wp2_with (rw [zb32]; refine wpList_store_row rfl 23 _ _ rfl w2.heap.size (brow D) rfl rfl _ (zb 32) (heap_alloc_new _ _) (by rw [brow_size, hnl]; exact Tryd.size_dig) (by rw [zb_size, brow_size, hnl]) (brow_one _) ?_)
            refine Calls.mono (proven_any false _) ?_
            rintro e w9 ⟨rfl, rfl⟩
            generalize hB9 : prE false = B9
            rw [hB9] at HC
            clear hB9
            go_wp2
            go_ret
            exact ⟨by rw [unhide HC]; rfl, unhide HK3⟩
        · have hm0' : ((m : Int) == 0) = false := by simp; omega
          have hdg := rootsD_dg (z := z) (m := m) (n := n) (unhide HL) (fun d hd => (unhide HP).dg hd)
          go_wp2_with (refine wpList_load_mid rfl 23 _ rfl w.heap.size 0 rfl (leaf.map u8) _ (range_row (unhide HL1)) Tryd.underlying23 rfl (unhide HSL) ?_)
          refine Calls.mono (rootsOf_any z m n leaf _ p _ hz (unhide HL) hi hn ((unhide HP).old (unhide HK1)) ((unhide HT).k (unhide HK1))) ?_
          rintro e w2 ⟨rfl, k2⟩
          obtain ⟨G, hG⟩ : ∃ G, rootsE z leaf m n p = G := ⟨_, rfl⟩
          obtain ⟨D, hD⟩ : ∃ D, rootsD z leaf m n p = D := ⟨_, rfl⟩
          rw [hD] at hdg
          have HE1 := hide (by rw [unhide HE0, if_neg hgt, if_neg hmn, if_neg hm0, hG, hD] : E = if G ≠ 0 then G else if D.1 = leaf ∧ D.2 = root then 0 else 10)
          rw [hG, hD]
          clear hG hD
          obtain ⟨D1, D2⟩ := D
          have hl4 := hdg.1.1
          have hl5 := hdg.2.1
          simp only at hl4 hl5 HE1 ⊢
          have HS4 := hide (by rw [List.length_map, hl4]; exact Tryd.size_dig : (Tryd.prog.info? 23).map (·.size) = some (D1.map u8).length)
          have HS5 := hide (by rw [List.length_map, hl5]; exact Tryd.size_dig : (Tryd.prog.info? 23).map (·.size) = some (D2.map u8).length)
          have HA0 := hide (((Kept.refl [] (w2.alloc (.cells (zb 32) 23))).alloc (.cells (zb 32) 23)).heap (heap_alloc_new w2 (.cells (zb 32) 23)) (by simp))
          have HB0 := hide ((setRow_other ((w2.alloc (.cells (zb 32) 23)).alloc (.cells (zb 32) 23)) w2.heap.size (w2.heap.size + 1) (brow D1) (by omega)).trans (alloc_at w2 (.cells (zb 32) 23) (.cells (zb 32) 23)))
          have kab := ((((Kept.refl [] w2).alloc (.cells (zb 32) 23)).alloc (.cells (zb 32) 23)).setRow (g := w2.heap.size) (Or.inr (Nat.le_refl _)) (brow D1)).setRow (g := w2.heap.size + 1) (Or.inr (by omega)) (brow D2)
          have HA1 := hide (range_row ((setRow_other (((w2.alloc (.cells (zb 32) 23)).alloc (.cells (zb 32) 23)).setRow w2.heap.size (brow D1)) (w2.heap.size + 1) w2.heap.size (brow D2) (by omega)).trans (setRow_heap _ _ _ (brow D1) _ _ (unhide HA0))))
          have HB1 := hide (range_row (setRow_heap (((w2.alloc (.cells (zb 32) 23)).alloc (.cells (zb 32) 23)).setRow w2.heap.size (brow D1)) _ _ (brow D2) _ _ (unhide HB0)))
          have kk := k2.trans kab (by simp)
          have HL3 := hide (range_row (kk.heap (unhide HL1) (by simp)))
          have HR3 := hide (range_row (kk.heap (unhide HR1) (by simp)))
          have HK3 := hide ((unhide HK1).trans kk (by simp))
          clear k2 kab kk hdg
          by_cases hG0 : G = 0
          · subst hG0
            have hqa : ∀ W, (Op.equalIn 10000 23 (.agg (D1.map u8).toArray) (.agg (leaf.map u8).toArray)).run Tryd.prog W = .ok (decide (D1 = leaf)) W := fun W => dig_eq W D1 leaf hl4 hll
            have hqb : ∀ W, (Op.equalIn 10000 23 (.agg (D2.map u8).toArray) (.agg (root.map u8).toArray)).run Tryd.prog W = .ok (decide (D2 = root)) W := fun W => dig_eq W D2 root hl5 hrl
            by_cases h1a : D1 = leaf
            · rw [decide_eq_true h1a] at hqa
              have HC := hide (by rw [unhide HE1, if_neg (by simp)]; by_cases h9 : D2 = root; rw [if_pos ⟨h1a, h9⟩]; simp [prE, h9]; rw [if_neg (fun h => h9 h.2)]; simp [prE, h9] : E = prE (decide (D2 = root)))
              clear h1a
              go_wp2_with (first
                | (rw [zb32]; refine wpList_store_row rfl 23 _ _ rfl w2.heap.size (brow D1) rfl rfl _ (zb 32) (unhide HA0) (by rw [brow_size, hl4]; exact Tryd.size_dig) (by rw [zb_size, brow_size, hl4]) (brow_one _) ?_; clear HA0)
                | (refine wpList_store_row rfl 23 _ _ rfl (w2.heap.size + 1) (brow D2) rfl rfl _ (zb 32) (unhide HB0) (by rw [brow_size, hl5]; exact Tryd.size_dig) (by rw [zb_size, brow_size, hl5]) (brow_one _) ?_; clear HB0)
                | (refine wpList_load_midG rfl 23 _ rfl w2.heap.size 0 rfl (D1.map u8) _ (unhide HA1) Tryd.underlying23 rfl (unhide HS4) ?_)
                | (refine wpList_load_midG rfl 23 _ rfl (w2.heap.size + 1) 0 rfl (D2.map u8) _ (unhide HB1) Tryd.underlying23 rfl (unhide HS5) ?_)
                | (refine wpList_load_midG rfl 23 _ rfl w.heap.size 0 rfl (leaf.map u8) _ (unhide HL3) Tryd.underlying23 rfl (unhide HSL) ?_)
                | (refine wpList_load_midG rfl 23 _ rfl (w.heap.size + 1) 0 rfl (root.map u8) _ (unhide HR3) Tryd.underlying23 rfl (unhide HSM) ?_))
              refine Calls.mono (proven_any (decide (D2 = root)) _) ?_
              rintro e w9 ⟨rfl, rfl⟩
              generalize hB9 : prE (decide (D2 = root)) = B9
              rw [hB9] at HC
              clear hB9
              go_wp2
              go_ret
              exact ⟨by rw [unhide HC]; rfl, unhide HK3⟩
            · rw [decide_eq_false h1a] at hqa
              have HC := hide (by rw [unhide HE1, if_neg (by simp), if_neg (fun h => h1a h.1)]; rfl : E = prE false)
              clear h1a
              go_wp2_with (first
                | (rw [zb32]; refine wpList_store_row rfl 23 _ _ rfl w2.heap.size (brow D1) rfl rfl _ (zb 32) (unhide HA0) (by rw [brow_size, hl4]; exact Tryd.size_dig) (by rw [zb_size, brow_size, hl4]) (brow_one _) ?_; clear HA0)
                | (refine wpList_store_row rfl 23 _ _ rfl (w2.heap.size + 1) (brow D2) rfl rfl _ (zb 32) (unhide HB0) (by rw [brow_size, hl5]; exact Tryd.size_dig) (by rw [zb_size, brow_size, hl5]) (brow_one _) ?_; clear HB0)
                | (refine wpList_load_midG rfl 23 _ rfl w2.heap.size 0 rfl (D1.map u8) _ (unhide HA1) Tryd.underlying23 rfl (unhide HS4) ?_)
                | (refine wpList_load_midG rfl 23 _ rfl w.heap.size 0 rfl (leaf.map u8) _ (unhide HL3) Tryd.underlying23 rfl (unhide HSL) ?_))
              refine Calls.mono (proven_any false _) ?_
              rintro e w9 ⟨rfl, rfl⟩
              generalize hB9 : prE false = B9
              rw [hB9] at HC
              clear hB9
              go_wp2
              go_ret
              exact ⟨by rw [unhide HC]; rfl, unhide HK3⟩
          · have hb : ((G : Int) != 0) = true := by simp; omega
            have HC := hide (by rw [unhide HE1, if_pos hG0] : E = G)
            go_wp2_with (first
              | (rw [zb32]; refine wpList_store_row rfl 23 _ _ rfl w2.heap.size (brow D1) rfl rfl _ (zb 32) (unhide HA0) (by rw [brow_size, hl4]; exact Tryd.size_dig) (by rw [zb_size, brow_size, hl4]) (brow_one _) ?_; clear HA0)
              | (refine wpList_store_row rfl 23 _ _ rfl (w2.heap.size + 1) (brow D2) rfl rfl _ (zb 32) (unhide HB0) (by rw [brow_size, hl5]; exact Tryd.size_dig) (by rw [zb_size, brow_size, hl5]) (brow_one _) ?_; clear HB0))
            go_ret
            exact ⟨by rw [unhide HC]; rfl, unhide HK3⟩
  · have hb : ((f : Int) != 0) = true := by simp; omega
    have HC := hide (by rw [← unhide HE, ← unhide HF]; unfold conE; rw [if_pos (by rw [unhide HF]; exact hf0)] : E = f)
    go_wp2
    go_ret
    exact ⟨by rw [unhide HC]; rfl, unhide HK1⟩
end Go.Proofs.YtbljofojeagdkaaDoor
namespace Go.Proofs.YtbljofojeagdkaaDoor
open Go.RowKit Go.BigFrame
set_option linter.unusedVariables false
set_option linter.unusedSimpArgs false

theorem formedE_allC {z : Int} {ds : List (List Nat)} (hw : widthB z = true) (h : ∀ d ∈ ds, formB z d = true) : formedE z ds = 0 := by
  unfold formedE
  rw [if_neg (by rw [hw]; simp), if_pos (List.all_eq_true.2 h)]
theorem own_lit2 (w : World) (l m : List Nat) (hl : l.length = 32) (hm : m.length = 32) : (w.alloc (.cells (l.map u8 ++ m.map u8).toArray 23)).ownsRow w.heap.size 23 32 (.slice (some ⟨w.heap.size, 0, none⟩) 2 2) ([l, m] : List (List Nat)).length (flatD [l, m]) := by
  have h := World.ownsRow_lit (base := w.heap.size) (e := 23) (size := 32) w (l.map u8 ++ m.map u8).toArray 2 (Nat.le_refl _) (by unfold maxLen; omega) (by simp [hl, hm])
  have e : (l.map u8 ++ m.map u8).toArray.toList = flatD [l, m] := by simp [flatD]
  rw [e] at h
  exact h
theorem rootsE_two {z : Int} {old : List Nat} {m n : Nat} {p : List (List Nat)} (h : formedE z (old :: p) = 0) (hr : ¬ (m = 0 ∨ n ≤ m)) : rootsE z old m n p = 0 ∨ rootsE z old m n p = 10 := by
  rw [(rootsE_c h hr).1]
  unfold opF
  split <;> simp

set_option maxRecDepth 100000 in
set_option maxHeartbeats 8000000 in
theorem docConsistency_any (z : Int) (m n : Nat) (leaf root : List Nat) (pv : Value) (p : List (List Nat)) (w : World) (hz : -9223372036854775808 ≤ z ∧ z ≤ 9223372036854775807) (hl : Dg leaf) (hr : Dg root) (hi : m < 18446744073709551616) (hn : n < 18446744073709551616) (hp : RdD w pv p) (hpl : p.length ≤ 1048576) :
    Calls Tryd.prog 16 #[.int .i64 z, .int .u64 m, .int .u64 n, .agg (brow leaf), .agg (brow root), pv] w fun e w' => e = .returned (.int .i64 (conE z m n leaf root p)) ∧ Kept [] w w' := by
  have HP := hide hp
  obtain ⟨ao, len, cap, rfl, h1, h2, h3, h4, h5⟩ := hp
  clear h4 h5
  subst h1
  have HL := hide hl
  have HR := hide hr
  have hll := hl.1
  have hrl := hr.1
  obtain ⟨E, hE⟩ : ∃ E, conE z m n leaf root p = E := ⟨_, rfl⟩
  have HE := hide hE
  rw [hE]
  clear hE
  go_enter Tryd.func16, Tryd.ntmps16
  have HGL := hide (((Kept.refl [] (w.alloc (.cells (brow leaf) 23))).alloc (.cells (brow root) 23)).heap (heap_alloc_new w (.cells (brow leaf) 23)) (by simp))
  have HGR := hide (alloc_at w (.cells (brow leaf) 23) (.cells (brow root) 23))
  have HK0 := hide (((Kept.refl [] w).alloc (.cells (brow leaf) 23)).alloc (.cells (brow root) 23))
  have HSL := hide (by rw [List.length_map, hll]; exact Tryd.size_dig : (Tryd.prog.info? 23).map (·.size) = some (leaf.map u8).length)
  have HSM := hide (by rw [List.length_map, hrl]; exact Tryd.size_dig : (Tryd.prog.info? 23).map (·.size) = some (root.map u8).length)
  have hfs : ∀ A : Array Value, (List.foldl (fun cs x => cs.setIfInBounds x.snd x.fst) A (List.map u8 leaf).zipIdx).size = A.size := fun A => fold_size _ A 0
  obtain ⟨W0, hW0⟩ : ∃ W0, (w.alloc (.cells (brow leaf) 23)).alloc (.cells (brow root) 23) = W0 := ⟨_, rfl⟩
  have HLIT := hide (own_lit2 W0 leaf root hll hrl)
  have hsz : w.heap.size + 1 + 1 = W0.heap.size := by rw [← hW0]; simp
  rw [hW0] at HGL HGR HK0
  have k0 := (Kept.refl [] W0).alloc (.cells (leaf.map u8 ++ root.map u8).toArray 23)
  have HK00 := hide k0
  have HP0 := hide ((unhide HP).old ((unhide HK0).trans k0 (by simp)))
  clear k0
  go_wp2_with (first
    | (refine wpList_load_mid rfl 23 _ rfl w.heap.size 0 rfl (leaf.map u8) _ (range_row (unhide HGL)) Tryd.underlying23 rfl (unhide HSL) ?_)
    | (refine wpList_load_mid rfl 23 _ rfl (w.heap.size + 1) 0 rfl (root.map u8) _ (range_row (unhide HGR)) Tryd.underlying23 rfl (unhide HSM) ?_)
    | (at_builtin; rw [zb64, two_digs leaf root hll hrl]; refine wpList_appendD rfl (.tmp 21) (.tmp 22) rfl rfl _ W0.heap.size (.slice (some ⟨W0.heap.size, 0, none⟩) 2 2) [leaf, root] p ao p.length cap (by exact unhide HLIT) (by exact unhide HP0) (by simp; omega) (by simp) rfl rfl ?_; intro ao1 cap1 w1 HO1 HG1; have HKG := hide ((unhide HK00).grown (unhide HG1) (by intro k hk; right; simp [Value.ownBlock] at hk; omega)); clear HG1))
  have HR1 := hide (rdd_owns (unhide HO1) (fun d hd => by rcases List.mem_append.1 hd with h | h; simp at h; rcases h with rfl | rfl; exact unhide HL; exact unhide HR; exact (unhide HP).dg h))
  have HK1' := hide ((unhide HK0).trans (unhide HKG) (by simp))
  have HL1' := hide ((unhide HKG).heap (unhide HGL) (by simp))
  have HM1' := hide ((unhide HKG).heap (unhide HGR) (by simp))
  clear HGL HGR HO1 HKG HLIT HK00 HP0 hW0 hfs
  refine Calls.mono (refCheck_any z _ ([leaf, root] ++ p) _ hz (unhide HR1)) ?_
  rintro e w2 ⟨rfl, k2⟩
  have HK1 := hide ((unhide HK1').trans k2 (by simp))
  have HL1 := hide (k2.heap (unhide HL1') (by simp))
  have HM1 := hide (k2.heap (unhide HM1') (by simp))
  clear k2 HK1' HL1' HM1' HR1
  obtain ⟨f, hf⟩ : ∃ f, formedE z ([leaf, root] ++ p) = f := ⟨_, rfl⟩
  have HF := hide (show formedE z (leaf :: root :: p) = f from hf)
  rw [hf]
  clear hf
  by_cases hf0 : f = 0
  · subst hf0
    obtain ⟨hw, hff⟩ := formedE_zero (unhide HF)
    have HFL := hide (formedE_allC hw (by intro d hd; rcases List.mem_cons.1 hd with rfl | h; exact hff _ (by simp); exact hff d (by simp [h])) : formedE z (leaf :: p) = 0)
    clear hff
    have HE0 := hide (by rw [← unhide HE]; unfold conE; rw [if_neg (by rw [unhide HF]; simp)] : E = if n < m then 4 else if m = n then (if p = [] ∧ leaf = root then 0 else 10) else if m = 0 then (if p = [] ∧ leaf = sumD z [] then 0 else 10) else if rootsE z leaf m n p ≠ 0 then rootsE z leaf m n p else if (rootsD z leaf m n p).1 = leaf ∧ (rootsD z leaf m n p).2 = root then 0 else 10)
    by_cases hgt : n < m
    · have hgt' : (n : Int) < m := by omega
      have HC := hide (by rw [unhide HE0, if_pos hgt] : E = 4)
      go_wp2
      go_ret
      exact ⟨by rw [unhide HC]; rfl, unhide HK1⟩
    · have hgt' : ¬ (n : Int) < m := by omega
      by_cases hmn : m = n
      · have hmn' : ((m : Int) == n) = true := by simp; omega
        have hqd : ∀ W, (Op.equalIn 10000 23 (.agg (leaf.map u8).toArray) (.agg (root.map u8).toArray)).run Tryd.prog W = .ok (decide (leaf = root)) W := fun W => dig_eq W leaf root hll hrl
        by_cases hp0 : p.length = 0
        · have hp0' : ((p.length : Int) == 0) = true := by rw [beq_iff_eq]; omega
          by_cases h9 : leaf = root
          · have HC := hide (by rw [unhide HE0, if_neg hgt, if_pos hmn, if_pos ⟨nil_of_len.2 hp0, h9⟩] : E = 0)
            rw [decide_eq_true h9] at hqd
            clear h9
            go_wp2_with (first
              | (refine wpList_load_midG rfl 23 _ rfl w.heap.size 0 rfl (leaf.map u8) _ (range_row (unhide HL1)) Tryd.underlying23 rfl (unhide HSL) ?_)
              | (refine wpList_load_midG rfl 23 _ rfl (w.heap.size + 1) 0 rfl (root.map u8) _ (range_row (unhide HM1)) Tryd.underlying23 rfl (unhide HSM) ?_))
            go_ret
            exact ⟨by rw [unhide HC]; rfl, unhide HK1⟩
          · have HC := hide (by rw [unhide HE0, if_neg hgt, if_pos hmn, if_neg (fun h => h9 h.2)] : E = 10)
            rw [decide_eq_false h9] at hqd
            clear h9
            go_wp2_with (first
              | (refine wpList_load_midG rfl 23 _ rfl w.heap.size 0 rfl (leaf.map u8) _ (range_row (unhide HL1)) Tryd.underlying23 rfl (unhide HSL) ?_)
              | (refine wpList_load_midG rfl 23 _ rfl (w.heap.size + 1) 0 rfl (root.map u8) _ (range_row (unhide HM1)) Tryd.underlying23 rfl (unhide HSM) ?_))
            go_ret
            exact ⟨by rw [unhide HC]; rfl, unhide HK1⟩
        · have hp0' : ((p.length : Int) == 0) = false := by rw [beq_eq_false_iff_ne]; omega
          have HC := hide (by rw [unhide HE0, if_neg hgt, if_pos hmn, if_neg (fun h => hp0 (nil_of_len.1 h.1))] : E = 10)
          go_wp2
          go_ret
          exact ⟨by rw [unhide HC]; rfl, unhide HK1⟩
      · have hmn' : ((m : Int) == n) = false := by simp; omega
        have hwd : 1 ≤ z ∧ z ≤ 32 := by simpa [widthB] using hw
        by_cases hm0 : m = 0
        · have hm0' : ((m : Int) == 0) = true := by simp; omega
          by_cases hp0 : p.length = 0
          · have hp0' : ((p.length : Int) == 0) = true := by rw [beq_iff_eq]; omega
            obtain ⟨k, rfl⟩ : ∃ k : Nat, z = k := ⟨z.toNat, by omega⟩
            have HNL := hide (by unfold sumD; rw [if_pos hw, Int.toNat_natCast] : sumD (k : Int) [] = cutL k (hash []))
            have hnl := cutL_len k (hash []) (by omega) (hash_len [])
            go_wp2_with fail
            obtain ⟨D, hD⟩ : ∃ D, cutL k (hash []) = D := ⟨_, rfl⟩
            rw [hD] at HNL hnl
            have HCT := hide (fun w' (hw' : Kept [] w2 w') => (refNoLog_any k w' (by omega)).mono (fun e w3 (h3 : _ ∧ _) => (⟨by rw [← hD]; exact h3.1, hw'.trans h3.2 (by simp)⟩ : e = .returned (.agg (brow D)) ∧ Kept [] w2 w3)))
            clear hD
            have hqd : ∀ W, (Op.equalIn 10000 23 (.agg (brow leaf)) (.agg (brow D))).run Tryd.prog W = .ok (decide (leaf = D)) W := fun W => dig_eq W leaf D hll hnl
            have hne : ∀ q : Prop, (∀ w', Kept [] w2 w' → q) = q := fun q => propext ⟨fun h => h w2 (Kept.refl [] w2), fun h _ _ => h⟩
            have HZZ := hide (by rw [brow_size, hll]; exact Tryd.size_dig : (Tryd.prog.info? 23).map (·.size) = some (brow leaf).size)
            obtain ⟨q, hq⟩ : ∃ q : Bool, decide (leaf = D) = q := ⟨_, rfl⟩
            rw [hq] at hqd
            have HCQ := hide (by rw [unhide HE0, if_neg hgt, if_neg hmn, if_pos hm0, unhide HNL]; by_cases h9 : leaf = D; rw [if_pos ⟨nil_of_len.2 hp0, h9⟩, ← hq]; simp [h9]; rw [if_neg (fun h => h9 h.2), ← hq]; simp [h9] : E = if q = true then 0 else 10)
            clear hq
            refine wp_region_keep (by kernel_rfl) (by kernel_rfl) ?_
            iterate 4 (go_big_quiet_step (fail))
            refine wpQuiet_row rfl 23 (.tmp 9) rfl w.heap.size rfl _ (brow leaf) (0, 0) _ (fun w' hw' => hw'.heap (unhide HL1) (by simp)) Tryd.underlying23 rfl (unhide HZZ) ?_
            simp only [Act.put, List.setIfInBounds_toArray, List.set_cons_succ, List.set_cons_zero]
            go_big_quiet_step (fail)
            go_big_quiet_want
            go_big_quiet_op
            apply Exists.intro
            refine ⟨fun w' hw' => ?_, ?_⟩
            · exact unhide HCT w' hw'
            go_big_quiet_on
            refine wpQuiet_val rfl (.bool q) (fun w' _ => run_eql 23 (.tmp 73) (.tmp 75) 23 rfl (brow leaf) (brow D) rfl rfl w' q (by kernel_rfl) (hqd w')) ?_
            simp only [Act.put, List.setIfInBounds_toArray, List.set_cons_succ, List.set_cons_zero]
            repeat (go_big_quiet_step (fail))
            refine wpQuiet_nil ?_
            intro w5 hw5
            have HK3 := hide ((unhide HK1).trans hw5 (by simp))
            clear hw5 hne hqd
            cases q with
            | true =>
              have HC := hide (by rw [unhide HCQ]; rfl : E = 0)
              go_wp2
              go_ret
              exact ⟨by rw [unhide HC]; rfl, unhide HK3⟩
            | false =>
              have HC := hide (by rw [unhide HCQ]; rfl : E = 10)
              go_wp2
              go_ret
              exact ⟨by rw [unhide HC]; rfl, unhide HK3⟩
          · have hp0' : ((p.length : Int) == 0) = false := by rw [beq_eq_false_iff_ne]; omega
            have HC := hide (by rw [unhide HE0, if_neg hgt, if_neg hmn, if_pos hm0, if_neg (fun h => hp0 (nil_of_len.1 h.1))] : E = 10)
            have hne : ∀ q : Prop, (∀ w', Kept [] w2 w' → q) = q := fun q => propext ⟨fun h => h w2 (Kept.refl [] w2), fun h _ _ => h⟩
            go_wp2_with fail
            refine wp_region_keep (by kernel_rfl) (by kernel_rfl) ?_
            repeat (go_big_quiet_step (fail))
            refine wpQuiet_nil ?_
            intro w5 hw5
            have HK3 := hide ((unhide HK1).trans hw5 (by simp))
            clear hw5 hne
            go_wp2
            go_ret
            exact ⟨by rw [unhide HC]; rfl, unhide HK3⟩
        · have hm0' : ((m : Int) == 0) = false := by simp; omega
          have hdg := rootsD_dg (z := z) (m := m) (n := n) (unhide HL) (fun d hd => (unhide HP).dg hd)
          have hG2 := rootsE_two (m := m) (n := n) (unhide HFL) (by omega)
          go_wp2_with (refine wpList_load_mid rfl 23 _ rfl w.heap.size 0 rfl (leaf.map u8) _ (range_row (unhide HL1)) Tryd.underlying23 rfl (unhide HSL) ?_)
          refine Calls.mono (docRootsOf_any z m n leaf _ p _ hz (unhide HL) hi hn ((unhide HP).old (unhide HK1)) hpl) ?_
          rintro e w2' ⟨rfl, k2⟩
          obtain ⟨G, hG⟩ : ∃ G, rootsE z leaf m n p = G := ⟨_, rfl⟩
          obtain ⟨D, hD⟩ : ∃ D, rootsD z leaf m n p = D := ⟨_, rfl⟩
          rw [hD] at hdg
          rw [hG] at hG2
          have HE1 := hide (by rw [unhide HE0, if_neg hgt, if_neg hmn, if_neg hm0, hG, hD] : E = if G ≠ 0 then G else if D.1 = leaf ∧ D.2 = root then 0 else 10)
          rw [hG, hD]
          clear hG hD
          obtain ⟨D1, D2⟩ := D
          have hl4 := hdg.1.1
          have hl5 := hdg.2.1
          simp only at hl4 hl5 HE1 ⊢
          have HS4 := hide (by rw [List.length_map, hl4]; exact Tryd.size_dig : (Tryd.prog.info? 23).map (·.size) = some (D1.map u8).length)
          have HS5 := hide (by rw [List.length_map, hl5]; exact Tryd.size_dig : (Tryd.prog.info? 23).map (·.size) = some (D2.map u8).length)
          have HA0 := hide (((Kept.refl [] (w2'.alloc (.cells (zb 32) 23))).alloc (.cells (zb 32) 23)).heap (heap_alloc_new w2' (.cells (zb 32) 23)) (by simp))
          have HB0 := hide ((setRow_other ((w2'.alloc (.cells (zb 32) 23)).alloc (.cells (zb 32) 23)) w2'.heap.size (w2'.heap.size + 1) (brow D1) (by omega)).trans (alloc_at w2' (.cells (zb 32) 23) (.cells (zb 32) 23)))
          have kab := ((((Kept.refl [] w2').alloc (.cells (zb 32) 23)).alloc (.cells (zb 32) 23)).setRow (g := w2'.heap.size) (Or.inr (Nat.le_refl _)) (brow D1)).setRow (g := w2'.heap.size + 1) (Or.inr (by omega)) (brow D2)
          have HA1 := hide (range_row ((setRow_other (((w2'.alloc (.cells (zb 32) 23)).alloc (.cells (zb 32) 23)).setRow w2'.heap.size (brow D1)) (w2'.heap.size + 1) w2'.heap.size (brow D2) (by omega)).trans (setRow_heap _ _ _ (brow D1) _ _ (unhide HA0))))
          have HB1 := hide (range_row (setRow_heap (((w2'.alloc (.cells (zb 32) 23)).alloc (.cells (zb 32) 23)).setRow w2'.heap.size (brow D1)) _ _ (brow D2) _ _ (unhide HB0)))
          have kk := k2.trans kab (by simp)
          have HL3 := hide (range_row (kk.heap (unhide HL1) (by simp)))
          have HR3 := hide (range_row (kk.heap (unhide HM1) (by simp)))
          have HK3 := hide ((unhide HK1).trans kk (by simp))
          clear k2 kab kk hdg
          have hqa : ∀ W, (Op.equalIn 10000 23 (.agg (D1.map u8).toArray) (.agg (leaf.map u8).toArray)).run Tryd.prog W = .ok (decide (D1 = leaf)) W := fun W => dig_eq W D1 leaf hl4 hll
          have hqb : ∀ W, (Op.equalIn 10000 23 (.agg (D2.map u8).toArray) (.agg (root.map u8).toArray)).run Tryd.prog W = .ok (decide (D2 = root)) W := fun W => dig_eq W D2 root hl5 hrl
          by_cases hG0 : G = 0
          · subst hG0
            by_cases h1a : D1 = leaf
            · rw [decide_eq_true h1a] at hqa
              by_cases h1b : D2 = root
              · rw [decide_eq_true h1b] at hqb
                have HC := hide (by rw [unhide HE1, if_neg (by simp), if_pos ⟨h1a, h1b⟩] : E = 0)
                clear h1a h1b
                go_wp2_with (first
                  | (rw [zb32]; refine wpList_store_row rfl 23 _ _ rfl w2'.heap.size (brow D1) rfl rfl _ (zb 32) (unhide HA0) (by rw [brow_size, hl4]; exact Tryd.size_dig) (by rw [zb_size, brow_size, hl4]) (brow_one _) ?_; clear HA0)
                  | (refine wpList_store_row rfl 23 _ _ rfl (w2'.heap.size + 1) (brow D2) rfl rfl _ (zb 32) (unhide HB0) (by rw [brow_size, hl5]; exact Tryd.size_dig) (by rw [zb_size, brow_size, hl5]) (brow_one _) ?_; clear HB0)
                  | (refine wpList_load_midG rfl 23 _ rfl w2'.heap.size 0 rfl (D1.map u8) _ (unhide HA1) Tryd.underlying23 rfl (unhide HS4) ?_)
                  | (refine wpList_load_midG rfl 23 _ rfl (w2'.heap.size + 1) 0 rfl (D2.map u8) _ (unhide HB1) Tryd.underlying23 rfl (unhide HS5) ?_)
                  | (refine wpList_load_midG rfl 23 _ rfl w.heap.size 0 rfl (leaf.map u8) _ (unhide HL3) Tryd.underlying23 rfl (unhide HSL) ?_)
                  | (refine wpList_load_midG rfl 23 _ rfl (w.heap.size + 1) 0 rfl (root.map u8) _ (unhide HR3) Tryd.underlying23 rfl (unhide HSM) ?_))
                go_ret
                exact ⟨by rw [unhide HC]; rfl, unhide HK3⟩
              · rw [decide_eq_false h1b] at hqb
                have HC := hide (by rw [unhide HE1, if_neg (by simp), if_neg (fun h => h1b h.2)] : E = 10)
                clear h1a h1b
                go_wp2_with (first
                  | (rw [zb32]; refine wpList_store_row rfl 23 _ _ rfl w2'.heap.size (brow D1) rfl rfl _ (zb 32) (unhide HA0) (by rw [brow_size, hl4]; exact Tryd.size_dig) (by rw [zb_size, brow_size, hl4]) (brow_one _) ?_; clear HA0)
                  | (refine wpList_store_row rfl 23 _ _ rfl (w2'.heap.size + 1) (brow D2) rfl rfl _ (zb 32) (unhide HB0) (by rw [brow_size, hl5]; exact Tryd.size_dig) (by rw [zb_size, brow_size, hl5]) (brow_one _) ?_; clear HB0)
                  | (refine wpList_load_midG rfl 23 _ rfl w2'.heap.size 0 rfl (D1.map u8) _ (unhide HA1) Tryd.underlying23 rfl (unhide HS4) ?_)
                  | (refine wpList_load_midG rfl 23 _ rfl (w2'.heap.size + 1) 0 rfl (D2.map u8) _ (unhide HB1) Tryd.underlying23 rfl (unhide HS5) ?_)
                  | (refine wpList_load_midG rfl 23 _ rfl w.heap.size 0 rfl (leaf.map u8) _ (unhide HL3) Tryd.underlying23 rfl (unhide HSL) ?_)
                  | (refine wpList_load_midG rfl 23 _ rfl (w.heap.size + 1) 0 rfl (root.map u8) _ (unhide HR3) Tryd.underlying23 rfl (unhide HSM) ?_))
                go_ret
                exact ⟨by rw [unhide HC]; rfl, unhide HK3⟩
            · rw [decide_eq_false h1a] at hqa
              have HC := hide (by rw [unhide HE1, if_neg (by simp), if_neg (fun h => h1a h.1)] : E = 10)
              clear h1a
              go_wp2_with (first
                | (rw [zb32]; refine wpList_store_row rfl 23 _ _ rfl w2'.heap.size (brow D1) rfl rfl _ (zb 32) (unhide HA0) (by rw [brow_size, hl4]; exact Tryd.size_dig) (by rw [zb_size, brow_size, hl4]) (brow_one _) ?_; clear HA0)
                | (refine wpList_store_row rfl 23 _ _ rfl (w2'.heap.size + 1) (brow D2) rfl rfl _ (zb 32) (unhide HB0) (by rw [brow_size, hl5]; exact Tryd.size_dig) (by rw [zb_size, brow_size, hl5]) (brow_one _) ?_; clear HB0)
                | (refine wpList_load_midG rfl 23 _ rfl w2'.heap.size 0 rfl (D1.map u8) _ (unhide HA1) Tryd.underlying23 rfl (unhide HS4) ?_)
                | (refine wpList_load_midG rfl 23 _ rfl (w2'.heap.size + 1) 0 rfl (D2.map u8) _ (unhide HB1) Tryd.underlying23 rfl (unhide HS5) ?_)
                | (refine wpList_load_midG rfl 23 _ rfl w.heap.size 0 rfl (leaf.map u8) _ (unhide HL3) Tryd.underlying23 rfl (unhide HSL) ?_)
                | (refine wpList_load_midG rfl 23 _ rfl (w.heap.size + 1) 0 rfl (root.map u8) _ (unhide HR3) Tryd.underlying23 rfl (unhide HSM) ?_))
              go_ret
              exact ⟨by rw [unhide HC]; rfl, unhide HK3⟩
          · have hb : ((G : Int) == 0) = false := by simp; omega
            have HC := hide (by rw [unhide HE1, if_pos hG0]; omega : E = 10)
            go_wp2_with (first
              | (rw [zb32]; refine wpList_store_row rfl 23 _ _ rfl w2'.heap.size (brow D1) rfl rfl _ (zb 32) (unhide HA0) (by rw [brow_size, hl4]; exact Tryd.size_dig) (by rw [zb_size, brow_size, hl4]) (brow_one _) ?_; clear HA0)
              | (refine wpList_store_row rfl 23 _ _ rfl (w2'.heap.size + 1) (brow D2) rfl rfl _ (zb 32) (unhide HB0) (by rw [brow_size, hl5]; exact Tryd.size_dig) (by rw [zb_size, brow_size, hl5]) (brow_one _) ?_; clear HB0)
              | (refine wpList_load_midG rfl 23 _ rfl w2'.heap.size 0 rfl (D1.map u8) _ (unhide HA1) Tryd.underlying23 rfl (unhide HS4) ?_)
              | (refine wpList_load_midG rfl 23 _ rfl (w2'.heap.size + 1) 0 rfl (D2.map u8) _ (unhide HB1) Tryd.underlying23 rfl (unhide HS5) ?_)
              | (refine wpList_load_midG rfl 23 _ rfl w.heap.size 0 rfl (leaf.map u8) _ (unhide HL3) Tryd.underlying23 rfl (unhide HSL) ?_)
              | (refine wpList_load_midG rfl 23 _ rfl (w.heap.size + 1) 0 rfl (root.map u8) _ (unhide HR3) Tryd.underlying23 rfl (unhide HSM) ?_))
            go_ret
            exact ⟨by rw [unhide HC]; rfl, unhide HK3⟩
  · have hb : ((f : Int) != 0) = true := by simp; omega
    have HC := hide (by rw [← unhide HE, ← unhide HF]; unfold conE; rw [if_pos (by rw [unhide HF]; exact hf0)] : E = f)
    go_wp2
    go_ret
    exact ⟨by rw [unhide HC]; rfl, unhide HK1⟩
end Go.Proofs.YtbljofojeagdkaaDoor
namespace Go.Proofs.YtbljofojeagdkaaDoor
open Go.RowKit Go.BigFrame
set_option linter.unusedVariables false
set_option linter.unusedSimpArgs false

def d7 : List Nat := [7,0,0,0,0,0,0,0,0,0,0,0,0,0,0,0,0,0,0,0,0,0,0,0,0,0,0,0,0,0,0,0]
def d9k : List Nat := [9,0,0,0,0,0,0,0,0,0,0,0,0,0,0,0,0,0,0,0,0,0,0,0,0,0,0,0,0,0,0,0]
theorem d79_dg : ∀ d ∈ [d7, d9k], Dg d := by
  intro d hd
  rcases List.mem_cons.1 hd with rfl | hd
  · exact ⟨rfl, by decide⟩
  · rw [List.mem_singleton.1 hd]; exact ⟨rfl, by decide⟩

set_option maxRecDepth 100000 in
set_option maxHeartbeats 4000000 in
theorem mcheckKeeps_go (q : AskD) (pv ov : Value) (os : List (List Nat)) (w : World) (hq : OkA w q pv) (ho : RdD w ov os) (hT : Tabs w) :
    Calls Tryd.prog 3 #[.agg (askC q pv).toArray, ov] w fun e w' => e = .returned (.bool true) ∧ Kept [] w w' := by
  have HT := hide hT
  have HQ := hide hq
  have HOV := hide ho
  have hll := hq.l.1
  obtain ⟨ao, len, cap, rfl, h1, h2, h3, h4, h5⟩ := id hq.p
  subst h1
  obtain ⟨oa, on, oc, rfl, o1, o2, o3, o4, o5⟩ := id ho
  subst o1
  have hpl := hq.pl
  clear hT h4 h5 hq ho o4 o5
  have HG := hide (heap_alloc_new w (.cells (askC q (.slice ao q.p.length cap)).toArray 27))
  have HK0 := hide ((Kept.refl [] w).alloc (.cells (askC q (.slice ao q.p.length cap)).toArray 27))
  have HSL := hide (by rw [List.length_map, hll]; exact Tryd.size_dig : (Tryd.prog.info? 23).map (·.size) = some (q.l.map u8).length)
  go_enter Tryd.func3, Tryd.ntmps3
  go_wp2_with fail
  obtain ⟨W, hW⟩ : ∃ W, w.alloc (.cells (askC q (.slice ao q.p.length cap)).toArray 27) = W := ⟨_, rfl⟩
  rw [hW] at HG HK0 ⊢
  clear hW
  refine (mawake_any W ((unhide HT).k (unhide HK0))).mono ?_
  rintro e w1 ⟨rfl, k1⟩
  have HG1 := hide (k1.heap (unhide HG) (by simp))
  have HK1 := hide ((unhide HK0).trans k1 (by simp))
  clear k1 HG HK0
  obtain ⟨c0, r1, ⟨c33, c34, c35⟩, r36⟩ := ask_cells (unhide HG1) hll
  have HR1 := hide r1
  clear r1 r36
  go_wp2_with fail
  refine (twinD_any _ q.p w1 ((unhide HQ).p.old (unhide HK1)) hpl).mono ?_
  rintro e w2 ⟨u, rfl, rd2, k2, ow2⟩
  have HO2 := hide ((⟨ow2, fun d hd => (unhide HQ).p.dg hd, k2⟩ : OwD w1 w2 u q.p).pass ((Kept.refl [] w2).alloc (.cells (flatD [d7, d9k]).toArray 23)))
  obtain ⟨ua, uc, rfl⟩ := owns_form ow2
  clear rd2 k2 ow2 c0 c33 c34 c35 HR1
  go_wp2_with (at_builtin; refine wpList_appendD rfl (.tmp 29) (.tmp 32) rfl rfl (w2.alloc (.cells (flatD [d7, d9k]).toArray 23)) w1.heap.size (.slice ua q.p.length uc) q.p [d7, d9k] (some ⟨w2.heap.size, 0, none⟩) 2 2 (unhide HO2).own (RdD.flat (heap_alloc_new w2 (.cells (flatD [d7, d9k]).toArray 23)) d79_dg 2 rfl (by decide)) (by simp; omega) (unhide HO2).kept.size rfl rfl ?_; intro ao3 cap3 w3 HO3 HG3; have HO4 := hide (⟨unhide HO3, (fun d hd => by rcases List.mem_append.1 hd with hd | hd; exact (unhide HO2).dg d hd; exact d79_dg d hd), (unhide HO2).kept.grown (unhide HG3) (by intro k hk; right; exact ((unhide HO2).own.lt k hk).1)⟩ : OwD w1 w3 (.slice ao3 (q.p.length + 2) cap3) (q.p ++ [d7, d9k])); clear HG3 HO3)
  have hFl : (q.p ++ [d7, d9k]).length = q.p.length + 2 := by simp
  obtain ⟨F, hF⟩ : ∃ F, q.p ++ [d7, d9k] = F := ⟨_, rfl⟩
  rw [hF] at HO4 hFl
  have HF := hide hF
  clear hF HO2
  refine (twinB_any _ F w3 (unhide HO4).rd (by omega)).mono ?_
  rintro e w4 ⟨u4, rfl, rd4, k4, ow4⟩
  obtain ⟨g, hgw, hao, hcp⟩ : ∃ g, w1.heap.size ≤ g ∧ ao3 = some ⟨g, 0, none⟩ ∧ q.p.length + 2 ≤ cap3 := by
    rcases (unhide HO4).own.2 with ⟨_, h9⟩ | ⟨g, c9, cur, e9, h8, _, h7, _⟩
    · omega
    · simp only [Value.slice.injEq] at e9
      exact ⟨g, h8, e9.1, by omega⟩
  subst hao
  have HO5 := hide ((unhide HO4).pass k4)
  have HK4 := hide (unhide HO5).kept
  have HRW := hide rd4
  clear rd4 k4 ow4 HO4
  have HP4 := hide (by have h9 := (unhide HO5).rd.upto q.p.length (by omega); rw [← unhide HF, List.take_append_of_le_length (Nat.le_refl _), List.take_length] at h9; exact h9 : RdD w4 (.slice (some ⟨g, 0, none⟩) q.p.length cap3) q.p)
  have HG4 := hide ((unhide HK4).heap (unhide HG1) (by simp))
  have HTK := hide (fun W (kk : Kept [] w4 W) => (unhide HT).k ((unhide HK1).trans ((unhide HK4).trans kk (by simp)) (by simp)))
  have HQK := hide (fun W (kk : Kept [] w4 W) => (unhide HQ).p.old ((unhide HK1).trans ((unhide HK4).trans kk (by simp)) (by simp)))
  have HGK := hide (fun W (kk : Kept [] w4 W) => kk.heap (unhide HG4) (by simp))
  have HDD := hide (rootD_dg (z := q.z) (i := q.i) (n := q.n) (p := q.p) (unhide HQ).l)
  have HAB := hide (rootsD_dg (z := q.z) (m := q.i) (n := q.n) (unhide HQ).l (fun d hd => (unhide HQ).p.dg hd))
  have HRO := hide (fun W (kk : Kept [] w4 W) => rootOf_any q.z q.l q.i q.n (.slice (some ⟨g, 0, none⟩) q.p.length cap3) q.p W (unhide HQ).z (unhide HQ).l (unhide HQ).i (unhide HQ).n ((unhide HP4).old kk) (unhide HTK W kk))
  have HDR := hide (fun W (kk : Kept [] w4 W) => docRootOf_any q.z q.l q.i q.n (.slice ao q.p.length cap) q.p W (unhide HQ).z (unhide HQ).l (unhide HQ).i (unhide HQ).n (unhide HQK W kk) hpl)
  have HIN := hide (fun W (kk : Kept [] w4 W) => inclusion_any q.z q.l q.i q.n (.slice (some ⟨g, 0, none⟩) q.p.length cap3) q.p (rootD q.z q.l q.i q.n q.p) W (unhide HQ).z (unhide HQ).l (unhide HDD) (unhide HQ).i (unhide HQ).n ((unhide HP4).old kk) (unhide HTK W kk))
  have HDI := hide (fun W (kk : Kept [] w4 W) => docInclusion_any q.z q.l q.i q.n (.slice ao q.p.length cap) q.p (rootD q.z q.l q.i q.n q.p) W (unhide HQ).z (unhide HQ).l (unhide HDD) (unhide HQ).i (unhide HQ).n (unhide HQK W kk) hpl)
  have HRS := hide (fun W (kk : Kept [] w4 W) => rootsOf_any q.z q.i q.n q.l (.slice (some ⟨g, 0, none⟩) q.p.length cap3) q.p W (unhide HQ).z (unhide HQ).l (unhide HQ).i (unhide HQ).n ((unhide HP4).old kk) (unhide HTK W kk))
  have HDS := hide (fun W (kk : Kept [] w4 W) => docRootsOf_any q.z q.i q.n q.l (.slice ao q.p.length cap) q.p W (unhide HQ).z (unhide HQ).l (unhide HQ).i (unhide HQ).n (unhide HQK W kk) hpl)
  have HCO := hide (fun W (kk : Kept [] w4 W) => consistency_any q.z q.i q.n q.l (rootsD q.z q.l q.i q.n q.p).2 (.slice (some ⟨g, 0, none⟩) q.p.length cap3) q.p W (unhide HQ).z (unhide HQ).l (unhide HAB).2 (unhide HQ).i (unhide HQ).n ((unhide HP4).old kk) (unhide HTK W kk))
  have HDC := hide (fun W (kk : Kept [] w4 W) => docConsistency_any q.z q.i q.n q.l (rootsD q.z q.l q.i q.n q.p).2 (.slice ao q.p.length cap) q.p W (unhide HQ).z (unhide HQ).l (unhide HAB).2 (unhide HQ).i (unhide HQ).n (unhide HQK W kk) hpl)
  have HSA := hide (fun W (kk : Kept [] w4 W) => same12_any (.slice (some ⟨g, 0, none⟩) (q.p.length + 2) cap3) u4 F W ((unhide HO5).rd.old kk) ((unhide HRW).old kk))
  simp only [dinc_eq] at HIN
  generalize rootE q.z q.l q.i q.n q.p = E at HRO HDR
  generalize dincE q.z q.l q.i q.n q.p (rootD q.z q.l q.i q.n q.p) = I at HIN HDI
  generalize rootsE q.z q.l q.i q.n q.p = G at HRS HDS
  generalize conE q.z q.i q.n q.l (rootsD q.z q.l q.i q.n q.p).2 q.p = C at HCO HDC
  generalize rootD q.z q.l q.i q.n q.p = D at HRO HDR HIN HDI HDD
  generalize (rootsD q.z q.l q.i q.n q.p).1 = A at HRS HDS HAB
  generalize (rootsD q.z q.l q.i q.n q.p).2 = B at HRS HDS HCO HDC HAB
  have hdl := (unhide HDD).1
  have hal := (unhide HAB).1.1
  have hbl := (unhide HAB).2.1
  have hqD := fun W => dig_eq W D D hdl hdl
  have hqA := fun W => dig_eq W A A hal hal
  have hqB := fun W => dig_eq W B B hbl hbl
  rw [decide_eq_true rfl] at hqD hqA hqB
  have hc1 : (q.p.length : Int) ≤ cap3 := by omega
  have hc2 : q.p.length ≤ cap3 := by omega
  obtain ⟨c0, r1, ⟨c33, c34, c35⟩, r36⟩ := ask_cells (unhide HG4) hll
  have HR1 := hide r1
  clear r1 r36
  go_wp2_with fail
  clear c0 c33 c34 c35 HR1
  go_loopw [41] (fun t41 wr => ∃ (j : Nat), j ≤ 2 ∧ t41 = .int .i64 (j : Int) ∧ Hid (Kept [] w4 wr)) (fun t _ => 2 - (intOf t).toNat)
  case atStart => exact ⟨0, by omega, rfl, hide (Kept.refl _ _)⟩
  case round =>
    obtain ⟨j, hj, rfl, HKr⟩ := hrel
    by_cases hlt : j < 2
    · have hlt' : (j : Int) < 2 := by omega
      obtain ⟨c0, r1, ⟨c33, c34, c35⟩, r36⟩ := ask_cells (unhide HGK wr (unhide HKr)) hll
      have HR1 := hide r1
      clear r1 r36
      go_wp2_with (first
        | (refine wpList_load_mid rfl 23 _ rfl w.heap.size 1 rfl (q.l.map Go.Proofs.YtbljofojeagdkaaDoor.u8) _ (unhide HR1) Tryd.underlying23 rfl (unhide HSL) ?_))
      clear c0 c33 c34 c35 HR1
      refine (unhide HRO wr (unhide HKr)).mono ?_
      rintro e wa1 ⟨rfl, ka⟩
      have kab := ka.trans (kept_old wa1 D) (by simp)
      have HN1 := hide (cell_new wa1 D)
      have HKb1 := hide ((unhide HKr).trans kab (by simp))
      obtain ⟨wb1, hwb⟩ : ∃ wb, (wa1.alloc (.cells (zb 32) 23)).setRow wa1.heap.size (brow D) = wb := ⟨_, rfl⟩
      rw [hwb] at HN1 HKb1
      have HW1 := hide hwb
      clear ka kab hwb
      obtain ⟨c0, r1, ⟨c33, c34, c35⟩, r36⟩ := ask_cells (unhide HGK wb1 (unhide HKb1)) hll
      have HR1 := hide r1
      clear r1 r36
      go_wp2_with (first
        | (rw [zb32]; refine wpList_store_row rfl 23 (.tmp 8) _ rfl wa1.heap.size (brow D) rfl rfl _ (zb 32) (heap_alloc_new _ _) (Tryd.szD hdl) (by rw [zb_size, brow_size, hdl]) (brow_one _) ?_; rw [unhide HW1])
        | (refine wpList_load_mid rfl 23 _ rfl w.heap.size 1 rfl (q.l.map Go.Proofs.YtbljofojeagdkaaDoor.u8) _ (unhide HR1) Tryd.underlying23 rfl (unhide HSL) ?_))
      clear c0 c33 c34 c35 HR1
      refine (unhide HDR wb1 (unhide HKb1)).mono ?_
      rintro e wa2 ⟨rfl, ka⟩
      have kab := ka.trans (kept_old wa2 D) (by simp)
      have HN2 := hide (cell_new wa2 D)
      have HKb2 := hide ((unhide HKb1).trans kab (by simp))
      have HN1x2 := hide (kab.heap (unhide HN1) (by simp))
      obtain ⟨wb2, hwb⟩ : ∃ wb, (wa2.alloc (.cells (zb 32) 23)).setRow wa2.heap.size (brow D) = wb := ⟨_, rfl⟩
      rw [hwb] at HN2 HKb2 HN1x2
      have HW2 := hide hwb
      clear ka kab hwb
      obtain ⟨c0, r1, ⟨c33, c34, c35⟩, r36⟩ := ask_cells (unhide HGK wb2 (unhide HKb2)) hll
      have HR1 := hide r1
      clear r1 r36
      go_wp2_with (first
        | (rw [zb32]; refine wpList_store_row rfl 23 (.tmp 10) _ rfl wa2.heap.size (brow D) rfl rfl _ (zb 32) (heap_alloc_new _ _) (Tryd.szD hdl) (by rw [zb_size, brow_size, hdl]) (brow_one _) ?_; rw [unhide HW2])
        | (refine wpList_load_mid rfl 23 _ rfl w.heap.size 1 rfl (q.l.map Go.Proofs.YtbljofojeagdkaaDoor.u8) _ (unhide HR1) Tryd.underlying23 rfl (unhide HSL) ?_)
        | (refine wpList_load_row rfl 23 (.tmp 10) rfl wa2.heap.size rfl _ (brow D) (0, 0) _ (unhide HN2) Tryd.underlying23 rfl (Tryd.szD hdl) ?_))
      clear c0 c33 c34 c35 HR1
      refine (unhide HIN wb2 (unhide HKb2)).mono ?_
      rintro e w5 ⟨rfl, k5⟩
      have HK5 := hide ((unhide HKb2).trans k5 (by simp))
      have HN15 := hide (k5.heap (unhide HN1x2) (by simp))
      have HN25 := hide (k5.heap (unhide HN2) (by simp))
      clear k5 HN1 HN2 HN1x2 HKb1 HKb2
      obtain ⟨c0, r1, ⟨c33, c34, c35⟩, r36⟩ := ask_cells (unhide HGK w5 (unhide HK5)) hll
      have HR1 := hide r1
      clear r1 r36
      go_wp2_with (first
        | (refine wpList_load_mid rfl 23 _ rfl w.heap.size 1 rfl (q.l.map Go.Proofs.YtbljofojeagdkaaDoor.u8) _ (unhide HR1) Tryd.underlying23 rfl (unhide HSL) ?_))
      clear c0 c33 c34 c35 HR1
      refine (unhide HRS w5 (unhide HK5)).mono ?_
      rintro e wd3 ⟨rfl, kd⟩
      have HA3 := hide (((Kept.refl [] (wd3.alloc (.cells (zb 32) 23))).alloc (.cells (zb 32) 23)).heap (heap_alloc_new wd3 (.cells (zb 32) 23)) (by simp))
      have HB3 := hide ((setRow_other ((wd3.alloc (.cells (zb 32) 23)).alloc (.cells (zb 32) 23)) wd3.heap.size (wd3.heap.size + 1) (brow A) (by omega)).trans (alloc_at wd3 (.cells (zb 32) 23) (.cells (zb 32) 23)))
      have kab := ((((Kept.refl [] wd3).alloc (.cells (zb 32) 23)).alloc (.cells (zb 32) 23)).setRow (g := wd3.heap.size) (Or.inr (Nat.le_refl _)) (brow A)).setRow (g := wd3.heap.size + 1) (Or.inr (by omega)) (brow B)
      have HX3 := hide ((setRow_other (((wd3.alloc (.cells (zb 32) 23)).alloc (.cells (zb 32) 23)).setRow wd3.heap.size (brow A)) (wd3.heap.size + 1) wd3.heap.size (brow B) (by omega)).trans (setRow_heap _ _ _ (brow A) _ _ (unhide HA3)))
      have HY3 := hide (setRow_heap (((wd3.alloc (.cells (zb 32) 23)).alloc (.cells (zb 32) 23)).setRow wd3.heap.size (brow A)) _ _ (brow B) _ _ (unhide HB3))
      have kk := kd.trans kab (by simp)
      have HKb3 := hide ((unhide HK5).trans kk (by simp))
      have HN15x3 := hide (kk.heap (unhide HN15) (by simp))
      have HN25x3 := hide (kk.heap (unhide HN25) (by simp))
      obtain ⟨wb3, hwb⟩ : ∃ wb, (((wd3.alloc (.cells (zb 32) 23)).alloc (.cells (zb 32) 23)).setRow wd3.heap.size (brow A)).setRow (wd3.heap.size + 1) (brow B) = wb := ⟨_, rfl⟩
      rw [hwb] at HX3 HY3 HKb3 HN15x3 HN25x3
      have HW3 := hide hwb
      clear kd kab kk hwb
      obtain ⟨c0, r1, ⟨c33, c34, c35⟩, r36⟩ := ask_cells (unhide HGK wb3 (unhide HKb3)) hll
      have HR1 := hide r1
      clear r1 r36
      go_wp2_with (first
        | (rw [zb32]; refine wpList_store_row rfl 23 (.tmp 13) _ rfl wd3.heap.size (brow A) rfl rfl _ (zb 32) (unhide HA3) (Tryd.szD hal) (by rw [zb_size, brow_size, hal]) (brow_one _) ?_)
        | (refine wpList_store_row rfl 23 (.tmp 14) _ rfl (wd3.heap.size + 1) (brow B) rfl rfl _ (zb 32) (unhide HB3) (Tryd.szD hbl) (by rw [zb_size, brow_size, hbl]) (brow_one _) ?_; rw [unhide HW3])
        | (refine wpList_load_mid rfl 23 _ rfl w.heap.size 1 rfl (q.l.map Go.Proofs.YtbljofojeagdkaaDoor.u8) _ (unhide HR1) Tryd.underlying23 rfl (unhide HSL) ?_))
      clear c0 c33 c34 c35 HR1
      refine (unhide HDS wb3 (unhide HKb3)).mono ?_
      rintro e wd4 ⟨rfl, kd⟩
      have HA4 := hide (((Kept.refl [] (wd4.alloc (.cells (zb 32) 23))).alloc (.cells (zb 32) 23)).heap (heap_alloc_new wd4 (.cells (zb 32) 23)) (by simp))
      have HB4 := hide ((setRow_other ((wd4.alloc (.cells (zb 32) 23)).alloc (.cells (zb 32) 23)) wd4.heap.size (wd4.heap.size + 1) (brow A) (by omega)).trans (alloc_at wd4 (.cells (zb 32) 23) (.cells (zb 32) 23)))
      have kab := ((((Kept.refl [] wd4).alloc (.cells (zb 32) 23)).alloc (.cells (zb 32) 23)).setRow (g := wd4.heap.size) (Or.inr (Nat.le_refl _)) (brow A)).setRow (g := wd4.heap.size + 1) (Or.inr (by omega)) (brow B)
      have HX4 := hide ((setRow_other (((wd4.alloc (.cells (zb 32) 23)).alloc (.cells (zb 32) 23)).setRow wd4.heap.size (brow A)) (wd4.heap.size + 1) wd4.heap.size (brow B) (by omega)).trans (setRow_heap _ _ _ (brow A) _ _ (unhide HA4)))
      have HY4 := hide (setRow_heap (((wd4.alloc (.cells (zb 32) 23)).alloc (.cells (zb 32) 23)).setRow wd4.heap.size (brow A)) _ _ (brow B) _ _ (unhide HB4))
      have kk := kd.trans kab (by simp)
      have HKb4 := hide ((unhide HKb3).trans kk (by simp))
      have HN15x3x4 := hide (kk.heap (unhide HN15x3) (by simp))
      have HN25x3x4 := hide (kk.heap (unhide HN25x3) (by simp))
      have HX3x4 := hide (kk.heap (unhide HX3) (by simp))
      have HY3x4 := hide (kk.heap (unhide HY3) (by simp))
      obtain ⟨wb4, hwb⟩ : ∃ wb, (((wd4.alloc (.cells (zb 32) 23)).alloc (.cells (zb 32) 23)).setRow wd4.heap.size (brow A)).setRow (wd4.heap.size + 1) (brow B) = wb := ⟨_, rfl⟩
      rw [hwb] at HX4 HY4 HKb4 HN15x3x4 HN25x3x4 HX3x4 HY3x4
      have HW4 := hide hwb
      clear kd kab kk hwb
      obtain ⟨c0, r1, ⟨c33, c34, c35⟩, r36⟩ := ask_cells (unhide HGK wb4 (unhide HKb4)) hll
      have HR1 := hide r1
      clear r1 r36
      go_wp2_with (first
        | (rw [zb32]; refine wpList_store_row rfl 23 (.tmp 16) _ rfl wd4.heap.size (brow A) rfl rfl _ (zb 32) (unhide HA4) (Tryd.szD hal) (by rw [zb_size, brow_size, hal]) (brow_one _) ?_)
        | (refine wpList_store_row rfl 23 (.tmp 17) _ rfl (wd4.heap.size + 1) (brow B) rfl rfl _ (zb 32) (unhide HB4) (Tryd.szD hbl) (by rw [zb_size, brow_size, hbl]) (brow_one _) ?_; rw [unhide HW4])
        | (refine wpList_load_mid rfl 23 _ rfl w.heap.size 1 rfl (q.l.map Go.Proofs.YtbljofojeagdkaaDoor.u8) _ (unhide HR1) Tryd.underlying23 rfl (unhide HSL) ?_)
        | (refine wpList_load_row rfl 23 (.tmp 17) rfl (wd4.heap.size + 1) rfl _ (brow B) (0, 0) _ (unhide HY4) Tryd.underlying23 rfl (Tryd.szD hbl) ?_))
      clear c0 c33 c34 c35 HR1
      refine (unhide HCO wb4 (unhide HKb4)).mono ?_
      rintro e w8 ⟨rfl, k8⟩
      have HK8 := hide ((unhide HKb4).trans k8 (by simp))
      have HN18 := hide (k8.heap (unhide HN15x3x4) (by simp))
      have HN28 := hide (k8.heap (unhide HN25x3x4) (by simp))
      have HX38 := hide (k8.heap (unhide HX3x4) (by simp))
      have HY38 := hide (k8.heap (unhide HY3x4) (by simp))
      have HX48 := hide (k8.heap (unhide HX4) (by simp))
      have HY48 := hide (k8.heap (unhide HY4) (by simp))
      clear k8 HN15x3x4 HN25x3x4 HX3x4 HY3x4 HX4 HY4 HA3 HB3 HA4 HB4 HN15 HN25 HN15x3 HN25x3 HX3 HY3 HK5 HKb3 HKb4
      go_wp2_with (first
        | (refine wpList_load_row rfl 23 (.tmp 8) rfl wa1.heap.size rfl _ (brow D) (0, 0) _ (unhide HN18) Tryd.underlying23 rfl (Tryd.szD hdl) ?_)
        | (refine wpList_load_row rfl 23 (.tmp 10) rfl wa2.heap.size rfl _ (brow D) (0, 0) _ (unhide HN28) Tryd.underlying23 rfl (Tryd.szD hdl) ?_)
        | (refine wpList_load_rowG rfl 23 (.tmp 13) rfl wd3.heap.size rfl _ (brow A) (0, 0) _ (unhide HX38) Tryd.underlying23 rfl (Tryd.szD hal) ?_)
        | (refine wpList_load_rowG rfl 23 (.tmp 16) rfl wd4.heap.size rfl _ (brow A) (0, 0) _ (unhide HX48) Tryd.underlying23 rfl (Tryd.szD hal) ?_)
        | (refine wpList_load_rowG rfl 23 (.tmp 14) rfl (wd3.heap.size + 1) rfl _ (brow B) (0, 0) _ (unhide HY38) Tryd.underlying23 rfl (Tryd.szD hbl) ?_)
        | (refine wpList_load_rowG rfl 23 (.tmp 17) rfl (wd4.heap.size + 1) rfl _ (brow B) (0, 0) _ (unhide HY48) Tryd.underlying23 rfl (Tryd.szD hbl) ?_))
      refine (unhide HSA w8 (unhide HK8)).mono ?_
      rintro e w9 ⟨rfl, k9⟩
      have HK9 := hide ((unhide HK8).trans k9 (by simp))
      have HN29 := hide (k9.heap (unhide HN28) (by simp))
      have HY49 := hide (k9.heap (unhide HY48) (by simp))
      clear k9 HK8 HN18 HN28 HX38 HY38 HX48 HY48
      obtain ⟨c0, r1, ⟨c33, c34, c35⟩, r36⟩ := ask_cells (unhide HGK w9 (unhide HK9)) hll
      have HR1 := hide r1
      clear r1 r36
      go_wp2_with (first
        | (refine wpList_load_mid rfl 23 _ rfl w.heap.size 1 rfl (q.l.map Go.Proofs.YtbljofojeagdkaaDoor.u8) _ (unhide HR1) Tryd.underlying23 rfl (unhide HSL) ?_)
        | (refine wpList_load_row rfl 23 (.tmp 10) rfl wa2.heap.size rfl _ (brow D) (0, 0) _ (unhide HN29) Tryd.underlying23 rfl (Tryd.szD hdl) ?_))
      clear c0 c33 c34 c35 HR1
      refine (unhide HDI w9 (unhide HK9)).mono ?_
      rintro e w10 ⟨rfl, k10⟩
      have HK10 := hide ((unhide HK9).trans k10 (by simp))
      have HY410 := hide (k10.heap (unhide HY49) (by simp))
      clear k10 HK9 HN29 HY49
      obtain ⟨c0, r1, ⟨c33, c34, c35⟩, r36⟩ := ask_cells (unhide HGK w10 (unhide HK10)) hll
      have HR1 := hide r1
      clear r1 r36
      go_wp2_with (first
        | (refine wpList_load_midG rfl 23 _ rfl w.heap.size 1 rfl (q.l.map Go.Proofs.YtbljofojeagdkaaDoor.u8) _ (unhide HR1) Tryd.underlying23 rfl (unhide HSL) ?_)
        | (refine wpList_load_rowG rfl 23 (.tmp 17) rfl (wd4.heap.size + 1) rfl _ (brow B) (0, 0) _ (unhide HY410) Tryd.underlying23 rfl (Tryd.szD hbl) ?_))
      clear c0 c33 c34 c35 HR1
      refine (unhide HDC w10 (unhide HK10)).mono ?_
      rintro e w11 ⟨rfl, k11⟩
      have HK11 := hide ((unhide HK10).trans k11 (by simp))
      clear k11 HK10 HY410
      go_wp2_with fail
      go_roundw
      case rel => exact ⟨j + 1, by omega, by simp, HK11⟩
      case measure => simp [intOf]; omega
    · have hlt' : ¬ (j : Int) < 2 := by omega
      clear HRO HDR HIN HDI HRS HDS HCO HDC HSA hqD hqA hqB hdl hal hbl HDD HAB
      obtain ⟨m, wc, hrun, owc, hkc⟩ := copyD_any wr w1.heap.size g q.p.length cap3 F os oa os.length oc 3 (by have h9 := ((unhide HO5).pass (unhide HKr)).own; rw [hFl] at h9 ⊢; exact h9) (by omega) ((unhide HOV).old ((unhide HK1).trans ((unhide HK4).trans (unhide HKr) (by simp)) (by simp))) (unhide HO5).dg
      have HKc := hide (hkc w1 ((unhide HK4).trans (unhide HKr) (by simp)) hgw)
      obtain ⟨N, hN⟩ : ∃ N, (cpD F os q.p.length).take q.p.length = N := ⟨_, rfl⟩
      have hcl := cpD_len (full := F) (other := os) (n := q.p.length) (by omega)
      have hNl : N.length = q.p.length := by rw [← hN, List.length_take, hcl]; omega
      have HPN := hide (by
        have h9 := (rdd_owns (by rw [← hcl] at owc; exact owc) (cpD_dg (unhide HO5).dg (fun d hd => (unhide HOV).dg hd))).upto q.p.length (by omega)
        rw [hN] at h9
        exact h9 : RdD wc (.slice (some ⟨g, 0, none⟩) q.p.length cap3) N)
      clear owc hkc hN hcl
      go_wp2_with fail
      clear hrun
      refine (twinD_any _ N wc (unhide HPN) (by omega)).mono ?_
      rintro e wt ⟨u9, rfl, rd9, k9, _⟩
      have HKt := hide ((unhide HKc).trans k9 (by simp))
      have HPt := hide ((unhide HPN).old k9)
      have HRt := hide rd9
      clear rd9 k9 HPN HKc
      have HTt := hide (fun W (kk : Kept [] wt W) => (unhide HT).k ((unhide HK1).trans ((unhide HKt).trans kk (by simp)) (by simp)))
      have HGt := hide (fun W (kk : Kept [] wt W) => ((unhide HKt).trans kk (by simp)).heap (unhide HG1) (by simp))
      have HD2 := hide (rootD_dg (z := q.z) (i := q.i) (n := q.n) (p := N) (unhide HQ).l)
      have HR2 := hide (fun W (kk : Kept [] wt W) => rootOf_any q.z q.l q.i q.n (.slice (some ⟨g, 0, none⟩) q.p.length cap3) N W (unhide HQ).z (unhide HQ).l (unhide HQ).i (unhide HQ).n ((unhide HPt).old kk) (unhide HTt W kk))
      have HR3 := hide (fun W (kk : Kept [] wt W) => docRootOf_any q.z q.l q.i q.n u9 N W (unhide HQ).z (unhide HQ).l (unhide HQ).i (unhide HQ).n ((unhide HRt).old kk) (by omega))
      have HS2 := hide (fun W (kk : Kept [] wt W) => same12_any (.slice (some ⟨g, 0, none⟩) q.p.length cap3) u9 N W ((unhide HPt).old kk) ((unhide HRt).old kk))
      have HZ := hide (fun (h9 : rootE q.z q.l q.i q.n N ≠ 0) => (by unfold rootD; exact if_neg h9 : rootD q.z q.l q.i q.n N = zD))
      generalize rootE q.z q.l q.i q.n N = E2 at HR2 HR3 HZ
      generalize rootD q.z q.l q.i q.n N = D2 at HR2 HR3 HZ HD2
      have hd2 := (unhide HD2).1
      have hq2 := fun W => dig_eq W D2 D2 hd2 hd2
      rw [decide_eq_true rfl] at hq2
      have HKz := hide (Kept.refl [] wt)
      obtain ⟨c0, r1, ⟨c33, c34, c35⟩, r36⟩ := ask_cells (unhide HGt wt (unhide HKz)) hll
      have HR1 := hide r1
      clear r1 r36
      go_wp2_with (first
        | (refine wpList_load_mid rfl 23 _ rfl w.heap.size 1 rfl (q.l.map Go.Proofs.YtbljofojeagdkaaDoor.u8) _ (unhide HR1) Tryd.underlying23 rfl (unhide HSL) ?_))
      clear c0 c33 c34 c35 HR1
      refine (unhide HR2 wt (unhide HKz)).mono ?_
      rintro e wa5 ⟨rfl, ka⟩
      have kab := ka.trans (kept_old wa5 D2) (by simp)
      have HN5 := hide (cell_new wa5 D2)
      have HKb5 := hide ((unhide HKz).trans kab (by simp))
      obtain ⟨wb5, hwb⟩ : ∃ wb, (wa5.alloc (.cells (zb 32) 23)).setRow wa5.heap.size (brow D2) = wb := ⟨_, rfl⟩
      rw [hwb] at HN5 HKb5
      have HW5 := hide hwb
      clear ka kab hwb
      obtain ⟨c0, r1, ⟨c33, c34, c35⟩, r36⟩ := ask_cells (unhide HGt wb5 (unhide HKb5)) hll
      have HR1 := hide r1
      clear r1 r36
      go_wp2_with (first
        | (rw [zb32]; refine wpList_store_row rfl 23 (.tmp 21) _ rfl wa5.heap.size (brow D2) rfl rfl _ (zb 32) (heap_alloc_new _ _) (Tryd.szD hd2) (by rw [zb_size, brow_size, hd2]) (brow_one _) ?_; rw [unhide HW5])
        | (refine wpList_load_mid rfl 23 _ rfl w.heap.size 1 rfl (q.l.map Go.Proofs.YtbljofojeagdkaaDoor.u8) _ (unhide HR1) Tryd.underlying23 rfl (unhide HSL) ?_))
      clear c0 c33 c34 c35 HR1
      refine (unhide HR3 wb5 (unhide HKb5)).mono ?_
      rintro e wa6 ⟨rfl, ka⟩
      have kab := ka.trans (kept_old wa6 D2) (by simp)
      have HN6 := hide (cell_new wa6 D2)
      have HKb6 := hide ((unhide HKb5).trans kab (by simp))
      have HN5x6 := hide (kab.heap (unhide HN5) (by simp))
      obtain ⟨wb6, hwb⟩ : ∃ wb, (wa6.alloc (.cells (zb 32) 23)).setRow wa6.heap.size (brow D2) = wb := ⟨_, rfl⟩
      rw [hwb] at HN6 HKb6 HN5x6
      have HW6 := hide hwb
      clear ka kab hwb
      go_wp2_with (first
        | (rw [zb32]; refine wpList_store_row rfl 23 (.tmp 23) _ rfl wa6.heap.size (brow D2) rfl rfl _ (zb 32) (heap_alloc_new _ _) (Tryd.szD hd2) (by rw [zb_size, brow_size, hd2]) (brow_one _) ?_; rw [unhide HW6])
        | (refine wpList_load_row rfl 23 (.tmp 21) rfl wa5.heap.size rfl _ (brow D2) (0, 0) _ (unhide HN5x6) Tryd.underlying23 rfl (Tryd.szD hd2) ?_)
        | (refine wpList_load_row rfl 23 (.tmp 23) rfl wa6.heap.size rfl _ (brow D2) (0, 0) _ (unhide HN6) Tryd.underlying23 rfl (Tryd.szD hd2) ?_))
      refine (unhide HS2 wb6 (unhide HKb6)).mono ?_
      rintro e we ⟨rfl, ke⟩
      have HNe := hide (ke.heap (unhide HN5x6) (by simp))
      have HKe := hide ((unhide HK1).trans ((unhide HKt).trans ((unhide HKb6).trans ke (by simp)) (by simp)) (by simp))
      clear ke
      by_cases hE0 : E2 = 0
      · have hE0' : (E2 : Int) = 0 := by omega
        clear hE0
        go_wp2_with fail
        go_ret
        exact ⟨rfl, unhide HKe⟩
      · have hE0' : ¬ (E2 : Int) = 0 := by omega
        have hDz := unhide HZ hE0
        subst hDz
        have hqz : ∀ W, (Op.equalIn 10000 23 (.agg (brow zD)) (.agg (zb 32))).run Tryd.prog W = .ok true W := fun W => hq2 W
        rw [← zb32] at hqz
        have hEb : ((E2 : Int) == 0) = false := by simp; omega
        clear hE0
        go_wp2_with (first
          | simp only [hEb]
          | (refine wpList_load_rowG rfl 23 (.tmp 21) rfl wa5.heap.size rfl _ (brow zD) (0, 0) _ (unhide HNe) Tryd.underlying23 rfl (Tryd.szD hd2) ?_))
        go_ret
        exact ⟨rfl, unhide HKe⟩

theorem mcheckKeeps_walk (q : AskD) (pv ov : Value) (os : List (List Nat)) (w : World) (hq : OkA w q pv) (ho : RdD w ov os) (hos : os.length ≤ 1048576) (hT : Tabs w) :
    Calls Tryd.prog 3 #[.agg (askC q pv).toArray, ov] w fun e w' => e = .returned (.bool true) ∧ Below w.heap.size w w' :=
  (mcheckKeeps_go q pv ov os w hq ho hT).mono fun e w' h9 => ⟨h9.1, h9.2.below (Nat.le_refl _) (by simp)⟩
end Go.Proofs.YtbljofojeagdkaaDoor
namespace Go.Proofs.YtbljofojeagdkaaDoor
open Go.ChangeShapes Go.WideShapes Go.ChangeAt Go.RowKit Go.Deep
set_option linter.unusedVariables false
set_option linter.unusedSimpArgs false

theorem own : ownKnob Tryd.prog.godebug = none := by kernel_rfl
theorem laidOut : laidOutB Tryd.prog = true := by kernel_rfl
theorem byte_of_wf {x : Int} (h : (Lit.int .u8 x).wf = true) : 0 ≤ x ∧ x < 256 := by
  simp [Lit.wf, IntKind.min, IntKind.max, IntKind.signed, IntKind.bits] at h
  exact ⟨by omega, by omega⟩
theorem int_of_wf {x : Int} (h : (Lit.int .i64 x).wf = true) : -9223372036854775808 ≤ x ∧ x ≤ 9223372036854775807 := by
  simp [Lit.wf, IntKind.min, IntKind.max, IntKind.signed, IntKind.bits] at h
  exact ⟨by omega, by omega⟩

theorem bulk_one {H : Type} (d : DataW H) : 1 ≤ Rows.uptoBulk d := by
  cases d with
  | lit l => cases l <;> simp [Rows.uptoBulk]
  | nil => simp [Rows.uptoBulk]
  | ptr d => simp [Rows.uptoBulk]
  | slice elems spare => simp [Rows.uptoBulk]
  | agg parts => simp [Rows.uptoBulk]
  | iface t d => simp [Rows.uptoBulk]
  | map entries => simp [Rows.uptoBulk]
  | held h => simp [Rows.uptoBulk]
theorem bulk_len {H : Type} (l : List (DataW H)) : l.length ≤ Rows.uptoBulkAll l := by
  induction l with
  | nil => simp [Rows.uptoBulkAll]
  | cons x r ih => have := bulk_one x; simp only [Rows.uptoBulkAll, List.length_cons]; omega
theorem Tryd.bytes5 : Tryd.prog.bytesOf 5 = 1 := by kernel_rfl

section
variable {H : Type} {enc : TypeId × Value → H} {W : World}

/-- Bytes that came in, as the walks want them, of whatever length. -/
theorem open_bytes {fuel : Nat} {cs : List Value} {x : DataW H × List MemPlace} (h : DataW.trod enc Tryd.prog W 0 (fun _ => true) true fuel 80 cs = some x) :
    ∃ v bs, cs = [v] ∧ (bs.length ≤ 140737488355328 → Rd W v bs) ∧ ((bs = [] ∧ x.1 = .nil) ∨ ∃ elems spare, x.1 = .slice elems spare ∧ elems.length = bs.length) := by
  rcases open_ints Tryd.underlying80 Tryd.underlying5 (by kernel_rfl) h with ⟨rfl, rfl⟩ | ⟨a, len, cap, zs, rfl, _, hl, hm, hz, rfl, hcell, hwz⟩
  · exact ⟨_, [], rfl, fun _ => Rd.nil W, .inl ⟨rfl, rfl⟩⟩
  · have h2 : (lits (H := H) .u8 (zs.take len)).length = len := by simp only [lits, List.length_map, List.length_take]; simp at hz; omega
    have hbl : ((zs.take len).map Int.toNat).length = len := by simp at hz; simp; omega
    refine ⟨_, (zs.take len).map Int.toNat, rfl, fun hB => ⟨_, _, _, rfl, hbl, hl, ⟨by unfold maxLen at hm; omega, by omega⟩, by simp, ?_, ?_⟩, .inr ⟨_, _, rfl, by rw [h2, hbl]⟩⟩
    · intro y hy
      obtain ⟨z, hz1, rfl⟩ := List.mem_map.1 hy
      have := byte_of_wf (hwz z (List.mem_of_mem_take hz1)); omega
    · intro hp
      simp at hz
      have hc0 := hcell 0 (by omega)
      obtain ⟨b, off, spot⟩ := a
      have hspot : spot = none := by simpa [Addr.add] using World.cell?_spot hc0
      subst hspot
      refine ⟨b, off, rfl, fun i hi => ?_⟩
      have hc := hcell i (by omega)
      have hzi : i < zs.length := by omega
      rw [Addr.add_mid] at hc
      rw [hc]
      have hw := byte_of_wf (hwz (zs[i]) (List.getElem_mem hzi))
      simp only [List.getD_eq_getElem?_getD, List.getElem?_eq_getElem hzi, Option.getD_some, List.getElem?_map, List.getElem?_take, hi, if_true, Option.map_some]
      simp [u8]; omega
/-- Their length, by the reach. -/
theorem reach_bytes {ts : List TypeId} {ds : List (DataW H)} (h : (DataW.weightsEach Tryd.prog ts ds).all (· ≤ reachBytes) = true) {j : Nat} (ht : ts[j]? = some 80) {d : DataW H} (hd : ds[j]? = some d) {bs : List Nat}
    (hx : (bs = [] ∧ d = .nil) ∨ ∃ elems spare, d = .slice elems spare ∧ elems.length = bs.length) : bs.length ≤ 140737488351232 := by
  rcases hx with ⟨rfl, _⟩ | ⟨elems, spare, rfl, he⟩
  · simp
  · have := sized_slice h ht hd Tryd.underlying80
    rw [Tryd.bytes5, Nat.mul_one] at this
    unfold reachBytes at this
    omega
/-- Their length, by the bulk. -/
theorem bulk_bytes {d : DataW H} {bs : List Nat} (hx : (bs = [] ∧ d = .nil) ∨ ∃ elems spare, d = .slice elems spare ∧ elems.length = bs.length) : bs.length + 1 ≤ Rows.uptoBulk d := by
  rcases hx with ⟨rfl, rfl⟩ | ⟨elems, spare, rfl, he⟩
  · simp [Rows.uptoBulk]
  · have := bulk_len elems
    simp only [Rows.uptoBulk]; omega
end
end Go.Proofs.YtbljofojeagdkaaDoor
namespace Go.Proofs.YtbljofojeagdkaaDoor
open Go Go.RowKit
set_option linter.unusedVariables false
set_option linter.unusedSimpArgs false
section
variable {H : Type} {enc : TypeId × Value → H} {W : World}

def natOf : Value → Nat
  | .int _ n => n.toNat
  | _ => 0
/-- A digest that came in. -/
theorem open_dig {fuel : Nat} {cs : List Value} {x : DataW H × List MemPlace} (h : DataW.trod enc Tryd.prog W 0 (fun _ => true) true fuel 23 cs = some x) :
    ∃ l : List Nat, cs = l.map u8 ∧ l.length = 32 ∧ ∀ y ∈ l, y < 256 := by
  obtain ⟨xs, m, _, rfl, hl, hn, hc⟩ := DataW.trod_array Tryd.underlying23 h
  rw [show Tryd.prog.cellsOf 23 = 32 from by kernel_rfl] at hl
  rw [show Tryd.prog.cellsOf 5 = 1 from by kernel_rfl] at hc
  have key : ∀ i (hi : i < cs.length), cs[i] = u8 (natOf cs[i]) ∧ natOf cs[i] < 256 := by
    intro i hi
    have h1 := hc i (by omega)
    rw [Nat.mul_one, List.getElem?_eq_getElem (by omega)] at h1
    obtain ⟨n, e, _, hw⟩ := DataW.trod_int Tryd.underlying5 h1
    rw [List.drop_eq_getElem_cons hi, List.take_succ_cons, List.take_zero] at e
    simp only [List.cons.injEq, and_true] at e
    have := byte_of_wf hw
    rw [e]
    refine ⟨?_, ?_⟩
    · simp [u8, natOf]; omega
    · simp [natOf]; omega
  refine ⟨cs.map natOf, ?_, by simp [hl], ?_⟩
  · rw [List.map_map]
    refine List.ext_getElem (by simp) fun i h1 h2 => ?_
    rw [List.getElem_map]
    exact (key i h1).1
  · intro y hy
    obtain ⟨v, hv, rfl⟩ := List.mem_map.1 hy
    obtain ⟨i, hi, rfl⟩ := List.getElem_of_mem hv
    exact (key i hi).2
set_option maxRecDepth 100000 in
theorem open_digv {b0 : Nat} {v : Value} {d : DataW H} {ps : List MemPlace} (hv : Value.okWide Tryd.prog W .any b0 23 v) (h : DataW.Trod enc Tryd.prog W 0 (fun _ => true) true 23 v d ps) :
    ∃ l : List Nat, v = .agg (brow l) ∧ l.length = 32 ∧ ∀ y ∈ l, y < 256 := by
  unfold Value.okWide at hv
  rw [Tryd.underlying23] at hv
  obtain ⟨cs, rfl, _, _⟩ := hv
  obtain ⟨fuel, hf⟩ := h
  obtain ⟨l, e, h1, h2⟩ := open_dig hf
  refine ⟨l, ?_, h1, h2⟩
  simp only [Value.cells] at e
  unfold brow
  rw [← e]
end
end Go.Proofs.YtbljofojeagdkaaDoor
namespace Go.Proofs.YtbljofojeagdkaaDoor
open Go.ChangeShapes Go.WideShapes Go.ChangeAt Go.RowKit Go.Deep
set_option linter.unusedVariables false
set_option linter.unusedSimpArgs false
section
variable {H : Type} {enc : TypeId × Value → H} {W : World}

theorem o_bulk_part {d : DataW H} {l : List (DataW H)} (h : d ∈ l) : Rows.uptoBulk d ≤ Rows.uptoBulkAll l := by
  induction l with
  | nil => cases h
  | cons x r ih =>
    simp only [Rows.uptoBulkAll]
    cases List.mem_cons.1 h with
    | inl e => subst e; omega
    | inr e => have := ih e; omega
theorem o_split (cs : List Value) (a n : Nat) : cs.drop a = (cs.drop a).take n ++ cs.drop (a + n) := by
  rw [← List.drop_drop, List.take_append_drop]

/-- Digests that came in. -/
theorem open_digs2 {fuel : Nat} {cs : List Value} {x : DataW H × List MemPlace} (h : DataW.trod enc Tryd.prog W 0 (fun _ => true) true fuel 25 cs = some x) (hB : Rows.uptoBulk x.1 ≤ 1048576) :
    ∃ v ds, cs = [v] ∧ RdD W v ds ∧ ds.length ≤ 1048576 := by
  rcases open_slice Tryd.underlying25 h with ⟨rfl, rfl⟩ | ⟨a, len, cap, m, n, D, Pl, rfl, _, hl, hm, hmm, rfl, hx⟩
  · exact ⟨_, [], rfl, ⟨none, 0, 0, rfl, rfl, Nat.le_refl _, by omega, fun d hd => by simp at hd, fun h => by omega⟩, by simp⟩
  · have hC : Tryd.prog.cellsOf 23 = 32 := by kernel_rfl
    rw [hC] at hx
    simp only [if_true] at hmm
    simp only [Rows.uptoBulk] at hB
    have hcap : cap ≤ 1048576 := by
      have h1 := bulk_len ((List.range len).map D)
      have h2 := bulk_len ((List.range (m - len)).map fun j => D (len + j))
      simp at h1 h2
      omega
    obtain ⟨f, hf⟩ := choose_lt (α := List Nat) (n := len) (p := fun i o => (∀ j v, (o.map u8)[j]? = some v → W.cell? ((a.add (i * 32)).add j) = some v) ∧ o.length = 32 ∧ ∀ y ∈ o, y < 256) (by
      intro i hi
      obtain ⟨cs', h1, h2⟩ := hx i (by omega)
      obtain ⟨l, rfl, hl1, hl2⟩ := open_dig h2
      obtain ⟨_, hlen, hc⟩ := World.cells?_some h1
      refine ⟨l, fun j v hv => ?_, hl1, hl2⟩
      have hj := (List.getElem?_eq_some_iff.1 hv).1
      have := hc j (by rw [List.length_map] at hj; omega)
      rw [this, ← hv, List.getElem?_eq_getElem hj])
    refine ⟨_, (List.range len).map f, rfl, ⟨some a, len, cap, rfl, by simp, hl, by omega, ?_, ?_⟩, by simp; omega⟩
    · intro d hd
      obtain ⟨i, hi, rfl⟩ := List.mem_map.1 hd
      exact (hf i (List.mem_range.1 hi)).2
    · intro hp
      obtain ⟨b, off, spot⟩ := a
      have h0 := hf 0 hp
      have hc0 := h0.1 0 (u8 ((f 0).getD 0 0)) (by rw [List.getElem?_map, List.getD_eq_getElem?_getD, List.getElem?_eq_getElem (by omega)]; rfl)
      have hspot : spot = none := by simpa [Addr.add] using World.cell?_spot hc0
      subst hspot
      refine ⟨b, off, rfl, fun i hi j v hv => ?_⟩
      have e9 : ((List.range len).map f).getD i [] = f i := by simp [List.getD_eq_getElem?_getD, hi]
      rw [e9] at hv
      have := (hf i hi).1 j v hv
      rw [Addr.add_mid, Addr.add_mid] at this
      exact this

/-- A question that came in. -/
theorem open_ask {fuel : Nat} {cs : List Value} {x : DataW H × List MemPlace} (h : DataW.trod enc Tryd.prog W 0 (fun _ => true) true fuel 27 cs = some x) (hB : Rows.uptoBulk x.1 ≤ 1048576) :
    ∃ (q : AskD) (pv : Value), cs = askC q pv ∧ OkA W q pv := by
  obtain ⟨xs, n, _, rfl, hl, hlen, hf⟩ := DataW.trod_struct Tryd.underlying27 h
  rw [show Tryd.prog.cellsOf 27 = 68 from by kernel_rfl] at hl
  match xs, hlen with
  | [y0, y1, y2, y3, y4, y5], _ =>
    have c3 : Tryd.prog.cellsOf 3 = 1 := by kernel_rfl
    have cd : Tryd.prog.cellsOf 23 = 32 := by kernel_rfl
    have cu : Tryd.prog.cellsOf 24 = 1 := by kernel_rfl
    have ck : Tryd.prog.cellsOf 25 = 1 := by kernel_rfl
    have f0 : DataW.trod enc Tryd.prog W 0 (fun _ => true) true n 3 ((cs.drop 0).take 1) = some y0 := by have this : DataW.trod enc Tryd.prog W 0 (fun _ => true) true n 3 ((cs.drop 0).take (Tryd.prog.cellsOf 3)) = some y0 := hf 0 _ rfl; rw [c3] at this; exact this
    have f1 : DataW.trod enc Tryd.prog W 0 (fun _ => true) true n 23 ((cs.drop 1).take 32) = some y1 := by have this : DataW.trod enc Tryd.prog W 0 (fun _ => true) true n 23 ((cs.drop 1).take (Tryd.prog.cellsOf 23)) = some y1 := hf 1 _ rfl; rw [cd] at this; exact this
    have f2 : DataW.trod enc Tryd.prog W 0 (fun _ => true) true n 24 ((cs.drop 33).take 1) = some y2 := by have this : DataW.trod enc Tryd.prog W 0 (fun _ => true) true n 24 ((cs.drop 33).take (Tryd.prog.cellsOf 24)) = some y2 := hf 2 _ rfl; rw [cu] at this; exact this
    have f3 : DataW.trod enc Tryd.prog W 0 (fun _ => true) true n 24 ((cs.drop 34).take 1) = some y3 := by have this : DataW.trod enc Tryd.prog W 0 (fun _ => true) true n 24 ((cs.drop 34).take (Tryd.prog.cellsOf 24)) = some y3 := hf 3 _ rfl; rw [cu] at this; exact this
    have f4 : DataW.trod enc Tryd.prog W 0 (fun _ => true) true n 25 ((cs.drop 35).take 1) = some y4 := by have this : DataW.trod enc Tryd.prog W 0 (fun _ => true) true n 25 ((cs.drop 35).take (Tryd.prog.cellsOf 25)) = some y4 := hf 4 _ rfl; rw [ck] at this; exact this
    have f5 : DataW.trod enc Tryd.prog W 0 (fun _ => true) true n 23 ((cs.drop 36).take 32) = some y5 := by have this : DataW.trod enc Tryd.prog W 0 (fun _ => true) true n 23 ((cs.drop 36).take (Tryd.prog.cellsOf 23)) = some y5 := hf 5 _ rfl; rw [cd] at this; exact this
    simp only [List.map_cons, List.map_nil, Rows.uptoBulk, Rows.uptoBulkAll] at hB
    obtain ⟨z, e0, _, w0⟩ := DataW.trod_int Tryd.underlying3 f0
    obtain ⟨l, e1, l1, l2⟩ := open_dig f1
    obtain ⟨i, e2, _, w2⟩ := DataW.trod_int Tryd.underlying24 f2
    obtain ⟨m, e3, _, w3⟩ := DataW.trod_int Tryd.underlying24 f3
    obtain ⟨dv, ds, e4, hds, hdl⟩ := open_digs2 f4 (by omega)
    obtain ⟨r, e5, r1, r2⟩ := open_dig f5
    have hi : 0 ≤ i ∧ i < 18446744073709551616 := by
      simp [Lit.wf, IntKind.min, IntKind.max, IntKind.signed, IntKind.bits] at w2
      omega
    have hm : 0 ≤ m ∧ m < 18446744073709551616 := by
      simp [Lit.wf, IntKind.min, IntKind.max, IntKind.signed, IntKind.bits] at w3
      omega
    refine ⟨⟨z, l, i.toNat, m.toNat, ds, r⟩, dv, ?_, ⟨int_of_wf w0, ⟨l1, l2⟩, by show i.toNat < _; omega, by show m.toNat < _; omega, hds, hdl, ⟨r1, r2⟩⟩⟩
    have hd : cs.drop 68 = [] := List.drop_eq_nil_of_le (by omega)
    have this := o_split cs 0 1
    rw [e0, o_split cs 1 32, e1, o_split cs 33 1, e2, o_split cs 34 1, e3, o_split cs 35 1, e4, o_split cs 36 32, e5, hd, List.drop_zero] at this
    rw [this]
    simp [askC, Int.toNat_of_nonneg hi.1, Int.toNat_of_nonneg hm.1]

set_option maxRecDepth 100000 in
theorem open_askv {b0 : Nat} {v : Value} {d : DataW H} {ps : List MemPlace} (hv : Value.okWide Tryd.prog W .any b0 27 v) (h : DataW.Trod enc Tryd.prog W 0 (fun _ => true) true 27 v d ps) (hB : Rows.uptoBulk d ≤ 1048576) :
    ∃ (q : AskD) (pv : Value), v = .agg (askC q pv).toArray ∧ OkA W q pv := by
  unfold Value.okWide at hv
  rw [Tryd.underlying27] at hv
  obtain ⟨cs, rfl, _, _⟩ := hv
  obtain ⟨fuel, hf⟩ := h
  obtain ⟨q, pv, e, h1⟩ := open_ask hf hB
  refine ⟨q, pv, ?_, h1⟩
  simp only [Value.cells] at e
  rw [← e]
end
end Go.Proofs.YtbljofojeagdkaaDoor
