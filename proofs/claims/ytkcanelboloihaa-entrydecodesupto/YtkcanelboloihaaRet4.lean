/-
  A return of two variables: two loads and two stores; the second load may come up behind the first store. One law for all orders.
-/
import Derived.Test.YtkcanelboloihaaQTail
import Derived.Deep.MidRow
namespace Go.Proofs.Ytkcanelboloihaa
open Go

section
variable {P : Program} {ops : Array Oper} {Q : Exit → Act → World → Prop}
theorem wpOp_in {i : Nat} {o : Oper} {K : Act → World → Prop} {a : Act} {w : World} (hi : ops[i]? = some o) (hg : o.guard = none) (h : o.wp P a w K Q) : wpOp P ops Q i K a w := by
  have hw : Region.wanted o (yielded ops a.tmps) = true := by unfold Region.wanted; rw [hg]
  unfold wpOp; simp only [hi, hw, if_true]; exact Or.inl h

theorem wp_ret4 {id : Nat} {o0 o1 o2 o3 : Oper} {a : Act} {w : World} (hm : P.follows .mixedOrders = true)
    (r0 : Region.ready .any #[o0, o1, o2, o3] #[false, false, false, false] = [0, 1]) (r1 : Region.ready .any #[o0, o1, o2, o3] #[true, false, false, false] = [1, 2])
    (r2 : Region.ready .any #[o0, o1, o2, o3] #[false, true, false, false] = [0]) (r3 : Region.ready .any #[o0, o1, o2, o3] #[true, true, false, false] = [2])
    (r4 : Region.ready .any #[o0, o1, o2, o3] #[true, false, true, false] = [1]) (r5 : Region.ready .any #[o0, o1, o2, o3] #[true, true, true, false] = [3])
    (r6 : Region.ready .any #[o0, o1, o2, o3] #[true, true, true, true] = [])
    (g0 : o0.guard = none) (g1 : o1.guard = none) (g2 : o2.guard = none) (g3 : o3.guard = none)
    (t0 t1 : TypeId) (x0 x1 p0 p1 y0 y1 : Operand) (h0 : o0.op = .load t0 x0) (h1 : o1.op = .load t1 x1) (h2 : o2.op = .store t0 p0 y0) (h3 : o3.op = .store t1 p1 y1)
    (b0 b1 c0 c1 : Nat) (cs0 cs1 : List Value) (d0 d1 : TypeDesc)
    (R0 : w.drew.rangeAt b0 0 cs0) (R1 : w.drew.rangeAt b1 0 cs1) (T0 : w.drew.there c0 0 cs0.length) (T1 : w.drew.there c1 0 cs1.length) (hne : b1 ≠ c0)
    (hu0 : P.underlying t0 = some d0) (hd0 : d0.isRow = true) (hi0 : (P.info? t0).map (·.size) = some cs0.length) (n0 : ∀ v ∈ cs0, v.oneCell' = true)
    (hu1 : P.underlying t1 = some d1) (hd1 : d1.isRow = true) (hi1 : (P.info? t1).map (·.size) = some cs1.length) (n1 : ∀ v ∈ cs1, v.oneCell' = true)
    (e0 : a.eval x0 = .pointer (some ⟨b0, 0, none⟩)) (e0' : (a.put o1.dst (.agg cs1.toArray)).eval x0 = .pointer (some ⟨b0, 0, none⟩))
    (e1 : a.eval x1 = .pointer (some ⟨b1, 0, none⟩)) (e1' : (a.put o0.dst (.agg cs0.toArray)).eval x1 = .pointer (some ⟨b1, 0, none⟩)) (e1'' : ((a.put o0.dst (.agg cs0.toArray)).put o2.dst undef).eval x1 = .pointer (some ⟨b1, 0, none⟩))
    (k1 : (a.put o1.dst (.agg cs1.toArray)).put o0.dst (.agg cs0.toArray) = (a.put o0.dst (.agg cs0.toArray)).put o1.dst (.agg cs1.toArray))
    (k2 : ((a.put o0.dst (.agg cs0.toArray)).put o2.dst undef).put o1.dst (.agg cs1.toArray) = ((a.put o0.dst (.agg cs0.toArray)).put o1.dst (.agg cs1.toArray)).put o2.dst undef)
    (q0 : (a.put o0.dst (.agg cs0.toArray)).eval p0 = .pointer (some ⟨c0, 0, none⟩)) (q0' : ((a.put o0.dst (.agg cs0.toArray)).put o1.dst (.agg cs1.toArray)).eval p0 = .pointer (some ⟨c0, 0, none⟩))
    (z0 : (a.put o0.dst (.agg cs0.toArray)).eval y0 = .agg cs0.toArray) (z0' : ((a.put o0.dst (.agg cs0.toArray)).put o1.dst (.agg cs1.toArray)).eval y0 = .agg cs0.toArray)
    (q1 : (((a.put o0.dst (.agg cs0.toArray)).put o1.dst (.agg cs1.toArray)).put o2.dst undef).eval p1 = .pointer (some ⟨c1, 0, none⟩))
    (z1 : (((a.put o0.dst (.agg cs0.toArray)).put o1.dst (.agg cs1.toArray)).put o2.dst undef).eval y1 = .agg cs1.toArray)
    (h : Q .normal ((((a.put o0.dst (.agg cs0.toArray)).put o1.dst (.agg cs1.toArray)).put o2.dst undef).put o3.dst undef) ((w.drew.setCells c0 0 cs0).setCells c1 0 cs1)) :
    (Code.region id #[o0, o1, o2, o3] true).wp P Q a w := by
  refine wp_region_any hm ?_
  show wpAny P .any #[o0, o1, o2, o3] Q 4 #[false, false, false, false] a w.drew
  have i0 : (#[o0, o1, o2, o3] : Array Oper)[0]? = some o0 := rfl
  have i1 : (#[o0, o1, o2, o3] : Array Oper)[1]? = some o1 := rfl
  have i2 : (#[o0, o1, o2, o3] : Array Oper)[2]? = some o2 := rfl
  have i3 : (#[o0, o1, o2, o3] : Array Oper)[3]? = some o3 := rfl
  have last : ∀ A, A = (((a.put o0.dst (.agg cs0.toArray)).put o1.dst (.agg cs1.toArray)).put o2.dst undef) → wpAny P .any #[o0, o1, o2, o3] Q 1 #[true, true, true, false] A (w.drew.setCells c0 0 cs0) := by
    rintro A rfl
    refine ⟨fun hr => (by rw [r5] at hr; simp at hr), fun i hi => ?_⟩
    rw [r5] at hi
    obtain rfl : i = 3 := by simpa using hi
    refine wpOp_in i3 g3 (wp_store_mid t1 p1 y1 h3 c1 0 cs1.toArray q1 z1 (World.there_setCells (by simpa using T1) _ _ _) (by simpa using hi1) (all_oneCell_toArray n1) ?_)
    exact ⟨r6, by simpa using h⟩
  have third : ∀ A, A = ((a.put o0.dst (.agg cs0.toArray)).put o1.dst (.agg cs1.toArray)) → wpAny P .any #[o0, o1, o2, o3] Q 2 #[true, true, false, false] A w.drew := by
    rintro A rfl
    refine ⟨fun hr => (by rw [r3] at hr; simp at hr), fun i hi => ?_⟩
    rw [r3] at hi
    obtain rfl : i = 2 := by simpa using hi
    refine wpOp_in i2 g2 (wp_store_mid t0 p0 y0 h2 c0 0 cs0.toArray q0' z0' (by simpa using T0) (by simpa using hi0) (all_oneCell_toArray n0) ?_)
    exact last _ rfl
  refine ⟨fun hr => (by rw [r0] at hr; simp at hr), fun i hi => ?_⟩
  rw [r0] at hi
  rcases (by simpa using hi : i = 0 ∨ i = 1) with rfl | rfl
  · refine wpOp_in i0 g0 (wp_load_mid t0 x0 h0 b0 0 e0 cs0 d0 R0 hu0 hd0 hi0 ?_)
    show wpAny P .any #[o0, o1, o2, o3] Q 3 #[true, false, false, false] _ w.drew
    refine ⟨fun hr => (by rw [r1] at hr; simp at hr), fun i hi => ?_⟩
    rw [r1] at hi
    rcases (by simpa using hi : i = 1 ∨ i = 2) with rfl | rfl
    · exact wpOp_in i1 g1 (wp_load_mid t1 x1 h1 b1 0 e1' cs1 d1 R1 hu1 hd1 hi1 (third _ rfl))
    · refine wpOp_in i2 g2 (wp_store_mid t0 p0 y0 h2 c0 0 cs0.toArray q0 z0 (by simpa using T0) (by simpa using hi0) (all_oneCell_toArray n0) ?_)
      show wpAny P .any #[o0, o1, o2, o3] Q 2 #[true, false, true, false] _ (w.drew.setCells c0 0 cs0)
      refine ⟨fun hr => (by rw [r4] at hr; simp at hr), fun i hi => ?_⟩
      rw [r4] at hi
      obtain rfl : i = 1 := by simpa using hi
      exact wpOp_in i1 g1 (wp_load_mid t1 x1 h1 b1 0 e1'' cs1 d1 (World.rangeAt_setCells_apart R1 _ _ _ (Or.inl hne)) hu1 hd1 hi1 (last _ k2))
  · refine wpOp_in i1 g1 (wp_load_mid t1 x1 h1 b1 0 e1 cs1 d1 R1 hu1 hd1 hi1 ?_)
    show wpAny P .any #[o0, o1, o2, o3] Q 3 #[false, true, false, false] _ w.drew
    refine ⟨fun hr => (by rw [r2] at hr; simp at hr), fun i hi => ?_⟩
    rw [r2] at hi
    obtain rfl : i = 0 := by simpa using hi
    exact wpOp_in i0 g0 (wp_load_mid t0 x0 h0 b0 0 e0' cs0 d0 R0 hu0 hd0 hi0 (third _ k1))
end
end Go.Proofs.Ytkcanelboloihaa
