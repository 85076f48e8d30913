import Derived.Test.YtecadmldnjlibaaDoorTopA
import Derived.Test.YtecadmldnjlibaaDoorRowz
import Derived.Deep.RegionHeld3
import Derived.Test.YtecadmldnjlibaaDoorQKeep
import Derived.Deep.MidRow
/-
  Laws for drawn regions with two effects in either order and a late store, by genchain2.py. No program.
-/
namespace Go.Proofs.YtecadmldnjlibaaDoor
open Go Go.RowKit Go.BigFrame
set_option linter.unusedVariables false
set_option linter.unusedSimpArgs false
section
variable {P : Program} {ops : Array Oper} {Q : Exit → Act → World → Prop} {md : Region.Mode} {S : Array Bool → World → Prop}
theorem AnyL.two {i j : Nat} {oi oj : Oper} {g : Nat} {d : Array Bool} {a : Act} {w : World} (hr : Region.ready md ops d = [i, j]) (hoi : ops[i]? = some oi) (hoj : ops[j]? = some oj) (hgi : oi.guard = none) (hgj : oj.guard = none)
    (h : ∀ K : Act → World → Prop, (∀ a' w', S (d.setIfInBounds i true) w' → AnyL P md ops Q S g (d.setIfInBounds i true) a' w' → K a' w') → oi.wp P a w K Q)
    (h' : ∀ K : Act → World → Prop, (∀ a' w', S (d.setIfInBounds j true) w' → AnyL P md ops Q S g (d.setIfInBounds j true) a' w' → K a' w') → oj.wp P a w K Q) : AnyL P md ops Q S (g + 1) d a w := by
  refine ⟨fun h0 => (by rw [hr] at h0; cases h0), fun k hk => ?_⟩
  rw [hr] at hk
  simp only [List.mem_cons, List.not_mem_nil, or_false] at hk
  rcases hk with rfl | rfl
  · refine wpOp_step hoi (fun K' hK => ?_)
    rw [if_pos (by unfold Region.wanted; rw [hgi])]
    exact h K' (fun a' w' h1 h2 => hK a' w' ⟨h1, h2⟩)
  · refine wpOp_step hoj (fun K' hK => ?_)
    rw [if_pos (by unfold Region.wanted; rw [hgj])]
    exact h' K' (fun a' w' h1 h2 => hK a' w' ⟨h1, h2⟩)
end
section
variable {P : Program} {Q : Exit → Act → World → Prop}
theorem wp_pu26 {id : Nat} {o0 o1 o2 o3 o4 o5 o6 o7 o8 o9 o10 o11 o12 o13 o14 o15 o16 o17 o18 o19 o20 o21 o22 o23 o24 o25 : Oper} {a : Act} {w : World} (hm : P.follows .mixedOrders = true) (hs : Region.noSelect #[o0, o1, o2, o3, o4, o5, o6, o7, o8, o9, o10, o11, o12, o13, o14, o15, o16, o17, o18, o19, o20, o21, o22, o23, o24, o25] = true)
    (f0 : Region.free .any #[o0, o1, o2, o3, o4, o5, o6, o7, o8, o9, o10, o11, o12, o13, o14, o15, o16, o17, o18, o19, o20, o21, o22, o23, o24, o25] #[false, false, false, false, false, false, false, false, false, false, false, false, false, false, false, false, false, false, false, false, false, false, false, false, false, false] 0 = true) (r0 : (Region.ready .any #[o0, o1, o2, o3, o4, o5, o6, o7, o8, o9, o10, o11, o12, o13, o14, o15, o16, o17, o18, o19, o20, o21, o22, o23, o24, o25] #[false, false, false, false, false, false, false, false, false, false, false, false, false, false, false, false, false, false, false, false, false, false, false, false, false, false]).contains 0 = true) (e0 : o25.after.any (fun e => Region.binds .any e && e.on == 0) = true)
    (f1 : Region.free .any #[o0, o1, o2, o3, o4, o5, o6, o7, o8, o9, o10, o11, o12, o13, o14, o15, o16, o17, o18, o19, o20, o21, o22, o23, o24, o25] #[true, false, false, false, false, false, false, false, false, false, false, false, false, false, false, false, false, false, false, false, false, false, false, false, false, false] 1 = true) (r1 : (Region.ready .any #[o0, o1, o2, o3, o4, o5, o6, o7, o8, o9, o10, o11, o12, o13, o14, o15, o16, o17, o18, o19, o20, o21, o22, o23, o24, o25] #[true, false, false, false, false, false, false, false, false, false, false, false, false, false, false, false, false, false, false, false, false, false, false, false, false, false]).contains 1 = true) (e1 : o25.after.any (fun e => Region.binds .any e && e.on == 1) = true)
    (f2 : Region.free .any #[o0, o1, o2, o3, o4, o5, o6, o7, o8, o9, o10, o11, o12, o13, o14, o15, o16, o17, o18, o19, o20, o21, o22, o23, o24, o25] #[true, true, false, false, false, false, false, false, false, false, false, false, false, false, false, false, false, false, false, false, false, false, false, false, false, false] 2 = true) (r2 : (Region.ready .any #[o0, o1, o2, o3, o4, o5, o6, o7, o8, o9, o10, o11, o12, o13, o14, o15, o16, o17, o18, o19, o20, o21, o22, o23, o24, o25] #[true, true, false, false, false, false, false, false, false, false, false, false, false, false, false, false, false, false, false, false, false, false, false, false, false, false]).contains 2 = true) (e2 : o25.after.any (fun e => Region.binds .any e && e.on == 2) = true)
    (f3 : Region.free .any #[o0, o1, o2, o3, o4, o5, o6, o7, o8, o9, o10, o11, o12, o13, o14, o15, o16, o17, o18, o19, o20, o21, o22, o23, o24, o25] #[true, true, true, false, false, false, false, false, false, false, false, false, false, false, false, false, false, false, false, false, false, false, false, false, false, false] 3 = true) (r3 : (Region.ready .any #[o0, o1, o2, o3, o4, o5, o6, o7, o8, o9, o10, o11, o12, o13, o14, o15, o16, o17, o18, o19, o20, o21, o22, o23, o24, o25] #[true, true, true, false, false, false, false, false, false, false, false, false, false, false, false, false, false, false, false, false, false, false, false, false, false, false]).contains 3 = true) (e3 : o25.after.any (fun e => Region.binds .any e && e.on == 3) = true)
    (f4 : Region.free .any #[o0, o1, o2, o3, o4, o5, o6, o7, o8, o9, o10, o11, o12, o13, o14, o15, o16, o17, o18, o19, o20, o21, o22, o23, o24, o25] #[true, true, true, true, false, false, false, false, false, false, false, false, false, false, false, false, false, false, false, false, false, false, false, false, false, false] 4 = true) (r4 : (Region.ready .any #[o0, o1, o2, o3, o4, o5, o6, o7, o8, o9, o10, o11, o12, o13, o14, o15, o16, o17, o18, o19, o20, o21, o22, o23, o24, o25] #[true, true, true, true, false, false, false, false, false, false, false, false, false, false, false, false, false, false, false, false, false, false, false, false, false, false]).contains 4 = true) (e4 : o25.after.any (fun e => Region.binds .any e && e.on == 4) = true)
    (f5 : Region.free .any #[o0, o1, o2, o3, o4, o5, o6, o7, o8, o9, o10, o11, o12, o13, o14, o15, o16, o17, o18, o19, o20, o21, o22, o23, o24, o25] #[true, true, true, true, true, false, false, false, false, false, false, false, false, false, false, false, false, false, false, false, false, false, false, false, false, false] 5 = true) (r5 : (Region.ready .any #[o0, o1, o2, o3, o4, o5, o6, o7, o8, o9, o10, o11, o12, o13, o14, o15, o16, o17, o18, o19, o20, o21, o22, o23, o24, o25] #[true, true, true, true, true, false, false, false, false, false, false, false, false, false, false, false, false, false, false, false, false, false, false, false, false, false]).contains 5 = true) (e5 : o25.after.any (fun e => Region.binds .any e && e.on == 5) = true)
    (f6 : Region.free .any #[o0, o1, o2, o3, o4, o5, o6, o7, o8, o9, o10, o11, o12, o13, o14, o15, o16, o17, o18, o19, o20, o21, o22, o23, o24, o25] #[true, true, true, true, true, true, false, false, false, false, false, false, false, false, false, false, false, false, false, false, false, false, false, false, false, false] 6 = true) (r6 : (Region.ready .any #[o0, o1, o2, o3, o4, o5, o6, o7, o8, o9, o10, o11, o12, o13, o14, o15, o16, o17, o18, o19, o20, o21, o22, o23, o24, o25] #[true, true, true, true, true, true, false, false, false, false, false, false, false, false, false, false, false, false, false, false, false, false, false, false, false, false]).contains 6 = true) (e6 : o25.after.any (fun e => Region.binds .any e && e.on == 6) = true)
    (f7 : Region.free .any #[o0, o1, o2, o3, o4, o5, o6, o7, o8, o9, o10, o11, o12, o13, o14, o15, o16, o17, o18, o19, o20, o21, o22, o23, o24, o25] #[true, true, true, true, true, true, true, false, false, false, false, false, false, false, false, false, false, false, false, false, false, false, false, false, false, false] 7 = true) (r7 : (Region.ready .any #[o0, o1, o2, o3, o4, o5, o6, o7, o8, o9, o10, o11, o12, o13, o14, o15, o16, o17, o18, o19, o20, o21, o22, o23, o24, o25] #[true, true, true, true, true, true, true, false, false, false, false, false, false, false, false, false, false, false, false, false, false, false, false, false, false, false]).contains 7 = true) (e7 : o25.after.any (fun e => Region.binds .any e && e.on == 7) = true)
    (f8 : Region.free .any #[o0, o1, o2, o3, o4, o5, o6, o7, o8, o9, o10, o11, o12, o13, o14, o15, o16, o17, o18, o19, o20, o21, o22, o23, o24, o25] #[true, true, true, true, true, true, true, true, false, false, false, false, false, false, false, false, false, false, false, false, false, false, false, false, false, false] 8 = true) (r8 : (Region.ready .any #[o0, o1, o2, o3, o4, o5, o6, o7, o8, o9, o10, o11, o12, o13, o14, o15, o16, o17, o18, o19, o20, o21, o22, o23, o24, o25] #[true, true, true, true, true, true, true, true, false, false, false, false, false, false, false, false, false, false, false, false, false, false, false, false, false, false]).contains 8 = true) (e8 : o25.after.any (fun e => Region.binds .any e && e.on == 8) = true)
    (f9 : Region.free .any #[o0, o1, o2, o3, o4, o5, o6, o7, o8, o9, o10, o11, o12, o13, o14, o15, o16, o17, o18, o19, o20, o21, o22, o23, o24, o25] #[true, true, true, true, true, true, true, true, true, false, false, false, false, false, false, false, false, false, false, false, false, false, false, false, false, false] 9 = true) (r9 : (Region.ready .any #[o0, o1, o2, o3, o4, o5, o6, o7, o8, o9, o10, o11, o12, o13, o14, o15, o16, o17, o18, o19, o20, o21, o22, o23, o24, o25] #[true, true, true, true, true, true, true, true, true, false, false, false, false, false, false, false, false, false, false, false, false, false, false, false, false, false]).contains 9 = true) (e9 : o25.after.any (fun e => Region.binds .any e && e.on == 9) = true)
    (f10 : Region.free .any #[o0, o1, o2, o3, o4, o5, o6, o7, o8, o9, o10, o11, o12, o13, o14, o15, o16, o17, o18, o19, o20, o21, o22, o23, o24, o25] #[true, true, true, true, true, true, true, true, true, true, false, false, false, false, false, false, false, false, false, false, false, false, false, false, false, false] 10 = true) (r10 : (Region.ready .any #[o0, o1, o2, o3, o4, o5, o6, o7, o8, o9, o10, o11, o12, o13, o14, o15, o16, o17, o18, o19, o20, o21, o22, o23, o24, o25] #[true, true, true, true, true, true, true, true, true, true, false, false, false, false, false, false, false, false, false, false, false, false, false, false, false, false]).contains 10 = true) (e10 : o25.after.any (fun e => Region.binds .any e && e.on == 10) = true)
    (f11 : Region.free .any #[o0, o1, o2, o3, o4, o5, o6, o7, o8, o9, o10, o11, o12, o13, o14, o15, o16, o17, o18, o19, o20, o21, o22, o23, o24, o25] #[true, true, true, true, true, true, true, true, true, true, true, false, false, false, false, false, false, false, false, false, false, false, false, false, false, false] 11 = true) (r11 : (Region.ready .any #[o0, o1, o2, o3, o4, o5, o6, o7, o8, o9, o10, o11, o12, o13, o14, o15, o16, o17, o18, o19, o20, o21, o22, o23, o24, o25] #[true, true, true, true, true, true, true, true, true, true, true, false, false, false, false, false, false, false, false, false, false, false, false, false, false, false]).contains 11 = true) (e11 : o25.after.any (fun e => Region.binds .any e && e.on == 11) = true)
    (f12 : Region.free .any #[o0, o1, o2, o3, o4, o5, o6, o7, o8, o9, o10, o11, o12, o13, o14, o15, o16, o17, o18, o19, o20, o21, o22, o23, o24, o25] #[true, true, true, true, true, true, true, true, true, true, true, true, false, false, false, false, false, false, false, false, false, false, false, false, false, false] 12 = true) (r12 : (Region.ready .any #[o0, o1, o2, o3, o4, o5, o6, o7, o8, o9, o10, o11, o12, o13, o14, o15, o16, o17, o18, o19, o20, o21, o22, o23, o24, o25] #[true, true, true, true, true, true, true, true, true, true, true, true, false, false, false, false, false, false, false, false, false, false, false, false, false, false]).contains 12 = true) (e12 : o25.after.any (fun e => Region.binds .any e && e.on == 12) = true)
    (f13 : Region.free .any #[o0, o1, o2, o3, o4, o5, o6, o7, o8, o9, o10, o11, o12, o13, o14, o15, o16, o17, o18, o19, o20, o21, o22, o23, o24, o25] #[true, true, true, true, true, true, true, true, true, true, true, true, true, false, false, false, false, false, false, false, false, false, false, false, false, false] 13 = true) (r13 : (Region.ready .any #[o0, o1, o2, o3, o4, o5, o6, o7, o8, o9, o10, o11, o12, o13, o14, o15, o16, o17, o18, o19, o20, o21, o22, o23, o24, o25] #[true, true, true, true, true, true, true, true, true, true, true, true, true, false, false, false, false, false, false, false, false, false, false, false, false, false]).contains 13 = true) (e13 : o25.after.any (fun e => Region.binds .any e && e.on == 13) = true)
    (f14 : Region.free .any #[o0, o1, o2, o3, o4, o5, o6, o7, o8, o9, o10, o11, o12, o13, o14, o15, o16, o17, o18, o19, o20, o21, o22, o23, o24, o25] #[true, true, true, true, true, true, true, true, true, true, true, true, true, true, false, false, false, false, false, false, false, false, false, false, false, false] 14 = true) (r14 : (Region.ready .any #[o0, o1, o2, o3, o4, o5, o6, o7, o8, o9, o10, o11, o12, o13, o14, o15, o16, o17, o18, o19, o20, o21, o22, o23, o24, o25] #[true, true, true, true, true, true, true, true, true, true, true, true, true, true, false, false, false, false, false, false, false, false, false, false, false, false]).contains 14 = true) (e14 : o25.after.any (fun e => Region.binds .any e && e.on == 14) = true)
    (f16 : Region.free .any #[o0, o1, o2, o3, o4, o5, o6, o7, o8, o9, o10, o11, o12, o13, o14, o15, o16, o17, o18, o19, o20, o21, o22, o23, o24, o25] #[true, true, true, true, true, true, true, true, true, true, true, true, true, true, true, false, false, false, false, false, false, false, false, false, false, false] 16 = true) (r16 : (Region.ready .any #[o0, o1, o2, o3, o4, o5, o6, o7, o8, o9, o10, o11, o12, o13, o14, o15, o16, o17, o18, o19, o20, o21, o22, o23, o24, o25] #[true, true, true, true, true, true, true, true, true, true, true, true, true, true, true, false, false, false, false, false, false, false, false, false, false, false]).contains 16 = true) (e16 : o25.after.any (fun e => Region.binds .any e && e.on == 16) = true)
    (f17 : Region.free .any #[o0, o1, o2, o3, o4, o5, o6, o7, o8, o9, o10, o11, o12, o13, o14, o15, o16, o17, o18, o19, o20, o21, o22, o23, o24, o25] #[true, true, true, true, true, true, true, true, true, true, true, true, true, true, true, false, true, false, false, false, false, false, false, false, false, false] 17 = true) (r17 : (Region.ready .any #[o0, o1, o2, o3, o4, o5, o6, o7, o8, o9, o10, o11, o12, o13, o14, o15, o16, o17, o18, o19, o20, o21, o22, o23, o24, o25] #[true, true, true, true, true, true, true, true, true, true, true, true, true, true, true, false, true, false, false, false, false, false, false, false, false, false]).contains 17 = true) (e17 : o25.after.any (fun e => Region.binds .any e && e.on == 17) = true)
    (f18 : Region.free .any #[o0, o1, o2, o3, o4, o5, o6, o7, o8, o9, o10, o11, o12, o13, o14, o15, o16, o17, o18, o19, o20, o21, o22, o23, o24, o25] #[true, true, true, true, true, true, true, true, true, true, true, true, true, true, true, false, true, true, false, false, false, false, false, false, false, false] 18 = true) (r18 : (Region.ready .any #[o0, o1, o2, o3, o4, o5, o6, o7, o8, o9, o10, o11, o12, o13, o14, o15, o16, o17, o18, o19, o20, o21, o22, o23, o24, o25] #[true, true, true, true, true, true, true, true, true, true, true, true, true, true, true, false, true, true, false, false, false, false, false, false, false, false]).contains 18 = true) (e18 : o25.after.any (fun e => Region.binds .any e && e.on == 18) = true)
    (qa : Region.ready .any #[o0, o1, o2, o3, o4, o5, o6, o7, o8, o9, o10, o11, o12, o13, o14, o15, o16, o17, o18, o19, o20, o21, o22, o23, o24, o25] #[true, true, true, true, true, true, true, true, true, true, true, true, true, true, true, false, true, true, true, false, false, false, false, false, false, false] = [15, 19]) (qx : Region.ready .any #[o0, o1, o2, o3, o4, o5, o6, o7, o8, o9, o10, o11, o12, o13, o14, o15, o16, o17, o18, o19, o20, o21, o22, o23, o24, o25] #[true, true, true, true, true, true, true, true, true, true, true, true, true, true, true, true, true, true, true, false, false, false, false, false, false, false] = [19]) (qy : Region.ready .any #[o0, o1, o2, o3, o4, o5, o6, o7, o8, o9, o10, o11, o12, o13, o14, o15, o16, o17, o18, o19, o20, o21, o22, o23, o24, o25] #[true, true, true, true, true, true, true, true, true, true, true, true, true, true, true, false, true, true, true, true, false, false, false, false, false, false] = [15]) (g15 : o15.guard = none) (g19 : o19.guard = none) (nexy : ∀ d, o19.dst = some d → o15.dst ≠ some d)
    (q20 : Region.ready .any #[o0, o1, o2, o3, o4, o5, o6, o7, o8, o9, o10, o11, o12, o13, o14, o15, o16, o17, o18, o19, o20, o21, o22, o23, o24, o25] #[true, true, true, true, true, true, true, true, true, true, true, true, true, true, true, true, true, true, true, true, false, false, false, false, false, false] = [20]) (g20 : o20.guard = none)
    (q21 : Region.ready .any #[o0, o1, o2, o3, o4, o5, o6, o7, o8, o9, o10, o11, o12, o13, o14, o15, o16, o17, o18, o19, o20, o21, o22, o23, o24, o25] #[true, true, true, true, true, true, true, true, true, true, true, true, true, true, true, true, true, true, true, true, true, false, false, false, false, false] = [21]) (g21 : o21.guard = none)
    (q22 : Region.ready .any #[o0, o1, o2, o3, o4, o5, o6, o7, o8, o9, o10, o11, o12, o13, o14, o15, o16, o17, o18, o19, o20, o21, o22, o23, o24, o25] #[true, true, true, true, true, true, true, true, true, true, true, true, true, true, true, true, true, true, true, true, true, true, false, false, false, false] = [22]) (g22 : o22.guard = none)
    (q23 : Region.ready .any #[o0, o1, o2, o3, o4, o5, o6, o7, o8, o9, o10, o11, o12, o13, o14, o15, o16, o17, o18, o19, o20, o21, o22, o23, o24, o25] #[true, true, true, true, true, true, true, true, true, true, true, true, true, true, true, true, true, true, true, true, true, true, true, false, false, false] = [23]) (g23 : o23.guard = none)
    (q24 : Region.ready .any #[o0, o1, o2, o3, o4, o5, o6, o7, o8, o9, o10, o11, o12, o13, o14, o15, o16, o17, o18, o19, o20, o21, o22, o23, o24, o25] #[true, true, true, true, true, true, true, true, true, true, true, true, true, true, true, true, true, true, true, true, true, true, true, true, false, false] = [24]) (g24 : o24.guard = none)
    (q25 : Region.ready .any #[o0, o1, o2, o3, o4, o5, o6, o7, o8, o9, o10, o11, o12, o13, o14, o15, o16, o17, o18, o19, o20, o21, o22, o23, o24, o25] #[true, true, true, true, true, true, true, true, true, true, true, true, true, true, true, true, true, true, true, true, true, true, true, true, true, false] = [25]) (g25 : o25.guard = none)
    (rr : Region.ready .any #[o0, o1, o2, o3, o4, o5, o6, o7, o8, o9, o10, o11, o12, o13, o14, o15, o16, o17, o18, o19, o20, o21, o22, o23, o24, o25] #[true, true, true, true, true, true, true, true, true, true, true, true, true, true, true, true, true, true, true, true, true, true, true, true, true, true] = [])
    (v0 v1 v2 v3 v4 v5 v6 v7 v8 v9 v10 v11 v12 v13 v14 v16 v17 v18 : Value) (A0 A1 A2 A3 A4 A5 A6 A7 A8 A9 A10 A11 A12 A13 A14 A15 A16 A17 : Act) (T : World → Prop)
    (I0 : World → Prop) (IX : Value → World → Prop) (IY : Value → World → Prop)
    (I2 : Value → Value → World → Prop)
    (I3 : Value → Value → Value → World → Prop)
    (I4 : Value → Value → Value → Value → World → Prop)
    (I5 : Value → Value → Value → Value → Value → World → Prop)
    (I6 : Value → Value → Value → Value → Value → Value → World → Prop)
    (I7 : Value → Value → Value → Value → Value → Value → Value → World → Prop)
    (IE : Value → Value → Value → Value → Value → Value → Value → World → Prop)
    (p0 : a.put o0.dst v0 = A0) (hy0 : YieldsIf P #[o0, o1, o2, o3, o4, o5, o6, o7, o8, o9, o10, o11, o12, o13, o14, o15, o16, o17, o18, o19, o20, o21, o22, o23, o24, o25] T o0 v0 a)
    (p1 : A0.put o1.dst v1 = A1) (hy1 : YieldsIf P #[o0, o1, o2, o3, o4, o5, o6, o7, o8, o9, o10, o11, o12, o13, o14, o15, o16, o17, o18, o19, o20, o21, o22, o23, o24, o25] T o1 v1 A0)
    (p2 : A1.put o2.dst v2 = A2) (hy2 : YieldsIf P #[o0, o1, o2, o3, o4, o5, o6, o7, o8, o9, o10, o11, o12, o13, o14, o15, o16, o17, o18, o19, o20, o21, o22, o23, o24, o25] T o2 v2 A1)
    (p3 : A2.put o3.dst v3 = A3) (hy3 : YieldsIf P #[o0, o1, o2, o3, o4, o5, o6, o7, o8, o9, o10, o11, o12, o13, o14, o15, o16, o17, o18, o19, o20, o21, o22, o23, o24, o25] T o3 v3 A2)
    (p4 : A3.put o4.dst v4 = A4) (hy4 : YieldsIf P #[o0, o1, o2, o3, o4, o5, o6, o7, o8, o9, o10, o11, o12, o13, o14, o15, o16, o17, o18, o19, o20, o21, o22, o23, o24, o25] T o4 v4 A3)
    (p5 : A4.put o5.dst v5 = A5) (hy5 : YieldsIf P #[o0, o1, o2, o3, o4, o5, o6, o7, o8, o9, o10, o11, o12, o13, o14, o15, o16, o17, o18, o19, o20, o21, o22, o23, o24, o25] T o5 v5 A4)
    (p6 : A5.put o6.dst v6 = A6) (hy6 : YieldsIf P #[o0, o1, o2, o3, o4, o5, o6, o7, o8, o9, o10, o11, o12, o13, o14, o15, o16, o17, o18, o19, o20, o21, o22, o23, o24, o25] T o6 v6 A5)
    (p7 : A6.put o7.dst v7 = A7) (hy7 : YieldsIf P #[o0, o1, o2, o3, o4, o5, o6, o7, o8, o9, o10, o11, o12, o13, o14, o15, o16, o17, o18, o19, o20, o21, o22, o23, o24, o25] T o7 v7 A6)
    (p8 : A7.put o8.dst v8 = A8) (hy8 : YieldsIf P #[o0, o1, o2, o3, o4, o5, o6, o7, o8, o9, o10, o11, o12, o13, o14, o15, o16, o17, o18, o19, o20, o21, o22, o23, o24, o25] T o8 v8 A7)
    (p9 : A8.put o9.dst v9 = A9) (hy9 : YieldsIf P #[o0, o1, o2, o3, o4, o5, o6, o7, o8, o9, o10, o11, o12, o13, o14, o15, o16, o17, o18, o19, o20, o21, o22, o23, o24, o25] T o9 v9 A8)
    (p10 : A9.put o10.dst v10 = A10) (hy10 : YieldsIf P #[o0, o1, o2, o3, o4, o5, o6, o7, o8, o9, o10, o11, o12, o13, o14, o15, o16, o17, o18, o19, o20, o21, o22, o23, o24, o25] T o10 v10 A9)
    (p11 : A10.put o11.dst v11 = A11) (hy11 : YieldsIf P #[o0, o1, o2, o3, o4, o5, o6, o7, o8, o9, o10, o11, o12, o13, o14, o15, o16, o17, o18, o19, o20, o21, o22, o23, o24, o25] T o11 v11 A10)
    (p12 : A11.put o12.dst v12 = A12) (hy12 : YieldsIf P #[o0, o1, o2, o3, o4, o5, o6, o7, o8, o9, o10, o11, o12, o13, o14, o15, o16, o17, o18, o19, o20, o21, o22, o23, o24, o25] T o12 v12 A11)
    (p13 : A12.put o13.dst v13 = A13) (hy13 : YieldsIf P #[o0, o1, o2, o3, o4, o5, o6, o7, o8, o9, o10, o11, o12, o13, o14, o15, o16, o17, o18, o19, o20, o21, o22, o23, o24, o25] T o13 v13 A12)
    (p14 : A13.put o14.dst v14 = A14) (hy14 : YieldsIf P #[o0, o1, o2, o3, o4, o5, o6, o7, o8, o9, o10, o11, o12, o13, o14, o15, o16, o17, o18, o19, o20, o21, o22, o23, o24, o25] T o14 v14 A13)
    (p16 : A14.put o16.dst v16 = A15) (hy16 : YieldsIf P #[o0, o1, o2, o3, o4, o5, o6, o7, o8, o9, o10, o11, o12, o13, o14, o15, o16, o17, o18, o19, o20, o21, o22, o23, o24, o25] T o16 v16 A14)
    (p17 : A15.put o17.dst v17 = A16) (hy17 : YieldsIf P #[o0, o1, o2, o3, o4, o5, o6, o7, o8, o9, o10, o11, o12, o13, o14, o15, o16, o17, o18, o19, o20, o21, o22, o23, o24, o25] T o17 v17 A15)
    (p18 : A16.put o18.dst v18 = A17) (hy18 : YieldsIf P #[o0, o1, o2, o3, o4, o5, o6, o7, o8, o9, o10, o11, o12, o13, o14, o15, o16, o17, o18, o19, o20, o21, o22, o23, o24, o25] T o18 v18 A16)
    (i0 : I0 w.drew)
    (hIT : (∀ w', I0 w' → T w') ∧ (∀ (u0 : Value) w', IX u0 w' → T w') ∧ (∀ (u1 : Value) w', IY u1 w' → T w') ∧ (∀ (u0 u1 : Value) w', I2 u0 u1 w' → T w') ∧ (∀ (u0 u1 u2 : Value) w', I3 u0 u1 u2 w' → T w') ∧ (∀ (u0 u1 u2 u3 : Value) w', I4 u0 u1 u2 u3 w' → T w') ∧ (∀ (u0 u1 u2 u3 u4 : Value) w', I5 u0 u1 u2 u3 u4 w' → T w') ∧ (∀ (u0 u1 u2 u3 u4 u5 : Value) w', I6 u0 u1 u2 u3 u4 u5 w' → T w') ∧ (∀ (u0 u1 u2 u3 u4 u5 u6 : Value) w', I7 u0 u1 u2 u3 u4 u5 u6 w' → T w'))
    (sx : ∀ w', I0 w' → ∀ K : Act → World → Prop, (∀ (u0 : Value) w2, IX u0 w2 → K (A17.put o15.dst u0) w2) → o15.wp P A17 w' K (NoPanic Q))
    (sy : ∀ w', I0 w' → ∀ K : Act → World → Prop, (∀ (u1 : Value) w2, IY u1 w2 → K (A17.put o19.dst u1) w2) → o19.wp P A17 w' K (NoPanic Q))
    (sxy : ∀ (u0 : Value) w', IX u0 w' → ∀ K : Act → World → Prop, (∀ (u1 : Value) w2, I2 u0 u1 w2 → K ((A17.put o15.dst u0).put o19.dst u1) w2) → o19.wp P (A17.put o15.dst u0) w' K (NoPanic Q))
    (syx : ∀ (u1 : Value) w', IY u1 w' → ∀ K : Act → World → Prop, (∀ (u0 : Value) w2, I2 u0 u1 w2 → K ((A17.put o19.dst u1).put o15.dst u0) w2) → o15.wp P (A17.put o19.dst u1) w' K (NoPanic Q))
    (s2 : ∀ (u0 u1 : Value) w', I2 u0 u1 w' → ∀ K : Act → World → Prop, (∀ (u2 : Value) w2, I3 u0 u1 u2 w2 → K (((A17.put o15.dst u0).put o19.dst u1).put o20.dst u2) w2) → o20.wp P ((A17.put o15.dst u0).put o19.dst u1) w' K (NoPanic Q))
    (s3 : ∀ (u0 u1 u2 : Value) w', I3 u0 u1 u2 w' → ∀ K : Act → World → Prop, (∀ (u3 : Value) w2, I4 u0 u1 u2 u3 w2 → K ((((A17.put o15.dst u0).put o19.dst u1).put o20.dst u2).put o21.dst u3) w2) → o21.wp P (((A17.put o15.dst u0).put o19.dst u1).put o20.dst u2) w' K (NoPanic Q))
    (s4 : ∀ (u0 u1 u2 u3 : Value) w', I4 u0 u1 u2 u3 w' → ∀ K : Act → World → Prop, (∀ (u4 : Value) w2, I5 u0 u1 u2 u3 u4 w2 → K (((((A17.put o15.dst u0).put o19.dst u1).put o20.dst u2).put o21.dst u3).put o22.dst u4) w2) → o22.wp P ((((A17.put o15.dst u0).put o19.dst u1).put o20.dst u2).put o21.dst u3) w' K (NoPanic Q))
    (s5 : ∀ (u0 u1 u2 u3 u4 : Value) w', I5 u0 u1 u2 u3 u4 w' → ∀ K : Act → World → Prop, (∀ (u5 : Value) w2, I6 u0 u1 u2 u3 u4 u5 w2 → K ((((((A17.put o15.dst u0).put o19.dst u1).put o20.dst u2).put o21.dst u3).put o22.dst u4).put o23.dst u5) w2) → o23.wp P (((((A17.put o15.dst u0).put o19.dst u1).put o20.dst u2).put o21.dst u3).put o22.dst u4) w' K (NoPanic Q))
    (s6 : ∀ (u0 u1 u2 u3 u4 u5 : Value) w', I6 u0 u1 u2 u3 u4 u5 w' → ∀ K : Act → World → Prop, (∀ (u6 : Value) w2, I7 u0 u1 u2 u3 u4 u5 u6 w2 → K (((((((A17.put o15.dst u0).put o19.dst u1).put o20.dst u2).put o21.dst u3).put o22.dst u4).put o23.dst u5).put o24.dst u6) w2) → o24.wp P ((((((A17.put o15.dst u0).put o19.dst u1).put o20.dst u2).put o21.dst u3).put o22.dst u4).put o23.dst u5) w' K (NoPanic Q))
    (se : ∀ (u0 u1 u2 u3 u4 u5 u6 : Value) w', I7 u0 u1 u2 u3 u4 u5 u6 w' → ∀ K : Act → World → Prop, (∀ w2, IE u0 u1 u2 u3 u4 u5 u6 w2 → K (((((((A17.put o15.dst u0).put o19.dst u1).put o20.dst u2).put o21.dst u3).put o22.dst u4).put o23.dst u5).put o24.dst u6) w2) → o25.wp P (((((((A17.put o15.dst u0).put o19.dst u1).put o20.dst u2).put o21.dst u3).put o22.dst u4).put o23.dst u5).put o24.dst u6) w' K (NoPanic Q))
    (h : ∀ (u0 u1 u2 u3 u4 u5 u6 : Value) w', IE u0 u1 u2 u3 u4 u5 u6 w' → Q .normal (((((((A17.put o15.dst u0).put o19.dst u1).put o20.dst u2).put o21.dst u3).put o22.dst u4).put o23.dst u5).put o24.dst u6) w') :
    (Code.region id #[o0, o1, o2, o3, o4, o5, o6, o7, o8, o9, o10, o11, o12, o13, o14, o15, o16, o17, o18, o19, o20, o21, o22, o23, o24, o25] true).wp P Q a w := by
  subst p0 p1 p2 p3 p4 p5 p6 p7 p8 p9 p10 p11 p12 p13 p14 p16 p17 p18
  obtain ⟨z0, zx, zy, z2, z3, z4, z5, z6, z7⟩ := hIT
  refine wp_region_noPanic ?_
  refine wp_region_any hm ?_
  refine AnyL.any (S := fun d w' => d.getD 25 true = false → T w') _ _ _ _ ?_
  show AnyL P .any #[o0, o1, o2, o3, o4, o5, o6, o7, o8, o9, o10, o11, o12, o13, o14, o15, o16, o17, o18, o19, o20, o21, o22, o23, o24, o25] (NoPanic Q) _ 26 #[false, false, false, false, false, false, false, false, false, false, false, false, false, false, false, false, false, false, false, false, false, false, false, false, false, false] a w.drew
  have hSi : ∀ i, i ≠ 25 → ∀ (d : Array Bool) (w' : World), ((d.setIfInBounds i true).getD 25 true = false → T w') ↔ (d.getD 25 true = false → T w') := by
    intro i h4 d w'
    rw [getD_set_ne true h4]
  refine AnyL.take (i := 0) (t := 25) (oi := o0) (ot := o25) (T := T) rfl rfl (by decide) hs f0 r0 e0 (fun _ _ _ h => h) (fun d w' h9 hd => h9 hd) (hSi 0 (by decide)) hy0 rfl (fun _ => z0 _ i0) ?_
  refine AnyL.take (i := 1) (t := 25) (oi := o1) (ot := o25) (T := T) rfl rfl (by decide) hs f1 r1 e1 (fun _ _ _ h => h) (fun d w' h9 hd => h9 hd) (hSi 1 (by decide)) hy1 rfl (fun _ => z0 _ i0) ?_
  refine AnyL.take (i := 2) (t := 25) (oi := o2) (ot := o25) (T := T) rfl rfl (by decide) hs f2 r2 e2 (fun _ _ _ h => h) (fun d w' h9 hd => h9 hd) (hSi 2 (by decide)) hy2 rfl (fun _ => z0 _ i0) ?_
  refine AnyL.take (i := 3) (t := 25) (oi := o3) (ot := o25) (T := T) rfl rfl (by decide) hs f3 r3 e3 (fun _ _ _ h => h) (fun d w' h9 hd => h9 hd) (hSi 3 (by decide)) hy3 rfl (fun _ => z0 _ i0) ?_
  refine AnyL.take (i := 4) (t := 25) (oi := o4) (ot := o25) (T := T) rfl rfl (by decide) hs f4 r4 e4 (fun _ _ _ h => h) (fun d w' h9 hd => h9 hd) (hSi 4 (by decide)) hy4 rfl (fun _ => z0 _ i0) ?_
  refine AnyL.take (i := 5) (t := 25) (oi := o5) (ot := o25) (T := T) rfl rfl (by decide) hs f5 r5 e5 (fun _ _ _ h => h) (fun d w' h9 hd => h9 hd) (hSi 5 (by decide)) hy5 rfl (fun _ => z0 _ i0) ?_
  refine AnyL.take (i := 6) (t := 25) (oi := o6) (ot := o25) (T := T) rfl rfl (by decide) hs f6 r6 e6 (fun _ _ _ h => h) (fun d w' h9 hd => h9 hd) (hSi 6 (by decide)) hy6 rfl (fun _ => z0 _ i0) ?_
  refine AnyL.take (i := 7) (t := 25) (oi := o7) (ot := o25) (T := T) rfl rfl (by decide) hs f7 r7 e7 (fun _ _ _ h => h) (fun d w' h9 hd => h9 hd) (hSi 7 (by decide)) hy7 rfl (fun _ => z0 _ i0) ?_
  refine AnyL.take (i := 8) (t := 25) (oi := o8) (ot := o25) (T := T) rfl rfl (by decide) hs f8 r8 e8 (fun _ _ _ h => h) (fun d w' h9 hd => h9 hd) (hSi 8 (by decide)) hy8 rfl (fun _ => z0 _ i0) ?_
  refine AnyL.take (i := 9) (t := 25) (oi := o9) (ot := o25) (T := T) rfl rfl (by decide) hs f9 r9 e9 (fun _ _ _ h => h) (fun d w' h9 hd => h9 hd) (hSi 9 (by decide)) hy9 rfl (fun _ => z0 _ i0) ?_
  refine AnyL.take (i := 10) (t := 25) (oi := o10) (ot := o25) (T := T) rfl rfl (by decide) hs f10 r10 e10 (fun _ _ _ h => h) (fun d w' h9 hd => h9 hd) (hSi 10 (by decide)) hy10 rfl (fun _ => z0 _ i0) ?_
  refine AnyL.take (i := 11) (t := 25) (oi := o11) (ot := o25) (T := T) rfl rfl (by decide) hs f11 r11 e11 (fun _ _ _ h => h) (fun d w' h9 hd => h9 hd) (hSi 11 (by decide)) hy11 rfl (fun _ => z0 _ i0) ?_
  refine AnyL.take (i := 12) (t := 25) (oi := o12) (ot := o25) (T := T) rfl rfl (by decide) hs f12 r12 e12 (fun _ _ _ h => h) (fun d w' h9 hd => h9 hd) (hSi 12 (by decide)) hy12 rfl (fun _ => z0 _ i0) ?_
  refine AnyL.take (i := 13) (t := 25) (oi := o13) (ot := o25) (T := T) rfl rfl (by decide) hs f13 r13 e13 (fun _ _ _ h => h) (fun d w' h9 hd => h9 hd) (hSi 13 (by decide)) hy13 rfl (fun _ => z0 _ i0) ?_
  refine AnyL.take (i := 14) (t := 25) (oi := o14) (ot := o25) (T := T) rfl rfl (by decide) hs f14 r14 e14 (fun _ _ _ h => h) (fun d w' h9 hd => h9 hd) (hSi 14 (by decide)) hy14 rfl (fun _ => z0 _ i0) ?_
  refine AnyL.take (i := 16) (t := 25) (oi := o16) (ot := o25) (T := T) rfl rfl (by decide) hs f16 r16 e16 (fun _ _ _ h => h) (fun d w' h9 hd => h9 hd) (hSi 16 (by decide)) hy16 rfl (fun _ => z0 _ i0) ?_
  refine AnyL.take (i := 17) (t := 25) (oi := o17) (ot := o25) (T := T) rfl rfl (by decide) hs f17 r17 e17 (fun _ _ _ h => h) (fun d w' h9 hd => h9 hd) (hSi 17 (by decide)) hy17 rfl (fun _ => z0 _ i0) ?_
  refine AnyL.take (i := 18) (t := 25) (oi := o18) (ot := o25) (T := T) rfl rfl (by decide) hs f18 r18 e18 (fun _ _ _ h => h) (fun d w' h9 hd => h9 hd) (hSi 18 (by decide)) hy18 rfl (fun _ => z0 _ i0) ?_
  have rest : ∀ (u0 u1 : Value) (w2 : World), I2 u0 u1 w2 → AnyL P .any #[o0, o1, o2, o3, o4, o5, o6, o7, o8, o9, o10, o11, o12, o13, o14, o15, o16, o17, o18, o19, o20, o21, o22, o23, o24, o25] (NoPanic Q) (fun d w' => d.getD 25 true = false → T w') 6 #[true, true, true, true, true, true, true, true, true, true, true, true, true, true, true, true, true, true, true, true, false, false, false, false, false, false] ((((((((((((((((((((a.put o0.dst v0).put o1.dst v1).put o2.dst v2).put o3.dst v3).put o4.dst v4).put o5.dst v5).put o6.dst v6).put o7.dst v7).put o8.dst v8).put o9.dst v9).put o10.dst v10).put o11.dst v11).put o12.dst v12).put o13.dst v13).put o14.dst v14).put o16.dst v16).put o17.dst v17).put o18.dst v18).put o15.dst u0).put o19.dst u1) w2 := by
    intro u0 u1 w2 i2
    refine AnyL.forced q20 rfl g20 (fun K hK => s2 u0 u1 w2 i2 K (fun u2 w3 i3 => hK _ _ (fun _ => z3 u0 u1 u2 w3 i3) ?_))
    refine AnyL.forced q21 rfl g21 (fun K hK => s3 u0 u1 u2 w3 i3 K (fun u3 w4 i4 => hK _ _ (fun _ => z4 u0 u1 u2 u3 w4 i4) ?_))
    refine AnyL.forced q22 rfl g22 (fun K hK => s4 u0 u1 u2 u3 w4 i4 K (fun u4 w5 i5 => hK _ _ (fun _ => z5 u0 u1 u2 u3 u4 w5 i5) ?_))
    refine AnyL.forced q23 rfl g23 (fun K hK => s5 u0 u1 u2 u3 u4 w5 i5 K (fun u5 w6 i6 => hK _ _ (fun _ => z6 u0 u1 u2 u3 u4 u5 w6 i6) ?_))
    refine AnyL.forced q24 rfl g24 (fun K hK => s6 u0 u1 u2 u3 u4 u5 w6 i6 K (fun u6 w7 i7 => hK _ _ (fun _ => z7 u0 u1 u2 u3 u4 u5 u6 w7 i7) ?_))
    refine AnyL.forced q25 rfl g25 (fun K hK => se u0 u1 u2 u3 u4 u5 u6 w7 i7 K (fun we ie => hK _ _ (fun h9 => (by cases h9)) ?_))
    exact ⟨rr, NoPanic.normal (h u0 u1 u2 u3 u4 u5 u6 we ie)⟩
  refine AnyL.two qa rfl rfl g15 g19 (fun K hK => sx w.drew i0 K (fun u0 w1 i1 => hK _ _ (fun _ => zx u0 w1 i1) ?_)) (fun K hK => sy w.drew i0 K (fun u1 w1 i1 => hK _ _ (fun _ => zy u1 w1 i1) ?_))
  · exact AnyL.forced qx rfl g19 (fun K hK => sxy u0 w1 i1 K (fun u1 w2 i2 => hK _ _ (fun _ => z2 u0 u1 w2 i2) (rest u0 u1 w2 i2)))
  · refine AnyL.forced qy rfl g15 (fun K hK => syx u1 w1 i1 K (fun u0 w2 i2 => hK _ _ (fun _ => z2 u0 u1 w2 i2) ?_))
    rw [Act.put_comm _ _ _ nexy]
    exact rest u0 u1 w2 i2

end
end Go.Proofs.YtecadmldnjlibaaDoor
/-
  One operation: a call, by its contract.
-/
namespace Go.Proofs.YtecadmldnjlibaaDoor
open Go Go.RowKit Go.BigFrame
set_option linter.unusedVariables false
set_option linter.unusedSimpArgs false

theorem wp_callN {o : Oper} {a : Act} {w : World} {K : Act → World → Prop} {Q : Exit → Act → World → Prop} {f : FuncId} {xs : Array Operand} {ts : Array TypeId} (ho : o.op = .call { callee := .value (.func f), args := xs, argTypes := ts })
    (hcl : ∀ args W, (callFunc f args).run Tryd.prog W = .ok (.enter f args) W) (us : List Value) (he : xs.toList.map a.eval = us) {R : Ending → World → Prop}
    (hc : Calls Tryd.prog f us.toArray w R) (h : ∀ e w', R e w' → ∃ v, e = .returned v ∧ K (a.put o.dst v) w') : o.wp Tryd.prog a w K Q := by
  have he2 : xs.map a.eval = us.toArray := by rw [← he]; cases xs; simp only [List.map_toArray]
  unfold Oper.wp execOp
  simp only [ho]
  have hf : a.eval (.func f) = .func (.func f) #[] #[] := rfl
  simp only [resolve, invoke, hf, he2, Sem.run_bind, Sem.run_pure, Result.andThen_ok, hcl]
  simp [Deferred.ofValue, hcl, go_sem]
  refine hc.mono ?_
  intro e w2 h2
  obtain ⟨v, rfl, h3⟩ := h e w2 h2
  exact h3
end Go.Proofs.YtecadmldnjlibaaDoor
namespace Go.Proofs.YtecadmldnjlibaaDoor
open Go.RowKit Go.BigFrame
set_option linter.unusedVariables false
set_option linter.unusedSimpArgs false

theorem wp_appendT {P : Program} {o : Oper} {a : Act} {w : World} {K : Act → World → Prop} {Q : Exit → Act → World → Prop} {s x : Operand} {t : TypeId} (ho : o.op = .call { callee := .builtin .append, args := #[s, x], argTypes := #[t, t] }) (hty : o.type = t) {v u r : Value} {w1 : World} (hs : a.eval s = v) (hx : a.eval x = u)
    (hrun : (Builtin.append_ #[t, t] t #[v, u]).run P w = .ok r w1) (hK : K (a.put o.dst r) w1) : o.wp P a w K Q := by
  unfold Oper.wp execOp
  simp only [ho, hty, resolve, invoke, builtin, Sem.run_bind, Sem.run_pure, Result.andThen_ok, List.map_toArray, List.map_cons, List.map_nil, hs, hx, hrun]
  exact hK

theorem size_part : (Tryd.prog.info? 75).map (·.size) = some 33 := by kernel_rfl
theorem zP_size : zP.size = 33 := rfl
theorem z87_size : (Tryd.zeroCells90).size = 66 := by kernel_rfl
theorem pair_fold (x y : List Value) (hx : x.length = 33) (hy : y.length = 33) : List.foldl (fun cs x => cs.setIfInBounds (33 + x.snd) x.fst) (List.foldl (fun cs x => cs.setIfInBounds x.snd x.fst) Tryd.zeroCells90 x.zipIdx) y.zipIdx = (x ++ y).toArray := by
  have h1 := fold_put x Tryd.zeroCells90 0 0 (by rw [z87_size]; omega)
  simp only [Nat.zero_add] at h1
  rw [h1, List.take_zero, List.nil_append]
  have h2 := fold_put y (x ++ List.drop x.length Tryd.zeroCells90.toList).toArray 33 0 (by simp [z87_size]; omega)
  rw [h2]
  simp only [Nat.add_zero]
  congr 1
  rw [List.take_append_of_le_length (by omega), List.take_of_length_le (by omega), List.drop_eq_nil_of_le (by simp [z87_size]; omega), List.append_nil]
theorem build_partL (leaf : List Nat) (hl : leaf.length = 32) : List.foldl (fun cs x => cs.setIfInBounds x.snd x.fst) zP (leaf.map u8).zipIdx = (partC leaf (.pointer none)).toArray := by
  have h := fold_put (leaf.map u8) zP 0 0 (by rw [zP_size]; simp [hl])
  simp only [Nat.zero_add] at h
  rw [h, List.length_map, hl, List.take_zero, List.nil_append]
  unfold partC
  rfl
theorem build_part (leaf : List Nat) (hl : leaf.length = 32) : Array.foldl (fun cs x => cs.setIfInBounds x.snd x.fst) zP (brow leaf).zipIdx 0 32 = (partC leaf (.pointer none)).toArray := by
  have hs : (brow leaf).zipIdx.size = 32 := by rw [Array.size_zipIdx, brow_size, hl]
  rw [← build_partL leaf hl]
  conv => lhs; rw [← hs]
  rw [← Array.foldl_toList, Array.toList_zipIdx]
  rfl
theorem part_fold (s : List Nat) (k : Value) (hs : s.length = 32) : (Array.foldl (fun cs x => cs.setIfInBounds x.snd x.fst) zP (brow s).zipIdx 0 32).setIfInBounds 32 k = (partC s k).toArray := by
  rw [build_part s hs]
  apply Array.toList_inj.1
  simp [partC, List.set_append, hs]
theorem build_one (s : List Nat) (k : Value) (hs : s.length = 32) : List.foldl (fun cs x => cs.setIfInBounds x.snd x.fst) zP (partC s k).zipIdx = (partC s k).toArray := by
  have h := fold_put (partC s k) zP 0 0 (by rw [zP_size, partC_len hs]; omega)
  simp only [Nat.zero_add] at h
  rw [h, partC_len hs, List.take_zero, List.nil_append, List.drop_eq_nil_of_le (by show 33 ≤ 33; omega), List.append_nil]

theorem built_part (s : List Nat) (k : Value) (hs : s.length = 32) (hk : k.cells = #[k]) : Tryd.prog.built 75 [(0, .agg (brow s)), (1, k)] = some (partC s k).toArray := by
  obtain ⟨i0, hi, hz0, hz1, hz2⟩ := info_parts Tryd.infoP
  have hb : (brow s).size = 32 := by rw [brow_size, hs]
  have h2 := part_fold s k hs
  have h3 := build_part s hs
  have h4 : (partC s (Value.pointer none)).toArray.size = 33 := by rw [List.size_toArray, partC_len hs]
  have hpl : (fun (f : Array Field) => f.toList.mapM (fun f => (Tryd.prog.info? f.type).map fun i => (f.offset, i.size))) <$> (match Tryd.prog.underlying 75 with | some (.struct fs) => some fs | _ => none) = some (some [(0, 32), (32, 1)]) := by kernel_rfl
  unfold Program.built
  rw [hi]
  cases hu : Tryd.prog.underlying 75 with
  | none => rw [hu] at hpl; simp at hpl
  | some u =>
    rw [hu] at hpl
    cases u <;> simp at hpl
    simp only [hz0, hpl]
    have e1 : (Value.agg zP).cells = zP := rfl
    have e2 : (Value.agg (brow s)).cells = brow s := rfl
    have e3 : ¬ ((brow s).size ≠ 32 || decide (0 + (brow s).size > zP.size)) = true := by rw [hb, zP_size]; decide
    have e4 : Array.foldl (fun cs x => cs.setIfInBounds (0 + x.snd) x.fst) zP (brow s).zipIdx 0 (brow s).zipIdx.size = (partC s (Value.pointer none)).toArray := by
      rw [← h3]; simp only [Nat.zero_add, Array.size_zipIdx, hb]
    rw [e1, Instr.fill]
    simp only [List.getElem?_toArray, List.getElem?_cons_zero, List.getElem?_cons_succ, e2]
    rw [if_neg e3]
    rw [h3] at h2
    have e5 : ¬ ((#[k] : Array Value).size ≠ 1 || decide (32 + (#[k] : Array Value).size > (partC s (Value.pointer none)).toArray.size)) = true := by rw [h4]; simp
    rw [e4, Instr.fill]
    simp only [List.getElem?_cons_zero, List.getElem?_cons_succ, hk]
    rw [if_neg e5, Instr.fill]
    exact congrArg some h2
theorem wp_build_part {o : Oper} {a : Act} {w : World} {K : Act → World → Prop} {Q : Exit → Act → World → Prop} (x y : Operand) (ho : o.op = .build 75 #[(0, x), (1, y)]) (s : List Nat) (k : Value) (hs : s.length = 32) (hk : k.cells = #[k]) (hx : a.eval x = .agg (brow s)) (hy : a.eval y = k) (h : K (a.put o.dst (.agg (partC s k).toArray)) w) : o.wp Tryd.prog a w K Q := by
  have hb := built_part s k hs hk
  refine wp_build _ _ ho ?_ ?_
  · simp only [List.map_toArray, List.map_cons, List.map_nil, hx, hy]; rw [hb]; rfl
  · simp only [List.map_toArray, List.map_cons, List.map_nil, hx, hy]; rw [hb]; exact h
set_option maxRecDepth 100000 in
theorem wp_store_t2 {o : Oper} {a : Act} {w : World} {K : Act → World → Prop} {Q : Exit → Act → World → Prop} (x y : Operand) (ho : o.op = .store 63 x y) (t : Nat) (u : Value) (cs : Array Value) (hu : ∃ a1 n1 c1, u = .slice a1 n1 c1) (hx : a.eval x = .pointer (some ⟨t, 2, none⟩)) (hy : a.eval y = u) (hq : w.heap[t]? = some (.cells cs 65 (0, 0))) (hcs : 2 < cs.size) (h : K (a.put o.dst undef) (w.setCell ⟨t, 2, none⟩ u)) : o.wp Tryd.prog a w K Q := by
  obtain ⟨a1, n1, c1, rfl⟩ := hu
  have hsz : ∃ c, w.cell? ⟨t, 2, none⟩ = some c := by rw [cell_of_row _ _ 2 _ _ _ hq]; exact ⟨_, Array.getElem?_eq_getElem hcs⟩
  obtain ⟨c0, cq9⟩ := hsz
  have fz9 : w.frozen? ⟨t, 2, none⟩ = false := by simp [World.frozen?, hq]
  unfold Oper.wp execOp
  simp only [ho, hx, hy]
  go_simp
  exact h
theorem range_rowV {w : World} {g T : Nat} {l : List Value} (h : w.heap[g]? = some (.cells l.toArray T (0, 0))) : w.rangeAt g 0 l := by
  intro j v hj
  have h1 := cell_of_row w g j _ _ _ h
  rw [Nat.zero_add, h1]
  simpa using hj
theorem range_part {w : World} {g : Nat} {s : List Nat} {k : Value} (h : w.rangeAt g 0 (partC s k)) : w.rangeAt g 0 (s.map u8) := by
  intro j v hj
  refine h j v ?_
  unfold partC
  rw [List.getElem?_append_left (List.getElem?_eq_some_iff.1 hj).1]
  exact hj
theorem owns_front {w : World} {base g1 cap1 j : Nat} {front2 : List Pk} {pa top : Pk} (h : w.ownsRow base 75 33 (.slice (some ⟨g1, 0, none⟩) ((front2 ++ [pa]).length + 1) cap1) ((front2 ++ [pa]).length + 1) (cellsK (front2 ++ [pa] ++ [top]))) (hj : front2.length = j) (h1 : pa.s.length = 32) (h2 : top.s.length = 32) (hd : ∀ p ∈ front2, p.s.length = 32) : w.ownsRow base 75 33 (.slice (some ⟨g1, 0, none⟩) j cap1) j (cellsK front2) := by
  have h9 := ownsK_take h j (by simp; omega)
  have e : (cellsK (front2 ++ [pa] ++ [top])).take (j * 33) = cellsK front2 := by
    rw [cellsK_app, cellsK_app, List.append_assoc, List.take_left' (by rw [cellsK_len' hd, hj])]
  rw [e] at h9
  exact h9

end Go.Proofs.YtecadmldnjlibaaDoor
/-
  Laws for drawn regions, by genreg.py. No program.
-/
namespace Go.Proofs.YtecadmldnjlibaaDoor
open Go Go.RowKit Go.BigFrame
set_option linter.unusedVariables false
set_option linter.unusedSimpArgs false
section
variable {P : Program} {Q : Exit → Act → World → Prop}
theorem wp_ke16 {id : Nat} {o0 o1 o2 o3 o4 o5 o6 o7 o8 o9 o10 o11 o12 o13 o14 o15 : Oper} {a : Act} {w : World} (hm : P.follows .mixedOrders = true) (hs : Region.noSelect #[o0, o1, o2, o3, o4, o5, o6, o7, o8, o9, o10, o11, o12, o13, o14, o15] = true)
    (f0 : Region.free .any #[o0, o1, o2, o3, o4, o5, o6, o7, o8, o9, o10, o11, o12, o13, o14, o15] #[false, false, false, false, false, false, false, false, false, false, false, false, false, false, false, false] 0 = true) (r0 : (Region.ready .any #[o0, o1, o2, o3, o4, o5, o6, o7, o8, o9, o10, o11, o12, o13, o14, o15] #[false, false, false, false, false, false, false, false, false, false, false, false, false, false, false, false]).contains 0 = true)
    (f1 : Region.free .any #[o0, o1, o2, o3, o4, o5, o6, o7, o8, o9, o10, o11, o12, o13, o14, o15] #[true, false, false, false, false, false, false, false, false, false, false, false, false, false, false, false] 1 = true) (r1 : (Region.ready .any #[o0, o1, o2, o3, o4, o5, o6, o7, o8, o9, o10, o11, o12, o13, o14, o15] #[true, false, false, false, false, false, false, false, false, false, false, false, false, false, false, false]).contains 1 = true)
    (f2 : Region.free .any #[o0, o1, o2, o3, o4, o5, o6, o7, o8, o9, o10, o11, o12, o13, o14, o15] #[true, true, false, false, false, false, false, false, false, false, false, false, false, false, false, false] 2 = true) (r2 : (Region.ready .any #[o0, o1, o2, o3, o4, o5, o6, o7, o8, o9, o10, o11, o12, o13, o14, o15] #[true, true, false, false, false, false, false, false, false, false, false, false, false, false, false, false]).contains 2 = true)
    (f3 : Region.free .any #[o0, o1, o2, o3, o4, o5, o6, o7, o8, o9, o10, o11, o12, o13, o14, o15] #[true, true, true, false, false, false, false, false, false, false, false, false, false, false, false, false] 3 = true) (r3 : (Region.ready .any #[o0, o1, o2, o3, o4, o5, o6, o7, o8, o9, o10, o11, o12, o13, o14, o15] #[true, true, true, false, false, false, false, false, false, false, false, false, false, false, false, false]).contains 3 = true)
    (f4 : Region.free .any #[o0, o1, o2, o3, o4, o5, o6, o7, o8, o9, o10, o11, o12, o13, o14, o15] #[true, true, true, true, false, false, false, false, false, false, false, false, false, false, false, false] 4 = true) (r4 : (Region.ready .any #[o0, o1, o2, o3, o4, o5, o6, o7, o8, o9, o10, o11, o12, o13, o14, o15] #[true, true, true, true, false, false, false, false, false, false, false, false, false, false, false, false]).contains 4 = true)
    (f5 : Region.free .any #[o0, o1, o2, o3, o4, o5, o6, o7, o8, o9, o10, o11, o12, o13, o14, o15] #[true, true, true, true, true, false, false, false, false, false, false, false, false, false, false, false] 5 = true) (r5 : (Region.ready .any #[o0, o1, o2, o3, o4, o5, o6, o7, o8, o9, o10, o11, o12, o13, o14, o15] #[true, true, true, true, true, false, false, false, false, false, false, false, false, false, false, false]).contains 5 = true)
    (f6 : Region.free .any #[o0, o1, o2, o3, o4, o5, o6, o7, o8, o9, o10, o11, o12, o13, o14, o15] #[true, true, true, true, true, true, false, false, false, false, false, false, false, false, false, false] 6 = true) (r6 : (Region.ready .any #[o0, o1, o2, o3, o4, o5, o6, o7, o8, o9, o10, o11, o12, o13, o14, o15] #[true, true, true, true, true, true, false, false, false, false, false, false, false, false, false, false]).contains 6 = true)
    (f7 : Region.free .any #[o0, o1, o2, o3, o4, o5, o6, o7, o8, o9, o10, o11, o12, o13, o14, o15] #[true, true, true, true, true, true, true, false, false, false, false, false, false, false, false, false] 7 = true) (r7 : (Region.ready .any #[o0, o1, o2, o3, o4, o5, o6, o7, o8, o9, o10, o11, o12, o13, o14, o15] #[true, true, true, true, true, true, true, false, false, false, false, false, false, false, false, false]).contains 7 = true)
    (f8 : Region.free .any #[o0, o1, o2, o3, o4, o5, o6, o7, o8, o9, o10, o11, o12, o13, o14, o15] #[true, true, true, true, true, true, true, true, false, false, false, false, false, false, false, false] 8 = true) (r8 : (Region.ready .any #[o0, o1, o2, o3, o4, o5, o6, o7, o8, o9, o10, o11, o12, o13, o14, o15] #[true, true, true, true, true, true, true, true, false, false, false, false, false, false, false, false]).contains 8 = true)
    (f9 : Region.free .any #[o0, o1, o2, o3, o4, o5, o6, o7, o8, o9, o10, o11, o12, o13, o14, o15] #[true, true, true, true, true, true, true, true, true, false, false, false, false, false, false, false] 9 = true) (r9 : (Region.ready .any #[o0, o1, o2, o3, o4, o5, o6, o7, o8, o9, o10, o11, o12, o13, o14, o15] #[true, true, true, true, true, true, true, true, true, false, false, false, false, false, false, false]).contains 9 = true)
    (f10 : Region.free .any #[o0, o1, o2, o3, o4, o5, o6, o7, o8, o9, o10, o11, o12, o13, o14, o15] #[true, true, true, true, true, true, true, true, true, true, false, false, false, false, false, false] 10 = true) (r10 : (Region.ready .any #[o0, o1, o2, o3, o4, o5, o6, o7, o8, o9, o10, o11, o12, o13, o14, o15] #[true, true, true, true, true, true, true, true, true, true, false, false, false, false, false, false]).contains 10 = true)
    (q_ : Region.ready .any #[o0, o1, o2, o3, o4, o5, o6, o7, o8, o9, o10, o11, o12, o13, o14, o15] #[true, true, true, true, true, true, true, true, true, true, true, false, false, false, false, false] = [11, 14])
    (f_11_12 : Region.free .any #[o0, o1, o2, o3, o4, o5, o6, o7, o8, o9, o10, o11, o12, o13, o14, o15] #[true, true, true, true, true, true, true, true, true, true, true, true, false, false, false, false] 12 = true) (r_11_12 : (Region.ready .any #[o0, o1, o2, o3, o4, o5, o6, o7, o8, o9, o10, o11, o12, o13, o14, o15] #[true, true, true, true, true, true, true, true, true, true, true, true, false, false, false, false]).contains 12 = true)
    (f_11_13 : Region.free .any #[o0, o1, o2, o3, o4, o5, o6, o7, o8, o9, o10, o11, o12, o13, o14, o15] #[true, true, true, true, true, true, true, true, true, true, true, true, true, false, false, false] 13 = true) (r_11_13 : (Region.ready .any #[o0, o1, o2, o3, o4, o5, o6, o7, o8, o9, o10, o11, o12, o13, o14, o15] #[true, true, true, true, true, true, true, true, true, true, true, true, true, false, false, false]).contains 13 = true)
    (q11_ : Region.ready .any #[o0, o1, o2, o3, o4, o5, o6, o7, o8, o9, o10, o11, o12, o13, o14, o15] #[true, true, true, true, true, true, true, true, true, true, true, true, true, true, false, false] = [14])
    (q14_ : Region.ready .any #[o0, o1, o2, o3, o4, o5, o6, o7, o8, o9, o10, o11, o12, o13, o14, o15] #[true, true, true, true, true, true, true, true, true, true, true, false, false, false, true, false] = [11])
    (f14_11_12 : Region.free .any #[o0, o1, o2, o3, o4, o5, o6, o7, o8, o9, o10, o11, o12, o13, o14, o15] #[true, true, true, true, true, true, true, true, true, true, true, true, false, false, true, false] 12 = true) (r14_11_12 : (Region.ready .any #[o0, o1, o2, o3, o4, o5, o6, o7, o8, o9, o10, o11, o12, o13, o14, o15] #[true, true, true, true, true, true, true, true, true, true, true, true, false, false, true, false]).contains 12 = true)
    (f14_11_13 : Region.free .any #[o0, o1, o2, o3, o4, o5, o6, o7, o8, o9, o10, o11, o12, o13, o14, o15] #[true, true, true, true, true, true, true, true, true, true, true, true, true, false, true, false] 13 = true) (r14_11_13 : (Region.ready .any #[o0, o1, o2, o3, o4, o5, o6, o7, o8, o9, o10, o11, o12, o13, o14, o15] #[true, true, true, true, true, true, true, true, true, true, true, true, true, false, true, false]).contains 13 = true)
    (q11_14_ : Region.ready .any #[o0, o1, o2, o3, o4, o5, o6, o7, o8, o9, o10, o11, o12, o13, o14, o15] #[true, true, true, true, true, true, true, true, true, true, true, true, true, true, true, false] = [15])
    (q11_14_15_ : Region.ready .any #[o0, o1, o2, o3, o4, o5, o6, o7, o8, o9, o10, o11, o12, o13, o14, o15] #[true, true, true, true, true, true, true, true, true, true, true, true, true, true, true, true] = [])
    (g11 : o11.guard = none)    (g14 : o14.guard = none)    (g15 : o15.guard = none)
    (ne14_11 : ∀ d, o14.dst = some d → o11.dst ≠ some d)
    (ne14_12 : ∀ d, o14.dst = some d → o12.dst ≠ some d)
    (ne14_13 : ∀ d, o14.dst = some d → o13.dst ≠ some d)
    (v0 v1 v2 v3 v4 v5 v6 v7 v8 v9 v10 : Value) (A0 A1 A2 A3 A4 A5 A6 A7 A8 A9 A10 : Act)
    (S : World → Prop)
    (I_ : World → Prop)
    (I11_ : Value → World → Prop)
    (I14_ : Value → World → Prop)
    (I11_14_ : Value → Value → World → Prop)
    (I11_14_15_ : Value → Value → Value → World → Prop)
    (v12 : Value → Value)
    (v13 : Value → Value)
    (p0 : a.put o0.dst v0 = A0) (hy0 : YieldsIf P #[o0, o1, o2, o3, o4, o5, o6, o7, o8, o9, o10, o11, o12, o13, o14, o15] S o0 v0 a)
    (p1 : A0.put o1.dst v1 = A1) (hy1 : YieldsIf P #[o0, o1, o2, o3, o4, o5, o6, o7, o8, o9, o10, o11, o12, o13, o14, o15] S o1 v1 A0)
    (p2 : A1.put o2.dst v2 = A2) (hy2 : YieldsIf P #[o0, o1, o2, o3, o4, o5, o6, o7, o8, o9, o10, o11, o12, o13, o14, o15] S o2 v2 A1)
    (p3 : A2.put o3.dst v3 = A3) (hy3 : YieldsIf P #[o0, o1, o2, o3, o4, o5, o6, o7, o8, o9, o10, o11, o12, o13, o14, o15] S o3 v3 A2)
    (p4 : A3.put o4.dst v4 = A4) (hy4 : YieldsIf P #[o0, o1, o2, o3, o4, o5, o6, o7, o8, o9, o10, o11, o12, o13, o14, o15] S o4 v4 A3)
    (p5 : A4.put o5.dst v5 = A5) (hy5 : YieldsIf P #[o0, o1, o2, o3, o4, o5, o6, o7, o8, o9, o10, o11, o12, o13, o14, o15] S o5 v5 A4)
    (p6 : A5.put o6.dst v6 = A6) (hy6 : YieldsIf P #[o0, o1, o2, o3, o4, o5, o6, o7, o8, o9, o10, o11, o12, o13, o14, o15] S o6 v6 A5)
    (p7 : A6.put o7.dst v7 = A7) (hy7 : YieldsIf P #[o0, o1, o2, o3, o4, o5, o6, o7, o8, o9, o10, o11, o12, o13, o14, o15] S o7 v7 A6)
    (p8 : A7.put o8.dst v8 = A8) (hy8 : YieldsIf P #[o0, o1, o2, o3, o4, o5, o6, o7, o8, o9, o10, o11, o12, o13, o14, o15] S o8 v8 A7)
    (p9 : A8.put o9.dst v9 = A9) (hy9 : YieldsIf P #[o0, o1, o2, o3, o4, o5, o6, o7, o8, o9, o10, o11, o12, o13, o14, o15] S o9 v9 A8)
    (p10 : A9.put o10.dst v10 = A10) (hy10 : YieldsIf P #[o0, o1, o2, o3, o4, o5, o6, o7, o8, o9, o10, o11, o12, o13, o14, o15] S o10 v10 A9)
    (i0 : I_ w.drew)
    (hIS : (∀ w', I_  w' → S w') ∧ (∀ (u11 : Value) w', I11_ u11 w' → S w') ∧ (∀ (u14 : Value) w', I14_ u14 w' → S w') ∧ (∀ (u11 u14 : Value) w', I11_14_ u11 u14 w' → S w') ∧ (∀ (u11 u14 u15 : Value) w', I11_14_15_ u11 u14 u15 w' → S w'))
    (s_11 : ∀ w', I_  w' → ∀ K : Act → World → Prop, (∀ (u11 : Value) w2, I11_ u11 w2 → K (A10.put o11.dst u11) w2) → o11.wp P A10 w' K (NoPanic Q))
    (s_14 : ∀ w', I_  w' → ∀ K : Act → World → Prop, (∀ (u14 : Value) w2, I14_ u14 w2 → K (A10.put o14.dst u14) w2) → o14.wp P A10 w' K (NoPanic Q))
    (s11_14 : ∀ (u11 : Value) w', I11_ u11 w' → ∀ K : Act → World → Prop, (∀ (u14 : Value) w2, I11_14_ u11 u14 w2 → K ((((A10.put o11.dst u11).put o12.dst (v12 u11)).put o13.dst (v13 u11)).put o14.dst u14) w2) → o14.wp P (((A10.put o11.dst u11).put o12.dst (v12 u11)).put o13.dst (v13 u11)) w' K (NoPanic Q))
    (s14_11 : ∀ (u14 : Value) w', I14_ u14 w' → ∀ K : Act → World → Prop, (∀ (u11 : Value) w2, I11_14_ u11 u14 w2 → K ((A10.put o14.dst u14).put o11.dst u11) w2) → o11.wp P (A10.put o14.dst u14) w' K (NoPanic Q))
    (s11_14_15 : ∀ (u11 u14 : Value) w', I11_14_ u11 u14 w' → ∀ K : Act → World → Prop, (∀ (u15 : Value) w2, I11_14_15_ u11 u14 u15 w2 → K (((((A10.put o11.dst u11).put o12.dst (v12 u11)).put o13.dst (v13 u11)).put o14.dst u14).put o15.dst u15) w2) → o15.wp P ((((A10.put o11.dst u11).put o12.dst (v12 u11)).put o13.dst (v13 u11)).put o14.dst u14) w' K (NoPanic Q))
    (y_11_12 : ∀ (u11 : Value) w', I11_ u11 w' → YieldsIf P #[o0, o1, o2, o3, o4, o5, o6, o7, o8, o9, o10, o11, o12, o13, o14, o15] S o12 (v12 u11) (A10.put o11.dst u11))
    (y_11_13 : ∀ (u11 : Value) w', I11_ u11 w' → YieldsIf P #[o0, o1, o2, o3, o4, o5, o6, o7, o8, o9, o10, o11, o12, o13, o14, o15] S o13 (v13 u11) ((A10.put o11.dst u11).put o12.dst (v12 u11)))
    (y14_11_12 : ∀ (u11 u14 : Value) w', I11_14_ u11 u14 w' → YieldsIf P #[o0, o1, o2, o3, o4, o5, o6, o7, o8, o9, o10, o11, o12, o13, o14, o15] S o12 (v12 u11) ((A10.put o11.dst u11).put o14.dst u14))
    (y14_11_13 : ∀ (u11 u14 : Value) w', I11_14_ u11 u14 w' → YieldsIf P #[o0, o1, o2, o3, o4, o5, o6, o7, o8, o9, o10, o11, o12, o13, o14, o15] S o13 (v13 u11) (((A10.put o11.dst u11).put o12.dst (v12 u11)).put o14.dst u14))
    (h : ∀ (u11 u14 u15 : Value) w', I11_14_15_ u11 u14 u15 w' → Q .normal (((((A10.put o11.dst u11).put o12.dst (v12 u11)).put o13.dst (v13 u11)).put o14.dst u14).put o15.dst u15) w') :
    (Code.region id #[o0, o1, o2, o3, o4, o5, o6, o7, o8, o9, o10, o11, o12, o13, o14, o15] true).wp P Q a w := by
  subst p0 p1 p2 p3 p4 p5 p6 p7 p8 p9 p10
  obtain ⟨z_, z11_, z14_, z11_14_, z11_14_15_⟩ := hIS
  refine wp_region_noPanic ?_
  refine wp_region_held_drew (S := S) hm (z_ _ i0) (fun hH => ?_)
  show wpAnyH P .any #[o0, o1, o2, o3, o4, o5, o6, o7, o8, o9, o10, o11, o12, o13, o14, o15] (NoPanic Q) S 16 #[false, false, false, false, false, false, false, false, false, false, false, false, false, false, false, false] a w.drew
  refine wpAnyH_take (i := 0) (oi := o0) rfl hs f0 r0 (fun _ _ _ h => h) hy0 hH ?_
  refine wpAnyH_take (i := 1) (oi := o1) rfl hs f1 r1 (fun _ _ _ h => h) hy1 hH ?_
  refine wpAnyH_take (i := 2) (oi := o2) rfl hs f2 r2 (fun _ _ _ h => h) hy2 hH ?_
  refine wpAnyH_take (i := 3) (oi := o3) rfl hs f3 r3 (fun _ _ _ h => h) hy3 hH ?_
  refine wpAnyH_take (i := 4) (oi := o4) rfl hs f4 r4 (fun _ _ _ h => h) hy4 hH ?_
  refine wpAnyH_take (i := 5) (oi := o5) rfl hs f5 r5 (fun _ _ _ h => h) hy5 hH ?_
  refine wpAnyH_take (i := 6) (oi := o6) rfl hs f6 r6 (fun _ _ _ h => h) hy6 hH ?_
  refine wpAnyH_take (i := 7) (oi := o7) rfl hs f7 r7 (fun _ _ _ h => h) hy7 hH ?_
  refine wpAnyH_take (i := 8) (oi := o8) rfl hs f8 r8 (fun _ _ _ h => h) hy8 hH ?_
  refine wpAnyH_take (i := 9) (oi := o9) rfl hs f9 r9 (fun _ _ _ h => h) hy9 hH ?_
  refine wpAnyH_take (i := 10) (oi := o10) rfl hs f10 r10 (fun _ _ _ h => h) hy10 hH ?_
  generalize (((((((((((a.put o0.dst v0).put o1.dst v1).put o2.dst v2).put o3.dst v3).put o4.dst v4).put o5.dst v5).put o6.dst v6).put o7.dst v7).put o8.dst v8).put o9.dst v9).put o10.dst v10) = B at *
  have wa11 : ∀ y, Region.wanted o11 y = true := fun y => by unfold Region.wanted; rw [g11]
  have wa14 : ∀ y, Region.wanted o14 y = true := fun y => by unfold Region.wanted; rw [g14]
  have wa15 : ∀ y, Region.wanted o15 y = true := fun y => by unfold Region.wanted; rw [g15]
  have t11_14_15_ : ∀ (u11 u14 u15 : Value) w', I11_14_15_ u11 u14 u15 w' → wpAnyH P .any #[o0, o1, o2, o3, o4, o5, o6, o7, o8, o9, o10, o11, o12, o13, o14, o15] (NoPanic Q) S 0 #[true, true, true, true, true, true, true, true, true, true, true, true, true, true, true, true] (((((B.put o11.dst u11).put o12.dst (v12 u11)).put o13.dst (v13 u11)).put o14.dst u14).put o15.dst u15) w' := by
    intro u11 u14 u15 w0 i0
    exact ⟨q11_14_15_, NoPanic.normal (h u11 u14 u15 w0 i0)⟩
  have t11_14_ : ∀ (u11 u14 : Value) w', I11_14_ u11 u14 w' → wpAnyH P .any #[o0, o1, o2, o3, o4, o5, o6, o7, o8, o9, o10, o11, o12, o13, o14, o15] (NoPanic Q) S 1 #[true, true, true, true, true, true, true, true, true, true, true, true, true, true, true, false] ((((B.put o11.dst u11).put o12.dst (v12 u11)).put o13.dst (v13 u11)).put o14.dst u14) w' := by
    intro u11 u14 w0 i0
    refine wpAnyH_ready (rs := [15]) q11_14_ (by simp) (AllReadyH.cons (o := o15) rfl (fun K hK => ?_) AllReadyH.nil)
    · rw [if_pos (wa15 _)]
      refine s11_14_15 u11 u14 w0 i0 K (fun u15 w1 i1 => hK.out _ _ (z11_14_15_ u11 u14 u15 w1 i1) (fun _ => ?_))
      clear hK
      exact t11_14_15_ u11 u14 u15 w1 i1
  have t14_ : ∀ (u14 : Value) w', I14_ u14 w' → wpAnyH P .any #[o0, o1, o2, o3, o4, o5, o6, o7, o8, o9, o10, o11, o12, o13, o14, o15] (NoPanic Q) S 4 #[true, true, true, true, true, true, true, true, true, true, true, false, false, false, true, false] (B.put o14.dst u14) w' := by
    intro u14 w0 i0
    refine wpAnyH_ready (rs := [11]) q14_ (by simp) (AllReadyH.cons (o := o11) rfl (fun K hK => ?_) AllReadyH.nil)
    · rw [if_pos (wa11 _)]
      refine s14_11 u14 w0 i0 K (fun u11 w1 i1 => hK.out _ _ (z11_14_ u11 u14 w1 i1) (fun _ => ?_))
      clear hK
      rw [Act.put_comm _ _ _ ne14_11]
      refine wpAnyH_take (i := 12) (oi := o12) rfl hs f14_11_12 r14_11_12 (fun _ _ _ h => h) (y14_11_12 u11 u14 w1 i1) (z11_14_ u11 u14 w1 i1) ?_
      rw [Act.put_comm _ _ _ ne14_12]
      refine wpAnyH_take (i := 13) (oi := o13) rfl hs f14_11_13 r14_11_13 (fun _ _ _ h => h) (y14_11_13 u11 u14 w1 i1) (z11_14_ u11 u14 w1 i1) ?_
      rw [Act.put_comm _ _ _ ne14_13]
      exact t11_14_ u11 u14 w1 i1
  have t11_ : ∀ (u11 : Value) w', I11_ u11 w' → wpAnyH P .any #[o0, o1, o2, o3, o4, o5, o6, o7, o8, o9, o10, o11, o12, o13, o14, o15] (NoPanic Q) S 2 #[true, true, true, true, true, true, true, true, true, true, true, true, true, true, false, false] (((B.put o11.dst u11).put o12.dst (v12 u11)).put o13.dst (v13 u11)) w' := by
    intro u11 w0 i0
    refine wpAnyH_ready (rs := [14]) q11_ (by simp) (AllReadyH.cons (o := o14) rfl (fun K hK => ?_) AllReadyH.nil)
    · rw [if_pos (wa14 _)]
      refine s11_14 u11 w0 i0 K (fun u14 w1 i1 => hK.out _ _ (z11_14_ u11 u14 w1 i1) (fun _ => ?_))
      clear hK
      exact t11_14_ u11 u14 w1 i1
  have t_ : ∀ w', I_  w' → wpAnyH P .any #[o0, o1, o2, o3, o4, o5, o6, o7, o8, o9, o10, o11, o12, o13, o14, o15] (NoPanic Q) S 5 #[true, true, true, true, true, true, true, true, true, true, true, false, false, false, false, false] B w' := by
    intro w0 i0
    refine wpAnyH_ready (rs := [11, 14]) q_ (by simp) (AllReadyH.cons (o := o11) rfl (fun K hK => ?_) (AllReadyH.cons (o := o14) rfl (fun K hK => ?_) AllReadyH.nil))
    · rw [if_pos (wa11 _)]
      refine s_11  w0 i0 K (fun u11 w1 i1 => hK.out _ _ (z11_ u11 w1 i1) (fun _ => ?_))
      clear hK
      refine wpAnyH_take (i := 12) (oi := o12) rfl hs f_11_12 r_11_12 (fun _ _ _ h => h) (y_11_12 u11 w1 i1) (z11_ u11 w1 i1) ?_
      refine wpAnyH_take (i := 13) (oi := o13) rfl hs f_11_13 r_11_13 (fun _ _ _ h => h) (y_11_13 u11 w1 i1) (z11_ u11 w1 i1) ?_
      exact t11_ u11 w1 i1
    · rw [if_pos (wa14 _)]
      refine s_14  w0 i0 K (fun u14 w1 i1 => hK.out _ _ (z14_ u14 w1 i1) (fun _ => ?_))
      clear hK
      exact t14_ u14 w1 i1
  exact t_ w.drew i0

end
end Go.Proofs.YtecadmldnjlibaaDoor
namespace Go.Proofs.YtecadmldnjlibaaDoor
open Go.RowKit Go.BigFrame
set_option linter.unusedVariables false
set_option linter.unusedSimpArgs false

theorem wpQuiet_midT {P : Program} {ops : Array Oper} {C : World → Prop} {Q : Act → Prop} {a : Act} {o : Oper} {rest : List Oper} (hw : Region.wanted o (yielded ops a.tmps) = true) (ty : TypeId) (x : Operand) (ho : o.op = .load ty x)
    (b off : Nat) (hx : a.eval x = .pointer (some ⟨b, off, none⟩)) (cs : List Value) (d : TypeDesc) (hg : ∀ w, C w → w.rangeAt b off cs)
    (hu : P.underlying ty = some d) (hd : d.isRow = true) (hi : (P.info? ty).map (·.size) = some cs.length)
    (h : wpQuiet P ops C Q rest (a.put o.dst (.agg cs.toArray))) : wpQuiet P ops C Q (o :: rest) a := by
  refine wpQuiet_want hw fun K hK => ⟨.agg cs.toArray, fun w hw => ?_, hK _ h⟩
  unfold Oper.quietAt execOp
  simp only [ho]
  have := run_loadVar_mid (P := P) w b off ty cs d (hg w hw) hu hd hi
  simp only [hx, Instr.loadAt, Instr.sureAddr, Sem.run_bind, Sem.run_pure, Result.andThen_ok, this, Oper.quietUpon, and_self]
theorem shr_run (P : Program) (n m : Nat) (hm : m < 64) (W : World) : (Op.shift .shr .u64 (n : Int) .i64 (m : Int)).run P W = .ok (.int .u64 ((n / 2 ^ m : Nat) : Int)) W := by
  unfold Op.shift
  have hmin : min (m : Int).toNat IntKind.u64.bits = m := by simp [IntKind.bits]; omega
  rw [if_neg (by omega), hmin]
  have e : (n : Int).fdiv (2 ^ m) = ((n / 2 ^ m : Nat) : Int) := by
    have h2 : ((2 : Int) ^ m) = ((2 ^ m : Nat) : Int) := by simp
    rw [h2, Int.fdiv_eq_ediv_of_nonneg _ (Int.natCast_nonneg _)]
    rfl
  simp only [e]
  rfl
theorem run_shr {P : Program} {o : Oper} {a : Act} (t t2 : TypeId) (x y : Operand) (ho : o.op = .binOp .shr t x y t2) (n m : Nat) (hm : m < 64) (hx : a.eval x = .int .u64 (n : Int)) (hy : a.eval y = .int .i64 (m : Int)) (W : World) : (execOp a.eval o).run P W = .ok (.value (.int .u64 ((n / 2 ^ m : Nat) : Int))) W := by
  unfold execOp
  simp only [ho, hx, hy, eqGuard_shr, binOp_shr, Sem.run_bind, Sem.run_pure, Result.andThen_ok, shr_run P n m hm]
theorem rangeK {w : World} {ps A B : List Pk} {p : Pk} {b off : Nat} (hc : ∀ j u, (cellsK ps)[j]? = some u → w.cell? ⟨b, off + j, none⟩ = some u) (hps : ps = A ++ p :: B) (hl : (cellsK A).length = A.length * 33) : w.rangeAt b (off + A.length * 33) (partC p.s p.k) := by
  intro j u hj
  have e : cellsK ps = cellsK A ++ (partC p.s p.k ++ cellsK B) := by
    rw [hps, cellsK_app]; simp [cellsK]
  have hjl := (List.getElem?_eq_some_iff.1 hj).1
  have h9 := hc (A.length * 33 + j) u (by rw [e, List.getElem?_append_right (by omega), hl, Nat.add_sub_cancel_left, List.getElem?_append_left hjl]; exact hj)
  rw [Nat.add_assoc]; exact h9

set_option maxRecDepth 100000 in
set_option maxHeartbeats 400000 in
theorem keptT_any (z : Int) (t : Nat) (v : Value) (ps : List Pk) (lo h : Nat) (w : World) (hT : TreeAt z w t v ps) (hlo : lo + 2 ^ h ≤ (leavesK ps).length) (hd : 2 ^ h ∣ lo) (hb : (leavesK ps).length < 32768) :
    Calls Tryd.prog 47 #[.pointer (some ⟨t, 0, none⟩), .int .u64 lo, .int .i64 h] w fun e w' => e = .returned (.agg (brow (perT z h (((leavesK ps).drop lo).take (2 ^ h))))) ∧ Kept [] w w' := by
  obtain ⟨n, hn⟩ : ∃ n, (leavesK ps).length = n := ⟨_, rfl⟩
  have hp0 : 1 ≤ 2 ^ h := Nat.one_le_two_pow
  obtain ⟨A, p, B, hps, hbl, hoc, hla, hk12, hhk⟩ := peak_at hT.pk (lo := lo) (n := n) hn.symm (by omega) (by omega)
  rw [hn] at hlo hb
  have hhk2 := hhk h hd hlo
  clear hhk
  have hxr : (lo ^^^ n) < 32768 := by
    have := Nat.xor_lt_two_pow (x := lo) (y := n) (n := 15) (by omega) (by omega)
    simpa using this
  have hX : bits BinOp.xor IntKind.u64 (lo : Int) (n : Int) = ((lo ^^^ n : Nat) : Int) := by
    have h1 : (BitVec.ofInt 64 (lo : Int)).toNat = lo := by rw [BitVec.ofInt_natCast, BitVec.toNat_ofNat]; exact Nat.mod_eq_of_lt (by omega)
    have h2 : (BitVec.ofInt 64 (n : Int)).toNat = n := by rw [BitVec.ofInt_natCast, BitVec.toNat_ofNat]; exact Nat.mod_eq_of_lt (by omega)
    show IntKind.u64.wrap ((BitVec.ofInt 64 (lo : Int) ^^^ BitVec.ofInt 64 (n : Int)).toNat : Int) = _
    rw [BitVec.toNat_xor, h1, h2]
    simp [IntKind.wrap, IntKind.signed, IntKind.bits]
    omega
  have hrow := hT.row
  rw [hn] at hrow
  have c0 := cell_of_row _ _ 1 _ _ _ hrow
  have c2 := cell_of_row _ _ 2 _ _ _ hrow
  simp at c0 c2
  have kX := (Kept.refl [] w).alloc (.cells (zb 32) 41)
  have cX1 := kX.cell c0 (by simp)
  have cX2 := kX.cell c2 (by simp)
  rw [← zb32] at cX1 cX2
  have HZX := hide (heap_alloc_new w (.cells (zb 32) 41))
  have HTT := hide hT
  have HKX := hide kX
  obtain ⟨D, hD⟩ : ∃ D, perT z h (((leavesK ps).drop lo).take (2 ^ h)) = D := ⟨_, rfl⟩
  rw [hD]
  have HD := hide hD
  clear hD
  have HPS := hide hps
  have HLA := hide hla
  have HLO := hide hlo
  have HDV := hide hd
  have HBL := hide hbl
  have HOC := hide hoc
  have HHN := hide hn
  have hh12 : h < 15 := by
    rcases Nat.lt_or_ge h 15 with h9 | h9
    · exact h9
    · have : 2 ^ 15 ≤ 2 ^ h := Nat.pow_le_pow_right (by omega) h9
      omega
  have hlon : lo < n := by omega
  obtain ⟨x, hx⟩ : ∃ x, lo ^^^ n = x := ⟨_, rfl⟩
  rw [hx] at hX hxr HBL
  clear c0 c2 hT hrow hps hla hlo hd hbl hoc hn hp0 hx
  go_enter Tryd.func47, Tryd.ntmps47
  go_wp2_with (simp only [hX])
  refine Calls.mono (len64_any x _ (by omega)) ?_
  rintro e w1 ⟨rfl, k1⟩
  rw [unhide HBL, zb32] at *
  have HK1 := hide ((unhide HKX).trans k1 (by simp))
  have HZ1 := hide (k1.heap (unhide HZX) (by simp))
  have d1 := k1.cell cX1 (by simp)
  have d2 := k1.cell cX2 (by simp)
  clear k1 cX1 cX2 HKX HZX
  obtain ⟨k, hk⟩ : ∃ k, p.h = k := ⟨_, rfl⟩
  rw [hk] at hk12 hhk2 ⊢
  have hk1 : ((k + 1 : Nat) : Int) = (k : Int) + 1 := by omega
  rw [hk1]
  go_wp2_with fail
  obtain ⟨va, vc, hve, hvl, hvc, hvr⟩ := (unhide HTT).rd
  have hAl : A.length < ps.length := by rw [unhide HPS]; simp
  obtain ⟨b, off, rfl, hcell⟩ := hvr (by omega)
  subst hve
  have hA33 : (cellsK A).length = A.length * 33 := cellsK_len' (fun q hq => ((unhide HTT).pk.ok q (by rw [unhide HPS]; simp [hq])).dg.1)
  have HRG := hide (fun j u hj => (unhide HK1).cell (rangeK hcell (unhide HPS) hA33 j u hj) (by simp) : w1.rangeAt b (off + A.length * 33) (partC p.s p.k))
  have hpA := (unhide HTT).pk.ok p (by rw [unhide HPS]; simp)
  have HPA := hide (by have h9 := hpA; rw [leaves_peak (B := B) (unhide HLA) hpA.len, ← unhide HPS] at h9; exact h9 : PA z w p.h p.s p.k (subL (leavesK ps) lo p.h))
  rw [hk] at HPA
  have hs32 := hpA.dg.1
  have HON := hide (all_one (partC_one (s := p.s) hpA.one))
  have HOCn := hide (unhide HOC)
  rw [hk] at HOCn
  obtain ⟨na, hna⟩ : ∃ na, A.length = na := ⟨_, rfl⟩
  obtain ⟨np, hnp⟩ : ∃ np, ps.length = np := ⟨_, rfl⟩
  rw [hna] at hAl HRG HOCn
  rw [hnp] at hAl hvl d2
  have hnb : n / 2 ^ (k + 1) < 32768 := Nat.lt_of_le_of_lt (Nat.div_le_self _ _) hb
  have HON2 := hide (fun (W : World) => ones64_any (n / 2 ^ (k + 1)) W hnb)
  rw [unhide HOCn] at HON2
  obtain ⟨nd, hnd⟩ : ∃ nd, n / 2 ^ (k + 1) = nd := ⟨_, rfl⟩
  have HND := hide hnd
  rw [hnd] at HON2
  have hnp2 : np ≤ 32768 := by
    have h8 := len_le_sum (ps.reverse.map (·.h)); rw [← leavesK_len (unhide HTT).pk.ok, unhide HHN] at h8; simp at h8; omega
  have ia : ¬ (na : Int) < 0 := by omega
  have ib : ¬ (np : Int) ≤ na := by omega
  have hkw : IntKind.i64.wrap ((k : Int) + 1) = (k : Int) + 1 := by simp [IntKind.wrap, IntKind.signed, IntKind.bits]; omega
  clear hcell hpA hnd hna hnp hA33 hnb
  refine wp_ke16 (by kernel_rfl) (by kernel_rfl) (by kernel_rfl) (by kernel_rfl) (by kernel_rfl) (by kernel_rfl) (by kernel_rfl) (by kernel_rfl) (by kernel_rfl) (by kernel_rfl) (by kernel_rfl) (by kernel_rfl) (by kernel_rfl) (by kernel_rfl) (by kernel_rfl) (by kernel_rfl) (by kernel_rfl) (by kernel_rfl) (by kernel_rfl) (by kernel_rfl) (by kernel_rfl) (by kernel_rfl) (by kernel_rfl) (by kernel_rfl) (by kernel_rfl) (by kernel_rfl) (by kernel_rfl) (by kernel_rfl) (by kernel_rfl) (by kernel_rfl) (by kernel_rfl) (by kernel_rfl) (by kernel_rfl) (by kernel_rfl) (by kernel_rfl) (by kernel_rfl) (by kernel_rfl) rfl rfl rfl (by simp) (by simp) (by simp)
    (.pointer (some ⟨t, 0, none⟩)) (.pointer (some ⟨t, 0, none⟩)) (.pointer (some ⟨t, 2, none⟩)) (.slice (some ⟨b, off, none⟩) np vc) (.pointer (some ⟨t, 0, none⟩)) (.pointer (some ⟨t, 0, none⟩)) (.pointer (some ⟨t, 1, none⟩)) (.int .u64 (n : Int)) (.int .i64 (k : Int)) (.int .i64 ((k : Int) + 1)) (.int .u64 (nd : Int)) _ _ _ _ _ _ _ _ _ _ _
    (fun w' => Kept [] w1 w')
    (fun w' => Kept [] w1 w')
    (fun u w' => u = .int .i64 (na : Int) ∧ Kept [] w1 w')
    (fun y w' => (∃ gp, y = .pointer (some ⟨gp, 0, none⟩) ∧ w1.heap.size ≤ gp ∧ w'.heap[gp]? = some (.cells zP 75 (0, 0))) ∧ Kept [] w1 w')
    (fun u y w' => u = .int .i64 (na : Int) ∧ (∃ gp, y = .pointer (some ⟨gp, 0, none⟩) ∧ w1.heap.size ≤ gp ∧ w'.heap[gp]? = some (.cells zP 75 (0, 0))) ∧ Kept [] w1 w')
    (fun u y x w' => u = .int .i64 (na : Int) ∧ (∃ gp, y = .pointer (some ⟨gp, 0, none⟩) ∧ w1.heap.size ≤ gp ∧ w'.heap[gp]? = some (.cells (partC p.s p.k).toArray 75 (0, 0))) ∧ Kept [] w1 w')
    (fun u => .pointer (some ⟨b, off + na * 33, none⟩)) (fun u => .agg (partC p.s p.k).toArray)
    (by simp only [Act.put, List.setIfInBounds_toArray, List.set_cons_zero, List.set_cons_succ]; rfl) (by exact Or.inl ⟨by rfl, fun W' hW' => by go_simp⟩)
    (by simp only [Act.put, List.setIfInBounds_toArray, List.set_cons_zero, List.set_cons_succ]; rfl) (by exact Or.inl ⟨by rfl, fun W' hW' => by go_simp⟩)
    (by simp only [Act.put, List.setIfInBounds_toArray, List.set_cons_zero, List.set_cons_succ]; rfl) (by exact Or.inl ⟨by rfl, fun W' hW' => by go_simp⟩)
    (by simp only [Act.put, List.setIfInBounds_toArray, List.set_cons_zero, List.set_cons_succ]; rfl) (by exact Or.inl ⟨by rfl, fun W' hW' => by have h9 := hW'.cell d2 (by simp); go_simp⟩)
    (by simp only [Act.put, List.setIfInBounds_toArray, List.set_cons_zero, List.set_cons_succ]; rfl) (by exact Or.inl ⟨by rfl, fun W' hW' => by go_simp⟩)
    (by simp only [Act.put, List.setIfInBounds_toArray, List.set_cons_zero, List.set_cons_succ]; rfl) (by exact Or.inl ⟨by rfl, fun W' hW' => by go_simp⟩)
    (by simp only [Act.put, List.setIfInBounds_toArray, List.set_cons_zero, List.set_cons_succ]; rfl) (by exact Or.inl ⟨by rfl, fun W' hW' => by go_simp⟩)
    (by simp only [Act.put, List.setIfInBounds_toArray, List.set_cons_zero, List.set_cons_succ]; rfl) (by exact Or.inl ⟨by rfl, fun W' hW' => by have h9 := hW'.cell d1 (by simp); go_simp⟩)
    (by simp only [Act.put, List.setIfInBounds_toArray, List.set_cons_zero, List.set_cons_succ]; rfl) (by exact Or.inl ⟨by rfl, fun W' hW' => by go_simp⟩)
    (by simp only [Act.put, List.setIfInBounds_toArray, List.set_cons_zero, List.set_cons_succ]; rfl) (by exact Or.inl ⟨by rfl, fun W' hW' => by go_simp⟩)
    (by simp only [Act.put, List.setIfInBounds_toArray, List.set_cons_zero, List.set_cons_succ]; rfl) (by exact Or.inl ⟨by rfl, fun W' hW' => (by rw [← unhide HND]; exact run_shr _ _ _ _ rfl n (k + 1) (by omega) rfl (by rw [hk1]; rfl) W')⟩)
    (Kept.refl [] w1).drew
    ⟨fun w' h => h, fun u w' h => h.2, fun u w' h => h.2, fun u y w' h => h.2.2, fun u y x w' h => h.2.2⟩
    (by intro w' i K hK; exact wp_callN rfl Tryd.call63 [.int .u64 (nd : Int)] rfl (unhide HON2 w') (fun e w2 h => ⟨_, h.1, hK _ _ ⟨rfl, by rw [h.2]; exact i⟩⟩))
    (by intro w' i K hK; unfold Oper.wp execOp; go_simp; exact hK _ _ ⟨⟨_, rfl, i.size, heap_alloc_new w' (.cells zP 75)⟩, i.alloc _⟩)
    (by rintro u w' ⟨rfl, i⟩ K hK; unfold Oper.wp execOp; go_simp; exact hK _ _ ⟨rfl, ⟨_, rfl, i.size, heap_alloc_new w' (.cells zP 75)⟩, i.alloc _⟩)
    (by rintro y w' ⟨⟨gp, rfl, h1, h2⟩, i⟩ K hK; exact wp_callN rfl Tryd.call63 [.int .u64 (nd : Int)] rfl (unhide HON2 w') (fun e w2 h => ⟨_, h.1, hK _ _ ⟨rfl, ⟨gp, rfl, h1, by rw [h.2]; exact h2⟩, by rw [h.2]; exact i⟩⟩))
    (by
      intro u y w' hh K hK
      simp only [Act.put, List.setIfInBounds_toArray, List.set_cons_zero, List.set_cons_succ] at hK ⊢
      obtain ⟨rfl, ⟨gp, rfl, h1, h2⟩, i⟩ := hh
      exact wp_store_row 75 _ _ rfl gp (partC p.s p.k).toArray rfl rfl _ zP h2 (by rw [List.size_toArray, partC_len hs32]; exact size_part) (by rw [zP_size, List.size_toArray, partC_len hs32]) (unhide HON) (hK undef _ ⟨rfl, ⟨gp, rfl, h1, setRow_heap _ _ _ _ _ _ h2⟩, i.setRow (Or.inr h1) _⟩))
    (by rintro u w' ⟨rfl, _⟩; exact Or.inl ⟨by rfl, fun W' hW' => by go_simp⟩)
    (by
      rintro u w' ⟨rfl, _⟩
      refine Or.inl ⟨by rfl, fun W' hW' => ?_⟩
      have h9 := run_loadVar_mid (P := Tryd.prog) W' b (off + na * 33) 75 (partC p.s p.k) _ (fun k u hk => hW'.cell (unhide HRG k u hk) (by simp)) Tryd.underlying75 rfl (by rw [partC_len hs32]; exact size_part)
      unfold execOp
      simp only [Instr.loadAt, Instr.sureAddr, Sem.run_bind, Sem.run_pure, Result.andThen_ok]
      change ((Sem.run Tryd.prog (loadVar 75 ⟨b, off + na * 33, none⟩) W').andThen fun a w' => Result.ok (Next.value a) w') = _
      rw [h9]
      rfl)
    (by rintro u y w' ⟨rfl, ⟨gp, rfl, _⟩, _⟩; exact Or.inl ⟨by rfl, fun W' hW' => by go_simp⟩)
    (by
      rintro u y w' ⟨rfl, ⟨gp, rfl, _⟩, _⟩
      refine Or.inl ⟨by rfl, fun W' hW' => ?_⟩
      have h9 := run_loadVar_mid (P := Tryd.prog) W' b (off + na * 33) 75 (partC p.s p.k) _ (fun k u hk => hW'.cell (unhide HRG k u hk) (by simp)) Tryd.underlying75 rfl (by rw [partC_len hs32]; exact size_part)
      unfold execOp
      simp only [Instr.loadAt, Instr.sureAddr, Sem.run_bind, Sem.run_pure, Result.andThen_ok]
      change ((Sem.run Tryd.prog (loadVar 75 ⟨b, off + na * 33, none⟩) W').andThen fun a w' => Result.ok (Next.value a) w') = _
      rw [h9]
      rfl)
    ?_
  rintro u y x1 Y ⟨rfl, ⟨gp, rfl, hgp, hrow⟩, kY⟩
  simp only [Act.put, List.setIfInBounds_toArray, List.set_cons_zero, List.set_cons_succ]
  have HKY := hide ((unhide HK1).trans kY (by simp))
  have HZY := hide (kY.heap (unhide HZ1) (by simp))
  have HRY := hide hrow
  have hgw := lt_of_block (unhide HZ1)
  clear kY hrow HRG HON2 d1 d2 HK1 HZ1
  go_wp2_with fail
  have HLs := hide (unhide HD)
  obtain ⟨L, hL⟩ : ∃ L, leavesK ps = L := ⟨_, rfl⟩
  rw [hL] at HPA HD
  go_loopw [9] (fun t9 wr => ∃ (m : Nat) (s : List Nat) (kv : Value), h ≤ m ∧ m ≤ k ∧ t9 = .int .i64 ((m : Int) - 1) ∧ Hid (PA z w m s kv (subL L lo m)) ∧ Hid (wr.heap[gp]? = some (.cells (partC s kv).toArray 75 (0, 0))) ∧ Hid (wr.heap[w.heap.size]? = some (.cells (zb 32) 41 (0, 0))) ∧ Hid (Kept [] w wr)) (fun t _ => (intOf t + 1).toNat)
  case atStart => exact ⟨k, _, _, hhk2, Nat.le_refl _, rfl, HPA, HRY, HZY, HKY⟩
  case round =>
    obtain ⟨m, s, kv, hm1, hm2, rfl, HPM, HRM, HZM, HKM⟩ := hrel
    by_cases hmh : h < m
    · obtain ⟨i, rfl⟩ : ∃ i, m = i + 1 := ⟨m - 1, by omega⟩
      have e9 : ((i + 1 : Nat) : Int) - 1 = (i : Int) := by omega
      rw [e9]
      have hge : (h : Int) ≤ i := by omega
      obtain ⟨g, s0, k0, l0, s1, k1, l1, hkv, hgr, hp0, hp1, hll, hss⟩ := unhide HPM
      subst hkv
      have HG := hide ((unhide HKM).heap hgr (by simp))
      have hsub := subL_kids hll.symm hp0.len hp1.len
      have h32 : s.length = 32 := by rw [hss]; exact (nodS_dg z s0 s1).1
      have hgp9 := cell_of_row _ _ 32 _ _ _ (unhide HRM)
      have hgp8 : wr.cell? ⟨gp, 32, none⟩ = some (.pointer (some ⟨g, 0, none⟩)) := by
        rw [hgp9]; simp [partC, h32]
      have hrg0 : wr.rangeAt g 0 (partC s0 k0) := fun j u hj => range_rowV (unhide HG) j u (by rw [List.getElem?_append_left (List.getElem?_eq_some_iff.1 hj).1]; exact hj)
      have hrg1 : wr.rangeAt g 33 (partC s1 k1) := fun j u hj => by
        have h9 := range_rowV (unhide HG) (33 + j) u (by rw [List.getElem?_append_right (by rw [partC_len hp0.dg.1]; omega), partC_len hp0.dg.1, Nat.add_sub_cancel_left]; exact hj)
        rw [Nat.zero_add] at h9
        exact h9
      obtain ⟨bt, hbt⟩ : ∃ bt, lo / 2 ^ i % 2 = bt := ⟨_, rfl⟩
      have hbt2 : bt = 0 ∨ bt = 1 := by omega
      obtain ⟨sx, kx, HPX, HRX⟩ : ∃ sx kx, Hid (PA z w i sx kx (subL L lo i)) ∧ Hid (wr.rangeAt g (bt * 33) (partC sx kx)) := by
        rcases hbt2 with rfl | rfl
        · exact ⟨s0, k0, hide (by rw [← hsub.1 hbt]; exact hp0), hide hrg0⟩
        · exact ⟨s1, k1, hide (by rw [← hsub.2 hbt]; exact hp1), hide hrg1⟩
      have HANDV := hide (by
        have h9 := u64_and_natT (lo / 2 ^ i) 1 (by have := Nat.div_le_self lo (2 ^ i); omega) (by omega)
        rw [Nat.and_one_is_mod, hbt] at h9
        exact h9 : bits BinOp.and IntKind.u64 ((lo / 2 ^ i : Nat) : Int) ((1 : Nat) : Int) = (bt : Int))
      have hx32 := (unhide HPX).dg.1
      have HOX := hide (all_one (partC_one (s := sx) (unhide HPX).one))
      have HSR := hide (fun (W : World) => shr_run Tryd.prog lo i (by omega) W)
      obtain ⟨ld, hld⟩ : ∃ ld, lo / 2 ^ i = ld := ⟨_, rfl⟩
      have HLD := hide hld
      rw [hld] at HANDV
      have hand : bits BinOp.and IntKind.u64 (ld : Int) 1 = (bt : Int) := unhide HANDV
      have hb0 : ¬ (bt : Int) < 0 := by omega
      have hb1 : ¬ (2 : Int) ≤ bt := by omega
      clear hp0 hp1 hll hss hsub hrg0 hrg1 hgp9 hgr hbt hld e9
      go_wp2_with fail
      refine wp_quiet_tail 9 (by kernel_rfl) (by kernel_rfl) ?_
      simp only [List.take_succ_cons, List.take_zero, List.drop_succ_cons, List.drop_zero]
      iterate 4 (go_big_quiet_step (fail))
      refine wpQuiet_val rfl (.int .u64 (ld : Int)) (fun w' _ => by rw [← unhide HLD]; exact run_shr _ _ _ _ rfl lo i (by omega) rfl rfl w') ?_
      simp only [Act.put, List.setIfInBounds_toArray, List.set_cons_succ, List.set_cons_zero]
      iterate 3 (go_big_quiet_step (fail))
      refine wpQuiet_midT rfl 75 _ rfl g (bt * 33) rfl (partC sx kx) _ (fun w' hw' j u hj => by obtain ⟨m9, rfl⟩ := hw'; exact unhide HRX j u hj) Tryd.underlying75 rfl (by rw [partC_len hx32]; exact size_part) ?_
      simp only [Act.put, List.setIfInBounds_toArray, List.set_cons_succ, List.set_cons_zero]
      refine wpQuiet_nil ?_
      rintro _ ⟨m9, rfl⟩
      have HRM2 := hide (by exact unhide HRM : (wr.drewN m9).heap[gp]? = some (.cells (partC s (.pointer (some ⟨g, 0, none⟩))).toArray 75 (0, 0)))
      have HKM2 := hide (((unhide HKM).drewN m9).setRow (g := gp) (Or.inr (by omega)) (partC sx kx).toArray)
      have HRM3 := hide (setRow_heap (wr.drewN m9) gp (partC s (.pointer (some ⟨g, 0, none⟩))).toArray (partC sx kx).toArray 75 (0, 0) (unhide HRM2))
      have HZM3 := hide ((setRow_other (wr.drewN m9) gp w.heap.size (partC sx kx).toArray (by omega)).trans (unhide HZM))
      go_wp2_with (refine wpList_store_row rfl 75 (.tmp 8) _ rfl gp (partC sx kx).toArray rfl rfl _ _ (unhide HRM2) (by rw [List.size_toArray, partC_len hx32]; exact size_part) (by rw [List.size_toArray, List.size_toArray, partC_len hx32, partC_len h32]) (unhide HOX) ?_)
      refine ⟨⟨i, _, _, by omega, by omega, rfl, HPX, HRM3, HZM3, HKM2⟩, ?_⟩
      simp [intOf]
    · have hme : m = h := by omega
      subst hme
      have hnl : ¬ (m : Int) ≤ (m : Int) - 1 := by omega
      have hs9 := (unhide HPM).sum
      rw [subL_all (unhide HDV), unhide HD] at hs9
      subst hs9
      have HKM2 := hide ((unhide HKM).setRow (g := w.heap.size) (Or.inr (Nat.le_refl _)) (brow s))
      have hd32 := (unhide HPM).dg.1
      have HRS := hide (range_part (range_rowV (unhide HRM)))
      go_wp2_with (first
        | (refine wpList_load_mid rfl 41 (.tmp 48) rfl gp 0 rfl (s.map Go.Proofs.YtecadmldnjlibaaDoor.u8) _ (unhide HRS) Tryd.underlying41 rfl (by rw [List.length_map, hd32]; exact Tryd.size_dig) ?_)
        | (refine wpList_store_row rfl 41 (.tmp 6) _ rfl w.heap.size (brow s) rfl rfl _ (zb 32) (unhide HZM) (by rw [brow_size, hd32]; exact Tryd.size_dig) (by rw [zb_size, brow_size, hd32]) (brow_one _) ?_))
      refine bodyPost_ret (v := .agg (brow s)) ?_ rfl ⟨rfl, unhide HKM2⟩
      exact results_cell_row rfl _ _ w.heap.size _ (brow s) (0, 0) _ rfl (setRow_heap _ _ _ _ _ _ (unhide HZM)) Tryd.underlying41 rfl (by rw [brow_size, hd32]; exact Tryd.size_dig)
end Go.Proofs.YtecadmldnjlibaaDoor
/-
  Laws for drawn regions, by genreg.py. No program.
-/
namespace Go.Proofs.YtecadmldnjlibaaDoor
open Go Go.RowKit Go.BigFrame
set_option linter.unusedVariables false
set_option linter.unusedSimpArgs false
section
variable {P : Program} {Q : Exit → Act → World → Prop}
theorem wp_ra6 {id : Nat} {o0 o1 o2 o3 o4 o5 : Oper} {a : Act} {w : World} (hm : P.follows .mixedOrders = true) (hs : Region.noSelect #[o0, o1, o2, o3, o4, o5] = true)
    (f0 : Region.free .any #[o0, o1, o2, o3, o4, o5] #[false, false, false, false, false, false] 0 = true) (r0 : (Region.ready .any #[o0, o1, o2, o3, o4, o5] #[false, false, false, false, false, false]).contains 0 = true)
    (f1 : Region.free .any #[o0, o1, o2, o3, o4, o5] #[true, false, false, false, false, false] 1 = true) (r1 : (Region.ready .any #[o0, o1, o2, o3, o4, o5] #[true, false, false, false, false, false]).contains 1 = true)
    (f2 : Region.free .any #[o0, o1, o2, o3, o4, o5] #[true, true, false, false, false, false] 2 = true) (r2 : (Region.ready .any #[o0, o1, o2, o3, o4, o5] #[true, true, false, false, false, false]).contains 2 = true)
    (q_ : Region.ready .any #[o0, o1, o2, o3, o4, o5] #[true, true, true, false, false, false] = [3])
    (q3_ : Region.ready .any #[o0, o1, o2, o3, o4, o5] #[true, true, true, true, false, false] = [4])
    (q3_4_ : Region.ready .any #[o0, o1, o2, o3, o4, o5] #[true, true, true, true, true, false] = [5])
    (q3_4_5_ : Region.ready .any #[o0, o1, o2, o3, o4, o5] #[true, true, true, true, true, true] = [])
    (g3 : o3.guard = none)    (g4 : o4.guard = none)    (g5 : o5.guard = none)
    (v0 v1 v2 : Value) (A0 A1 A2 : Act)
    (S : World → Prop)
    (I_ : World → Prop)
    (I3_ : Value → World → Prop)
    (I3_4_ : Value → Value → World → Prop)
    (I3_4_5_ : Value → Value → Value → World → Prop)
    (p0 : a.put o0.dst v0 = A0) (hy0 : YieldsIf P #[o0, o1, o2, o3, o4, o5] S o0 v0 a)
    (p1 : A0.put o1.dst v1 = A1) (hy1 : YieldsIf P #[o0, o1, o2, o3, o4, o5] S o1 v1 A0)
    (p2 : A1.put o2.dst v2 = A2) (hy2 : YieldsIf P #[o0, o1, o2, o3, o4, o5] S o2 v2 A1)
    (i0 : I_ w.drew)
    (hIS : (∀ w', I_  w' → S w') ∧ (∀ (u3 : Value) w', I3_ u3 w' → S w') ∧ (∀ (u3 u4 : Value) w', I3_4_ u3 u4 w' → S w') ∧ (∀ (u3 u4 u5 : Value) w', I3_4_5_ u3 u4 u5 w' → S w'))
    (s_3 : ∀ w', I_  w' → ∀ K : Act → World → Prop, (∀ (u3 : Value) w2, I3_ u3 w2 → K (A2.put o3.dst u3) w2) → o3.wp P A2 w' K (NoPanic Q))
    (s3_4 : ∀ (u3 : Value) w', I3_ u3 w' → ∀ K : Act → World → Prop, (∀ (u4 : Value) w2, I3_4_ u3 u4 w2 → K ((A2.put o3.dst u3).put o4.dst u4) w2) → o4.wp P (A2.put o3.dst u3) w' K (NoPanic Q))
    (s3_4_5 : ∀ (u3 u4 : Value) w', I3_4_ u3 u4 w' → ∀ K : Act → World → Prop, (∀ (u5 : Value) w2, I3_4_5_ u3 u4 u5 w2 → K (((A2.put o3.dst u3).put o4.dst u4).put o5.dst u5) w2) → o5.wp P ((A2.put o3.dst u3).put o4.dst u4) w' K (NoPanic Q))
    (h : ∀ (u3 u4 u5 : Value) w', I3_4_5_ u3 u4 u5 w' → Q .normal (((A2.put o3.dst u3).put o4.dst u4).put o5.dst u5) w') :
    (Code.region id #[o0, o1, o2, o3, o4, o5] true).wp P Q a w := by
  subst p0 p1 p2
  obtain ⟨z_, z3_, z3_4_, z3_4_5_⟩ := hIS
  refine wp_region_noPanic ?_
  refine wp_region_held_drew (S := S) hm (z_ _ i0) (fun hH => ?_)
  show wpAnyH P .any #[o0, o1, o2, o3, o4, o5] (NoPanic Q) S 6 #[false, false, false, false, false, false] a w.drew
  refine wpAnyH_take (i := 0) (oi := o0) rfl hs f0 r0 (fun _ _ _ h => h) hy0 hH ?_
  refine wpAnyH_take (i := 1) (oi := o1) rfl hs f1 r1 (fun _ _ _ h => h) hy1 hH ?_
  refine wpAnyH_take (i := 2) (oi := o2) rfl hs f2 r2 (fun _ _ _ h => h) hy2 hH ?_
  generalize (((a.put o0.dst v0).put o1.dst v1).put o2.dst v2) = B at *
  have wa3 : ∀ y, Region.wanted o3 y = true := fun y => by unfold Region.wanted; rw [g3]
  have wa4 : ∀ y, Region.wanted o4 y = true := fun y => by unfold Region.wanted; rw [g4]
  have wa5 : ∀ y, Region.wanted o5 y = true := fun y => by unfold Region.wanted; rw [g5]
  have t3_4_5_ : ∀ (u3 u4 u5 : Value) w', I3_4_5_ u3 u4 u5 w' → wpAnyH P .any #[o0, o1, o2, o3, o4, o5] (NoPanic Q) S 0 #[true, true, true, true, true, true] (((B.put o3.dst u3).put o4.dst u4).put o5.dst u5) w' := by
    intro u3 u4 u5 w0 i0
    exact ⟨q3_4_5_, NoPanic.normal (h u3 u4 u5 w0 i0)⟩
  have t3_4_ : ∀ (u3 u4 : Value) w', I3_4_ u3 u4 w' → wpAnyH P .any #[o0, o1, o2, o3, o4, o5] (NoPanic Q) S 1 #[true, true, true, true, true, false] ((B.put o3.dst u3).put o4.dst u4) w' := by
    intro u3 u4 w0 i0
    refine wpAnyH_ready (rs := [5]) q3_4_ (by simp) (AllReadyH.cons (o := o5) rfl (fun K hK => ?_) AllReadyH.nil)
    · rw [if_pos (wa5 _)]
      refine s3_4_5 u3 u4 w0 i0 K (fun u5 w1 i1 => hK.out _ _ (z3_4_5_ u3 u4 u5 w1 i1) (fun _ => ?_))
      clear hK
      exact t3_4_5_ u3 u4 u5 w1 i1
  have t3_ : ∀ (u3 : Value) w', I3_ u3 w' → wpAnyH P .any #[o0, o1, o2, o3, o4, o5] (NoPanic Q) S 2 #[true, true, true, true, false, false] (B.put o3.dst u3) w' := by
    intro u3 w0 i0
    refine wpAnyH_ready (rs := [4]) q3_ (by simp) (AllReadyH.cons (o := o4) rfl (fun K hK => ?_) AllReadyH.nil)
    · rw [if_pos (wa4 _)]
      refine s3_4 u3 w0 i0 K (fun u4 w1 i1 => hK.out _ _ (z3_4_ u3 u4 w1 i1) (fun _ => ?_))
      clear hK
      exact t3_4_ u3 u4 w1 i1
  have t_ : ∀ w', I_  w' → wpAnyH P .any #[o0, o1, o2, o3, o4, o5] (NoPanic Q) S 3 #[true, true, true, false, false, false] B w' := by
    intro w0 i0
    refine wpAnyH_ready (rs := [3]) q_ (by simp) (AllReadyH.cons (o := o3) rfl (fun K hK => ?_) AllReadyH.nil)
    · rw [if_pos (wa3 _)]
      refine s_3  w0 i0 K (fun u3 w1 i1 => hK.out _ _ (z3_ u3 w1 i1) (fun _ => ?_))
      clear hK
      exact t3_ u3 w1 i1
  exact t_ w.drew i0

theorem wp_rb14 {id : Nat} {o0 o1 o2 o3 o4 o5 o6 o7 o8 o9 o10 o11 o12 o13 : Oper} {a : Act} {w : World} (hm : P.follows .mixedOrders = true) (hs : Region.noSelect #[o0, o1, o2, o3, o4, o5, o6, o7, o8, o9, o10, o11, o12, o13] = true)
    (f0 : Region.free .any #[o0, o1, o2, o3, o4, o5, o6, o7, o8, o9, o10, o11, o12, o13] #[false, false, false, false, false, false, false, false, false, false, false, false, false, false] 0 = true) (r0 : (Region.ready .any #[o0, o1, o2, o3, o4, o5, o6, o7, o8, o9, o10, o11, o12, o13] #[false, false, false, false, false, false, false, false, false, false, false, false, false, false]).contains 0 = true)
    (f1 : Region.free .any #[o0, o1, o2, o3, o4, o5, o6, o7, o8, o9, o10, o11, o12, o13] #[true, false, false, false, false, false, false, false, false, false, false, false, false, false] 1 = true) (r1 : (Region.ready .any #[o0, o1, o2, o3, o4, o5, o6, o7, o8, o9, o10, o11, o12, o13] #[true, false, false, false, false, false, false, false, false, false, false, false, false, false]).contains 1 = true)
    (f2 : Region.free .any #[o0, o1, o2, o3, o4, o5, o6, o7, o8, o9, o10, o11, o12, o13] #[true, true, false, false, false, false, false, false, false, false, false, false, false, false] 2 = true) (r2 : (Region.ready .any #[o0, o1, o2, o3, o4, o5, o6, o7, o8, o9, o10, o11, o12, o13] #[true, true, false, false, false, false, false, false, false, false, false, false, false, false]).contains 2 = true)
    (f3 : Region.free .any #[o0, o1, o2, o3, o4, o5, o6, o7, o8, o9, o10, o11, o12, o13] #[true, true, true, false, false, false, false, false, false, false, false, false, false, false] 3 = true) (r3 : (Region.ready .any #[o0, o1, o2, o3, o4, o5, o6, o7, o8, o9, o10, o11, o12, o13] #[true, true, true, false, false, false, false, false, false, false, false, false, false, false]).contains 3 = true)
    (f4 : Region.free .any #[o0, o1, o2, o3, o4, o5, o6, o7, o8, o9, o10, o11, o12, o13] #[true, true, true, true, false, false, false, false, false, false, false, false, false, false] 4 = true) (r4 : (Region.ready .any #[o0, o1, o2, o3, o4, o5, o6, o7, o8, o9, o10, o11, o12, o13] #[true, true, true, true, false, false, false, false, false, false, false, false, false, false]).contains 4 = true)
    (f5 : Region.free .any #[o0, o1, o2, o3, o4, o5, o6, o7, o8, o9, o10, o11, o12, o13] #[true, true, true, true, true, false, false, false, false, false, false, false, false, false] 5 = true) (r5 : (Region.ready .any #[o0, o1, o2, o3, o4, o5, o6, o7, o8, o9, o10, o11, o12, o13] #[true, true, true, true, true, false, false, false, false, false, false, false, false, false]).contains 5 = true)
    (f6 : Region.free .any #[o0, o1, o2, o3, o4, o5, o6, o7, o8, o9, o10, o11, o12, o13] #[true, true, true, true, true, true, false, false, false, false, false, false, false, false] 6 = true) (r6 : (Region.ready .any #[o0, o1, o2, o3, o4, o5, o6, o7, o8, o9, o10, o11, o12, o13] #[true, true, true, true, true, true, false, false, false, false, false, false, false, false]).contains 6 = true)
    (f8 : Region.free .any #[o0, o1, o2, o3, o4, o5, o6, o7, o8, o9, o10, o11, o12, o13] #[true, true, true, true, true, true, true, false, false, false, false, false, false, false] 8 = true) (r8 : (Region.ready .any #[o0, o1, o2, o3, o4, o5, o6, o7, o8, o9, o10, o11, o12, o13] #[true, true, true, true, true, true, true, false, false, false, false, false, false, false]).contains 8 = true)
    (f9 : Region.free .any #[o0, o1, o2, o3, o4, o5, o6, o7, o8, o9, o10, o11, o12, o13] #[true, true, true, true, true, true, true, false, true, false, false, false, false, false] 9 = true) (r9 : (Region.ready .any #[o0, o1, o2, o3, o4, o5, o6, o7, o8, o9, o10, o11, o12, o13] #[true, true, true, true, true, true, true, false, true, false, false, false, false, false]).contains 9 = true)
    (f10 : Region.free .any #[o0, o1, o2, o3, o4, o5, o6, o7, o8, o9, o10, o11, o12, o13] #[true, true, true, true, true, true, true, false, true, true, false, false, false, false] 10 = true) (r10 : (Region.ready .any #[o0, o1, o2, o3, o4, o5, o6, o7, o8, o9, o10, o11, o12, o13] #[true, true, true, true, true, true, true, false, true, true, false, false, false, false]).contains 10 = true)
    (q_ : Region.ready .any #[o0, o1, o2, o3, o4, o5, o6, o7, o8, o9, o10, o11, o12, o13] #[true, true, true, true, true, true, true, false, true, true, true, false, false, false] = [7])
    (q7_ : Region.ready .any #[o0, o1, o2, o3, o4, o5, o6, o7, o8, o9, o10, o11, o12, o13] #[true, true, true, true, true, true, true, true, true, true, true, false, false, false] = [11])
    (q7_11_ : Region.ready .any #[o0, o1, o2, o3, o4, o5, o6, o7, o8, o9, o10, o11, o12, o13] #[true, true, true, true, true, true, true, true, true, true, true, true, false, false] = [12])
    (q7_11_12_ : Region.ready .any #[o0, o1, o2, o3, o4, o5, o6, o7, o8, o9, o10, o11, o12, o13] #[true, true, true, true, true, true, true, true, true, true, true, true, true, false] = [13])
    (q7_11_12_13_ : Region.ready .any #[o0, o1, o2, o3, o4, o5, o6, o7, o8, o9, o10, o11, o12, o13] #[true, true, true, true, true, true, true, true, true, true, true, true, true, true] = [])
    (g7 : o7.guard = none)    (g11 : o11.guard = none)    (g12 : o12.guard = none)    (g13 : o13.guard = none)
    (v0 v1 v2 v3 v4 v5 v6 v8 v9 v10 : Value) (A0 A1 A2 A3 A4 A5 A6 A7 A8 A9 : Act)
    (S : World → Prop)
    (I_ : World → Prop)
    (I7_ : Value → World → Prop)
    (I7_11_ : Value → Value → World → Prop)
    (I7_11_12_ : Value → Value → Value → World → Prop)
    (I7_11_12_13_ : Value → Value → Value → Value → World → Prop)
    (p0 : a.put o0.dst v0 = A0) (hy0 : YieldsIf P #[o0, o1, o2, o3, o4, o5, o6, o7, o8, o9, o10, o11, o12, o13] S o0 v0 a)
    (p1 : A0.put o1.dst v1 = A1) (hy1 : YieldsIf P #[o0, o1, o2, o3, o4, o5, o6, o7, o8, o9, o10, o11, o12, o13] S o1 v1 A0)
    (p2 : A1.put o2.dst v2 = A2) (hy2 : YieldsIf P #[o0, o1, o2, o3, o4, o5, o6, o7, o8, o9, o10, o11, o12, o13] S o2 v2 A1)
    (p3 : A2.put o3.dst v3 = A3) (hy3 : YieldsIf P #[o0, o1, o2, o3, o4, o5, o6, o7, o8, o9, o10, o11, o12, o13] S o3 v3 A2)
    (p4 : A3.put o4.dst v4 = A4) (hy4 : YieldsIf P #[o0, o1, o2, o3, o4, o5, o6, o7, o8, o9, o10, o11, o12, o13] S o4 v4 A3)
    (p5 : A4.put o5.dst v5 = A5) (hy5 : YieldsIf P #[o0, o1, o2, o3, o4, o5, o6, o7, o8, o9, o10, o11, o12, o13] S o5 v5 A4)
    (p6 : A5.put o6.dst v6 = A6) (hy6 : YieldsIf P #[o0, o1, o2, o3, o4, o5, o6, o7, o8, o9, o10, o11, o12, o13] S o6 v6 A5)
    (p8 : A6.put o8.dst v8 = A7) (hy8 : YieldsIf P #[o0, o1, o2, o3, o4, o5, o6, o7, o8, o9, o10, o11, o12, o13] S o8 v8 A6)
    (p9 : A7.put o9.dst v9 = A8) (hy9 : YieldsIf P #[o0, o1, o2, o3, o4, o5, o6, o7, o8, o9, o10, o11, o12, o13] S o9 v9 A7)
    (p10 : A8.put o10.dst v10 = A9) (hy10 : YieldsIf P #[o0, o1, o2, o3, o4, o5, o6, o7, o8, o9, o10, o11, o12, o13] S o10 v10 A8)
    (i0 : I_ w.drew)
    (hIS : (∀ w', I_  w' → S w') ∧ (∀ (u7 : Value) w', I7_ u7 w' → S w') ∧ (∀ (u7 u11 : Value) w', I7_11_ u7 u11 w' → S w') ∧ (∀ (u7 u11 u12 : Value) w', I7_11_12_ u7 u11 u12 w' → S w') ∧ (∀ (u7 u11 u12 u13 : Value) w', I7_11_12_13_ u7 u11 u12 u13 w' → S w'))
    (s_7 : ∀ w', I_  w' → ∀ K : Act → World → Prop, (∀ (u7 : Value) w2, I7_ u7 w2 → K (A9.put o7.dst u7) w2) → o7.wp P A9 w' K (NoPanic Q))
    (s7_11 : ∀ (u7 : Value) w', I7_ u7 w' → ∀ K : Act → World → Prop, (∀ (u11 : Value) w2, I7_11_ u7 u11 w2 → K ((A9.put o7.dst u7).put o11.dst u11) w2) → o11.wp P (A9.put o7.dst u7) w' K (NoPanic Q))
    (s7_11_12 : ∀ (u7 u11 : Value) w', I7_11_ u7 u11 w' → ∀ K : Act → World → Prop, (∀ (u12 : Value) w2, I7_11_12_ u7 u11 u12 w2 → K (((A9.put o7.dst u7).put o11.dst u11).put o12.dst u12) w2) → o12.wp P ((A9.put o7.dst u7).put o11.dst u11) w' K (NoPanic Q))
    (s7_11_12_13 : ∀ (u7 u11 u12 : Value) w', I7_11_12_ u7 u11 u12 w' → ∀ K : Act → World → Prop, (∀ (u13 : Value) w2, I7_11_12_13_ u7 u11 u12 u13 w2 → K ((((A9.put o7.dst u7).put o11.dst u11).put o12.dst u12).put o13.dst u13) w2) → o13.wp P (((A9.put o7.dst u7).put o11.dst u11).put o12.dst u12) w' K (NoPanic Q))
    (h : ∀ (u7 u11 u12 u13 : Value) w', I7_11_12_13_ u7 u11 u12 u13 w' → Q .normal ((((A9.put o7.dst u7).put o11.dst u11).put o12.dst u12).put o13.dst u13) w') :
    (Code.region id #[o0, o1, o2, o3, o4, o5, o6, o7, o8, o9, o10, o11, o12, o13] true).wp P Q a w := by
  subst p0 p1 p2 p3 p4 p5 p6 p8 p9 p10
  obtain ⟨z_, z7_, z7_11_, z7_11_12_, z7_11_12_13_⟩ := hIS
  refine wp_region_noPanic ?_
  refine wp_region_held_drew (S := S) hm (z_ _ i0) (fun hH => ?_)
  show wpAnyH P .any #[o0, o1, o2, o3, o4, o5, o6, o7, o8, o9, o10, o11, o12, o13] (NoPanic Q) S 14 #[false, false, false, false, false, false, false, false, false, false, false, false, false, false] a w.drew
  refine wpAnyH_take (i := 0) (oi := o0) rfl hs f0 r0 (fun _ _ _ h => h) hy0 hH ?_
  refine wpAnyH_take (i := 1) (oi := o1) rfl hs f1 r1 (fun _ _ _ h => h) hy1 hH ?_
  refine wpAnyH_take (i := 2) (oi := o2) rfl hs f2 r2 (fun _ _ _ h => h) hy2 hH ?_
  refine wpAnyH_take (i := 3) (oi := o3) rfl hs f3 r3 (fun _ _ _ h => h) hy3 hH ?_
  refine wpAnyH_take (i := 4) (oi := o4) rfl hs f4 r4 (fun _ _ _ h => h) hy4 hH ?_
  refine wpAnyH_take (i := 5) (oi := o5) rfl hs f5 r5 (fun _ _ _ h => h) hy5 hH ?_
  refine wpAnyH_take (i := 6) (oi := o6) rfl hs f6 r6 (fun _ _ _ h => h) hy6 hH ?_
  refine wpAnyH_take (i := 8) (oi := o8) rfl hs f8 r8 (fun _ _ _ h => h) hy8 hH ?_
  refine wpAnyH_take (i := 9) (oi := o9) rfl hs f9 r9 (fun _ _ _ h => h) hy9 hH ?_
  refine wpAnyH_take (i := 10) (oi := o10) rfl hs f10 r10 (fun _ _ _ h => h) hy10 hH ?_
  generalize ((((((((((a.put o0.dst v0).put o1.dst v1).put o2.dst v2).put o3.dst v3).put o4.dst v4).put o5.dst v5).put o6.dst v6).put o8.dst v8).put o9.dst v9).put o10.dst v10) = B at *
  have wa7 : ∀ y, Region.wanted o7 y = true := fun y => by unfold Region.wanted; rw [g7]
  have wa11 : ∀ y, Region.wanted o11 y = true := fun y => by unfold Region.wanted; rw [g11]
  have wa12 : ∀ y, Region.wanted o12 y = true := fun y => by unfold Region.wanted; rw [g12]
  have wa13 : ∀ y, Region.wanted o13 y = true := fun y => by unfold Region.wanted; rw [g13]
  have t7_11_12_13_ : ∀ (u7 u11 u12 u13 : Value) w', I7_11_12_13_ u7 u11 u12 u13 w' → wpAnyH P .any #[o0, o1, o2, o3, o4, o5, o6, o7, o8, o9, o10, o11, o12, o13] (NoPanic Q) S 0 #[true, true, true, true, true, true, true, true, true, true, true, true, true, true] ((((B.put o7.dst u7).put o11.dst u11).put o12.dst u12).put o13.dst u13) w' := by
    intro u7 u11 u12 u13 w0 i0
    exact ⟨q7_11_12_13_, NoPanic.normal (h u7 u11 u12 u13 w0 i0)⟩
  have t7_11_12_ : ∀ (u7 u11 u12 : Value) w', I7_11_12_ u7 u11 u12 w' → wpAnyH P .any #[o0, o1, o2, o3, o4, o5, o6, o7, o8, o9, o10, o11, o12, o13] (NoPanic Q) S 1 #[true, true, true, true, true, true, true, true, true, true, true, true, true, false] (((B.put o7.dst u7).put o11.dst u11).put o12.dst u12) w' := by
    intro u7 u11 u12 w0 i0
    refine wpAnyH_ready (rs := [13]) q7_11_12_ (by simp) (AllReadyH.cons (o := o13) rfl (fun K hK => ?_) AllReadyH.nil)
    · rw [if_pos (wa13 _)]
      refine s7_11_12_13 u7 u11 u12 w0 i0 K (fun u13 w1 i1 => hK.out _ _ (z7_11_12_13_ u7 u11 u12 u13 w1 i1) (fun _ => ?_))
      clear hK
      exact t7_11_12_13_ u7 u11 u12 u13 w1 i1
  have t7_11_ : ∀ (u7 u11 : Value) w', I7_11_ u7 u11 w' → wpAnyH P .any #[o0, o1, o2, o3, o4, o5, o6, o7, o8, o9, o10, o11, o12, o13] (NoPanic Q) S 2 #[true, true, true, true, true, true, true, true, true, true, true, true, false, false] ((B.put o7.dst u7).put o11.dst u11) w' := by
    intro u7 u11 w0 i0
    refine wpAnyH_ready (rs := [12]) q7_11_ (by simp) (AllReadyH.cons (o := o12) rfl (fun K hK => ?_) AllReadyH.nil)
    · rw [if_pos (wa12 _)]
      refine s7_11_12 u7 u11 w0 i0 K (fun u12 w1 i1 => hK.out _ _ (z7_11_12_ u7 u11 u12 w1 i1) (fun _ => ?_))
      clear hK
      exact t7_11_12_ u7 u11 u12 w1 i1
  have t7_ : ∀ (u7 : Value) w', I7_ u7 w' → wpAnyH P .any #[o0, o1, o2, o3, o4, o5, o6, o7, o8, o9, o10, o11, o12, o13] (NoPanic Q) S 3 #[true, true, true, true, true, true, true, true, true, true, true, false, false, false] (B.put o7.dst u7) w' := by
    intro u7 w0 i0
    refine wpAnyH_ready (rs := [11]) q7_ (by simp) (AllReadyH.cons (o := o11) rfl (fun K hK => ?_) AllReadyH.nil)
    · rw [if_pos (wa11 _)]
      refine s7_11 u7 w0 i0 K (fun u11 w1 i1 => hK.out _ _ (z7_11_ u7 u11 w1 i1) (fun _ => ?_))
      clear hK
      exact t7_11_ u7 u11 w1 i1
  have t_ : ∀ w', I_  w' → wpAnyH P .any #[o0, o1, o2, o3, o4, o5, o6, o7, o8, o9, o10, o11, o12, o13] (NoPanic Q) S 4 #[true, true, true, true, true, true, true, false, true, true, true, false, false, false] B w' := by
    intro w0 i0
    refine wpAnyH_ready (rs := [7]) q_ (by simp) (AllReadyH.cons (o := o7) rfl (fun K hK => ?_) AllReadyH.nil)
    · rw [if_pos (wa7 _)]
      refine s_7  w0 i0 K (fun u7 w1 i1 => hK.out _ _ (z7_ u7 w1 i1) (fun _ => ?_))
      clear hK
      exact t7_ u7 w1 i1
  exact t_ w.drew i0

end
end Go.Proofs.YtecadmldnjlibaaDoor
namespace Go.Proofs.YtecadmldnjlibaaDoor
open Go.RowKit Go.BigFrame
set_option linter.unusedVariables false
set_option linter.unusedSimpArgs false

theorem wp_callC {o : Oper} {a : Act} {w : World} {K : Act → World → Prop} {Q : Exit → Act → World → Prop} {f : FuncId} {c : Operand} {xs : Array Operand} {ts : Array TypeId} (ho : o.op = .call { callee := .value c, args := xs, argTypes := ts })
    (cap : Array Value) (hc0 : a.eval c = .func (.func f) #[] cap)
    (hcl : ∀ args W, (callFunc f args).run Tryd.prog W = .ok (.enter f args) W) (us : List Value) (he : xs.toList.map a.eval = us) {R : Ending → World → Prop}
    (hc : Calls Tryd.prog f (us.toArray ++ cap) w R) (h : ∀ e w', R e w' → ∃ v, e = .returned v ∧ K (a.put o.dst v) w') : o.wp Tryd.prog a w K Q := by
  have he2 : xs.map a.eval = us.toArray := by rw [← he]; cases xs; simp only [List.map_toArray]
  unfold Oper.wp execOp
  simp only [ho]
  simp only [resolve, invoke, hc0, he2, Sem.run_bind, Sem.run_pure, Result.andThen_ok, hcl]
  simp [Deferred.ofValue, hcl, go_sem]
  refine hc.mono ?_
  intro e w2 h2
  obtain ⟨v, rfl, h3⟩ := h e w2 h2
  exact h3
theorem Tryd.callSum : ∀ args W, (callFunc 58 args).run Tryd.prog W = .ok (.enter 58 args) W := by
  intro args W
  exact Tryd.call58 args W

theorem pow_all (x : Nat) (hx : x < 32768) (h : x &&& (x - 1) = 0) (h0 : x ≠ 0) : x = 2 ^ Lib.ctz 64 x := by
  obtain ⟨m, hm⟩ := ctz_form (M := x) h0 (by omega)
  generalize Lib.ctz 64 x = c at hm ⊢
  have hp : 1 ≤ 2 ^ c := Nat.one_le_two_pow
  have hps : 2 ^ (c + 1) = 2 * 2 ^ c := by rw [Nat.pow_succ]; omega
  have e0 : x = 2 ^ (c + 1) * m + 2 ^ c := by
    rw [hm, hps, Nat.mul_add, Nat.mul_one, Nat.mul_left_comm, Nat.mul_assoc]
  have e1 : x / 2 ^ (c + 1) = m := by
    rw [e0, Nat.mul_add_div (by omega), Nat.div_eq_of_lt (by omega), Nat.add_zero]
  have e2 : (x - 1) / 2 ^ (c + 1) = m := by
    rw [show x - 1 = 2 ^ (c + 1) * m + (2 ^ c - 1) by omega, Nat.mul_add_div (by omega), Nat.div_eq_of_lt (by omega), Nat.add_zero]
  have e3 : (x &&& (x - 1)) / 2 ^ (c + 1) = m := by rw [Nat.and_div_two_pow, e1, e2, Nat.and_self]
  rw [h, Nat.zero_div] at e3
  rw [hm, ← e3]
  simp
theorem log_dg (z : Int) (no : List Nat) (l : List (List Nat)) (hn : Dg no) (hl : ∀ d ∈ l, Dg d) : Dg (logT z no l) := by
  by_cases h0 : l.length = 0
  · rw [List.eq_nil_of_length_eq_zero h0]; exact hn
  · by_cases h1 : l.length = 1
    · obtain ⟨x, rfl⟩ : ∃ x, l = [x] := by
        cases l with
        | nil => simp at h1
        | cons x r => cases r with
          | nil => exact ⟨x, rfl⟩
          | cons y r => simp at h1
      rw [logT_one]; exact hl x (by simp)
    · rw [logT_cut z no l (by omega)]; exact nodS_dg z _ _
theorem log_form (z : Int) (no : List Nat) (l : List (List Nat)) (hw : widthB z = true) (hn : formB z no = true) (hl : ∀ d ∈ l, formB z d = true) : formB z (logT z no l) = true := by
  by_cases h0 : l.length = 0
  · rw [List.eq_nil_of_length_eq_zero h0]; exact hn
  · by_cases h1 : l.length = 1
    · obtain ⟨x, rfl⟩ : ∃ x, l = [x] := by
        cases l with
        | nil => simp at h1
        | cons x r => cases r with
          | nil => exact ⟨x, rfl⟩
          | cons y r => simp at h1
      rw [logT_one]; exact hl x (by simp)
    · rw [logT_cut z no l (by omega)]; exact nodS_form hw _ _
end Go.Proofs.YtecadmldnjlibaaDoor
namespace Go.Proofs.YtecadmldnjlibaaDoor
open Go.RowKit Go.BigFrame
set_option linter.unusedVariables false
set_option linter.unusedSimpArgs false

theorem PA.leaves {z : Int} {w : World} : ∀ {h : Nat} {s : List Nat} {k : Value} {l : List (List Nat)}, PA z w h s k l → ∀ d ∈ l, Dg d ∧ formB z d = true
  | 0, _, _, _, hp, d, hd => by obtain ⟨_, rfl, h1, h2⟩ := hp; rw [List.mem_singleton] at hd; subst hd; exact ⟨h1, h2⟩
  | h + 1, _, _, _, hp, d, hd => by
    obtain ⟨g, s0, k0, l0, s1, k1, l1, _, _, h0, h1, rfl, _⟩ := hp
    rcases List.mem_append.1 hd with hd | hd
    · exact h0.leaves d hd
    · exact h1.leaves d hd
theorem PKs.leaves {z : Int} {w : World} {ps : List Pk} (h : PKs z w ps) : ∀ d ∈ leavesK ps, Dg d ∧ formB z d = true := by
  intro d hd
  obtain ⟨p, hp, hd⟩ := List.mem_flatMap.1 hd
  exact (h.ok p hp).leaves d hd
/-- The value of the closure within Range. -/
def sumV (bt bs : Nat) : Value := .func (.func 58) #[] #[.pointer (some ⟨bt, 0, none⟩), .pointer (some ⟨bs, 0, none⟩)]
structure SumW (z : Int) (t : Nat) (v : Value) (ps : List Pk) (bt bs : Nat) (w : World) : Prop where
  tree : TreeAt z w t v ps
  hbt : w.heap[bt]? = some (.cells #[.pointer (some ⟨t, 0, none⟩)] 24 (0, 0))
  hbs : w.heap[bs]? = some (.cells #[sumV bt bs] 97 (0, 0))
  tabs : Tabs w
  tab6 : Tab6 w
theorem SumW.old {z : Int} {t : Nat} {v : Value} {ps : List Pk} {bt bs : Nat} {w w' : World} (h : SumW z t v ps bt bs w) (k : Kept [] w w') : SumW z t v ps bt bs w' :=
  ⟨h.tree.old k, k.heap h.hbt (by simp), k.heap h.hbs (by simp), h.tabs.kept k (by simp) (by simp), h.tab6.kept k⟩
theorem Tryd.underSum : Tryd.prog.underlying 97 = some (.func #[49, 49] #[41] false) := by kernel_rfl
/-- The digest of the leaves from lo to hi. -/
def rngD (z : Int) (no : List Nat) (L : List (List Nat)) (lo hi : Nat) : List Nat := logT z no ((L.drop lo).take (hi - lo))
theorem rngD_cut {z : Int} {no : List Nat} {L : List (List Nat)} {lo hi : Nat} (h2 : 2 ≤ hi - lo) (hl : hi ≤ L.length) : rngD z no L lo hi = nodT z (rngD z no L lo (lo + belT (hi - lo))) (rngD z no L (lo + belT (hi - lo)) hi) := by
  have hb := belT_lt h2
  have hlen : ((L.drop lo).take (hi - lo)).length = hi - lo := by rw [List.length_take, List.length_drop]; omega
  unfold rngD
  rw [logT_cut z no _ (by omega), hlen]
  generalize belT (hi - lo) = m at hb ⊢
  rw [List.take_take, Nat.min_eq_left (by omega), Nat.add_sub_cancel_left, List.drop_take, List.drop_drop]
  congr 3
  omega
theorem rngD_pow {z : Int} {no : List Nat} {L : List (List Nat)} {lo hi h : Nat} (he : hi - lo = 2 ^ h) (hl : hi ≤ L.length) (hlo : lo ≤ hi) : rngD z no L lo hi = perT z h ((L.drop lo).take (2 ^ h)) := by
  have hp : 1 ≤ 2 ^ h := Nat.one_le_two_pow
  unfold rngD
  rw [he, logT_per z no h _ (by rw [List.length_take, List.length_drop]; omega)]

set_option maxRecDepth 100000 in
set_option maxHeartbeats 1000000 in
theorem sumT_any (z : Int) (no : List Nat) (hno : Dg no) (hnf : formB z no = true) (t : Nat) (v : Value) (ps : List Pk) (bt bs : Nat) : ∀ (c lo hi : Nat) (w : World), hi - lo ≤ c → lo < hi → hi ≤ (leavesK ps).length → (leavesK ps).length < 32768 → SumW z t v ps bt bs w →
    Calls Tryd.prog 58 #[.int .u64 lo, .int .u64 hi, .pointer (some ⟨bt, 0, none⟩), .pointer (some ⟨bs, 0, none⟩)] w fun e w' => e = .returned (.agg (brow (rngD z no (leavesK ps) lo hi))) ∧ Kept [] w w' := by
  intro c
  induction c with
  | zero => intro lo hi w h1 h2; omega
  | succ c ih =>
    intro lo hi w hc hlh hhl hb HS
    obtain ⟨n, hn⟩ : ∃ n, hi - lo = n := ⟨_, rfl⟩
    have hn4 : n < 32768 := by omega
    have hsub : IntKind.u64.wrap ((hi : Int) - (lo : Int)) = (n : Int) := by rw [wrU]; omega
    have hsub1 : IntKind.u64.wrap ((n : Int) - 1) = ((n - 1 : Nat) : Int) := by rw [wrU]; omega
    have hand := u64_and_natT n (n - 1) (by omega) (by omega)
    have hrem : ((lo : Int) % (n : Int)) = ((lo % n : Nat) : Int) := by simp
    obtain ⟨D, hD⟩ : ∃ D, rngD z no (leavesK ps) lo hi = D := ⟨_, rfl⟩
    rw [hD]
    have HD := hide hD
    have HLV := hide HS.tree.pk.leaves
    have hDg : Dg D := by
      rw [← hD]
      exact log_dg z no _ hno (fun d hd => (unhide HLV d (List.mem_of_mem_drop (List.mem_of_mem_take hd))).1)
    clear hD
    have kX := (Kept.refl [] w).alloc (.cells (zb 32) 41)
    have HZX := hide (heap_alloc_new w (.cells (zb 32) 41))
    have HSX := hide (HS.old kX)
    have HKX := hide kX
    have HLB := hide (⟨hhl, hb, hc, hlh⟩ : hi ≤ (leavesK ps).length ∧ (leavesK ps).length < 32768 ∧ hi - lo ≤ c + 1 ∧ lo < hi)
    have HIH := hide ih
    have HN := hide hn
    have hlo64 : lo < 32768 := by omega
    have hhi64 : hi < 32768 := by omega
    have hn0 : n ≠ 0 := by omega
    obtain ⟨ab, hab⟩ : ∃ ab, n &&& (n - 1) = ab := ⟨_, rfl⟩
    rw [hab] at hand
    have HAB := hide hab
    obtain ⟨n1, hn1⟩ : ∃ n1, n - 1 = n1 := ⟨_, rfl⟩
    rw [hn1] at hsub1 hand
    clear ih kX HS hhl hb hc hn hab
    obtain ⟨rm, hrm⟩ : ∃ rm, lo % n = rm := ⟨_, rfl⟩
    rw [hrm] at hrem
    have HRM := hide hrm
    have hdl := hDg.1
    have HSZ := hide (by rw [brow_size, hdl]; exact Tryd.size_dig : (Tryd.prog.info? 41).map (·.size) = some (brow D).size)
    clear hrm
    by_cases hAB : ab = 0 ∧ rm = 0
    · obtain ⟨rfl, rfl⟩ := hAB
      have HP := hide (pow_all n hn4 (unhide HAB) hn0)
      have HT6 := hide (fun W (k : Kept [] (w.alloc (.cells (zb 32) 41)) W) => tz64_any n W (by omega) hn0 ((unhide HSX).old k).tab6)
      generalize Lib.ctz 64 n = h at HP HT6
      have HKE := hide (fun W (k : Kept [] (w.alloc (.cells (zb 32) 41)) W) => (by
        have h1 := unhide HLB
        have h2 := unhide HN
        have h3 := unhide HP
        have h4 := keptT_any z t v ps lo h W ((unhide HSX).old k).tree (by omega) (by rw [← h3]; exact Nat.dvd_of_mod_eq_zero (unhide HRM)) h1.2.1
        rw [← rngD_pow (no := no) (by omega) h1.1 (by omega), unhide HD] at h4
        exact h4 : Calls Tryd.prog 47 #[.pointer (some ⟨t, 0, none⟩), .int .u64 lo, .int .i64 h] W fun e w' => e = .returned (.agg (brow D)) ∧ Kept [] W w'))
      go_enter Tryd.func58, Tryd.ntmps58
      go_wp2_with (first | simp only [hsub] | simp only [hsub1] | simp only [hand] | simp only [hrem])
      rw [zb32]
      obtain ⟨X, hX⟩ : ∃ X, w.alloc (.cells (zb 32) 41) = X := ⟨_, rfl⟩
      rw [hX] at HZX HSX HKX HT6 HKE ⊢
      clear hX
      have cb := cell_of_row _ _ 0 _ _ _ (unhide HSX).hbt
      simp at cb
      have hbt9 : bt ≠ w.heap.size := by
        intro e
        have h1 := (unhide HSX).hbt
        rw [e, unhide HZX] at h1
        simp at h1
      refine wp_ra6 (by kernel_rfl) (by kernel_rfl) (by kernel_rfl) (by kernel_rfl) (by kernel_rfl) (by kernel_rfl) (by kernel_rfl) (by kernel_rfl) (by kernel_rfl) (by kernel_rfl) (by kernel_rfl) (by kernel_rfl) rfl rfl rfl
        (.pointer (some ⟨t, 0, none⟩)) (.int .u64 (lo : Int)) (.int .u64 (n : Int)) _ _ _
        (fun w' => Kept [w.heap.size] X w')
        (fun w' => Kept [] X w')
        (fun u w' => u = .int .i64 (h : Int) ∧ Kept [] X w')
        (fun u y w' => u = .int .i64 (h : Int) ∧ y = .agg (brow D) ∧ Kept [] X w')
        (fun u y x w' => w'.heap[w.heap.size]? = some (.cells (brow D) 41 (0, 0)) ∧ Kept [w.heap.size] X w')
        (by simp only [Act.put, List.setIfInBounds_toArray, List.set_cons_zero, List.set_cons_succ]; rfl) (by exact Or.inl ⟨by rfl, fun W' hW' => by have h9 := hW'.cell cb (by simp; omega); go_simp⟩)
        (by simp only [Act.put, List.setIfInBounds_toArray, List.set_cons_zero, List.set_cons_succ]; rfl) (by exact Or.inl ⟨by rfl, fun W' hW' => by go_simp⟩)
        (by simp only [Act.put, List.setIfInBounds_toArray, List.set_cons_zero, List.set_cons_succ]; rfl) (by exact Or.inl ⟨by rfl, fun W' hW' => by go_simp⟩)
        (Kept.refl [] X).drew
        ⟨fun w' h => h.mono (by simp), fun u w' h => h.2.mono (by simp), fun u y w' h => h.2.2.mono (by simp), fun u y x w' h => h.2⟩
        (by intro w' i K hK; exact wp_callN rfl Tryd.call52 [.int .u64 (n : Int)] rfl (unhide HT6 w' i) (fun e w2 h => ⟨_, h.1, hK _ _ ⟨rfl, by rw [h.2]; exact i⟩⟩))
        (by rintro u w' ⟨rfl, i⟩ K hK; exact wp_callN rfl Tryd.call47 [.pointer (some ⟨t, 0, none⟩), .int .u64 (lo : Int), .int .i64 (h : Int)] rfl (unhide HKE w' i) (fun e w2 h => ⟨_, h.1, hK _ _ ⟨rfl, rfl, i.trans h.2 (by simp)⟩⟩))
        (by
          intro u y w' hh K hK
          simp only [Act.put, List.setIfInBounds_toArray, List.set_cons_zero, List.set_cons_succ] at hK ⊢
          obtain ⟨rfl, rfl, i⟩ := hh
          exact wp_store_row 41 _ _ rfl w.heap.size (brow D) rfl rfl _ (zb 32) (i.heap (unhide HZX) (by simp)) (unhide HSZ) (by rw [zb_size, brow_size, hdl]) (brow_one _) (hK undef _ ⟨setRow_heap _ _ _ _ _ _ (i.heap (unhide HZX) (by simp)), (i.mono (by simp)).setRow (Or.inl (by simp)) _⟩))
        ?_
      rintro u y x1 Y ⟨hrow, kY⟩
      simp only [Act.put, List.setIfInBounds_toArray, List.set_cons_zero, List.set_cons_succ]
      have HRY := hide hrow
      have HKY := hide ((unhide HKX).trans kY (by simp))
      clear hrow kY
      go_wp2_with fail
      refine bodyPost_ret (v := .agg (brow D)) ?_ rfl ⟨rfl, unhide HKY⟩
      exact results_cell_row rfl _ _ w.heap.size _ (brow D) (0, 0) _ rfl (unhide HRY) Tryd.underlying41 rfl (unhide HSZ)
    · have hn2 : 2 ≤ n := by
        rcases (by omega : n = 1 ∨ 2 ≤ n) with h9 | h9
        · exfalso
          refine hAB ⟨?_, ?_⟩
          · have := unhide HAB; rw [h9] at this; simpa using this.symm
          · have := unhide HRM; rw [h9, Nat.mod_one] at this; exact this.symm
        · exact h9
      have HBL := hide (bitLen_log n1 (by omega) (by omega))
      have hbel : belT n = 2 ^ n1.log2 := by unfold belT; rw [hn1]
      have hbl := belT_lt hn2
      rw [hbel] at hbl
      have hm64 : n1.log2 < 64 := by
        rcases Nat.lt_or_ge n1.log2 64 with h9 | h9
        · exact h9
        · have : 2 ^ 64 ≤ 2 ^ n1.log2 := Nat.pow_le_pow_right (by omega) h9
          omega
      generalize n1.log2 = m at HBL hbel hbl hm64
      obtain ⟨pm, hpm⟩ : ∃ pm, 2 ^ m = pm := ⟨_, rfl⟩
      have HPM := hide hpm
      rw [hpm] at hbel hbl
      have HCUT := hide (by
        have h1 := unhide HLB
        have h2 := unhide HN
        have h3 := rngD_cut (z := z) (no := no) (L := leavesK ps) (lo := lo) (hi := hi) (by omega) h1.1
        rw [h2, hbel, unhide HD] at h3
        exact h3 : D = nodT z (rngD z no (leavesK ps) lo (lo + pm)) (rngD z no (leavesK ps) (lo + pm) hi))
      have hlm : IntKind.u64.wrap ((lo : Int) + (pm : Int)) = ((lo + pm : Nat) : Int) := by rw [wrU]; omega
      obtain ⟨md, hmd⟩ : ∃ md, lo + pm = md := ⟨_, rfl⟩
      rw [hmd] at hlm HCUT
      have HR1 := hide (fun W (k : Kept [] (w.alloc (.cells (zb 32) 41)) W) => unhide HIH lo md W (by have h1 := unhide HLB; have h2 := unhide HN; omega) (by omega) (by have h1 := unhide HLB; have h2 := unhide HN; omega) (unhide HLB).2.1 ((unhide HSX).old k))
      have HR2 := hide (fun W (k : Kept [] (w.alloc (.cells (zb 32) 41)) W) => unhide HIH md hi W (by have h1 := unhide HLB; have h2 := unhide HN; omega) (by have h1 := unhide HLB; have h2 := unhide HN; omega) (unhide HLB).1 (unhide HLB).2.1 ((unhide HSX).old k))
      have hleaf : ∀ a b, Dg (rngD z no (leavesK ps) a b) ∧ formB z (rngD z no (leavesK ps) a b) = true := fun a b => ⟨log_dg z no _ hno (fun d hd => (unhide HLV d (List.mem_of_mem_drop (List.mem_of_mem_take hd))).1), log_form z no _ (unhide HSX).tree.wid hnf (fun d hd => (unhide HLV d (List.mem_of_mem_drop (List.mem_of_mem_take hd))).2)⟩
      have HOV := hide (fun W (k : Kept [] (w.alloc (.cells (zb 32) 41)) W) => overT_any z (rngD z no (leavesK ps) lo md) (rngD z no (leavesK ps) md hi) W (unhide HSX).tree.wid (hleaf _ _).1 (hleaf _ _).1 (hleaf _ _).2 (hleaf _ _).2 ((unhide HSX).old k).tabs)
      rw [← unhide HCUT] at HOV
      have hl1 := (hleaf lo md).1.1
      have hl2 := (hleaf md hi).1.1
      generalize rngD z no (leavesK ps) lo md = D1 at HR1 HOV hl1
      generalize rngD z no (leavesK ps) md hi = D2 at HR2 HOV hl2
      clear hleaf HCUT hbel hbl hpm hmd HIH
      rcases (by omega : ¬ ab = 0 ∨ (ab = 0 ∧ ¬ rm = 0)) with hA | ⟨rfl, hA⟩
      · have hA' : ((ab : Nat) : Int) ≠ 0 := by omega
        go_enter Tryd.func58, Tryd.ntmps58
        go_wp2_with (first | simp only [hsub] | simp only [hsub1] | simp only [hand] | simp only [hrem])
        rw [zb32]
        refine Calls.mono (len64_any n1 _ (by omega)) ?_
        rintro e w1 ⟨rfl, k1⟩
        rw [unhide HBL]
        have HK1 := hide k1
        clear k1
        have hm1 : ((m + 1 : Nat) : Int) = (m : Int) + 1 := by omega
        rw [hm1]
        go_wp2_with (first
          | (refine wpList_shl1 rfl _ _ (.tmp 32) rfl m hm64 rfl ?_; rw [unhide HPM])
          | simp only [hlm])
        obtain ⟨X, hX⟩ : ∃ X, w.alloc (.cells (zb 32) 41) = X := ⟨_, rfl⟩
        rw [hX] at HZX HSX HKX HR1 HR2 HOV HK1
        clear hX
        have HS1 := hide ((unhide HSX).old (unhide HK1))
        have HZ1 := hide ((unhide HK1).heap (unhide HZX) (by simp))
        have cb := cell_of_row _ _ 0 _ _ _ (unhide HS1).hbt
        have cs := cell_of_row _ _ 0 _ _ _ (unhide HS1).hbs
        have ct := cell_of_row _ _ 0 _ _ _ (unhide HS1).tree.row
        simp at cb cs ct
        have hbt9 : bt ≠ w.heap.size := by
          intro e
          have h1 := (unhide HSX).hbt
          rw [e, unhide HZX] at h1
          simp at h1
        have hbs9 : bs ≠ w.heap.size := by
          intro e
          have h1 := (unhide HSX).hbs
          rw [e, unhide HZX] at h1
          simp at h1
        have ht9 : t ≠ w.heap.size := by
          intro e
          have h1 := (unhide HSX).tree.row
          rw [e, unhide HZX] at h1
          simp at h1
        refine wp_rb14 (by kernel_rfl) (by kernel_rfl) (by kernel_rfl) (by kernel_rfl) (by kernel_rfl) (by kernel_rfl) (by kernel_rfl) (by kernel_rfl) (by kernel_rfl) (by kernel_rfl) (by kernel_rfl) (by kernel_rfl) (by kernel_rfl) (by kernel_rfl) (by kernel_rfl) (by kernel_rfl) (by kernel_rfl) (by kernel_rfl) (by kernel_rfl) (by kernel_rfl) (by kernel_rfl) (by kernel_rfl) (by kernel_rfl) (by kernel_rfl) (by kernel_rfl) (by kernel_rfl) (by kernel_rfl) rfl rfl rfl rfl
          (.pointer (some ⟨t, 0, none⟩)) (.pointer (some ⟨t, 0, none⟩)) (.pointer (some ⟨t, 0, none⟩)) (.int .i64 z) (sumV bt bs) (.int .u64 (lo : Int)) (.int .u64 (md : Int)) (sumV bt bs) (.int .u64 (md : Int)) (.int .u64 (hi : Int)) _ _ _ _ _ _ _ _ _ _
          (fun w' => Kept [w.heap.size] w1 w')
          (fun w' => Kept [] w1 w')
          (fun u w' => u = .agg (brow D1) ∧ Kept [] w1 w')
          (fun u y w' => u = .agg (brow D1) ∧ y = .agg (brow D2) ∧ Kept [] w1 w')
          (fun u y x w' => u = .agg (brow D1) ∧ y = .agg (brow D2) ∧ x = .agg (brow D) ∧ Kept [] w1 w')
          (fun u y x q w' => w'.heap[w.heap.size]? = some (.cells (brow D) 41 (0, 0)) ∧ Kept [w.heap.size] w1 w')
          (by simp only [Act.put, List.setIfInBounds_toArray, List.set_cons_zero, List.set_cons_succ]; rfl) (by exact Or.inl ⟨by rfl, fun W' hW' => by have h9 := hW'.cell cb (by simp; omega); go_simp⟩)
          (by simp only [Act.put, List.setIfInBounds_toArray, List.set_cons_zero, List.set_cons_succ]; rfl) (by exact Or.inl ⟨by rfl, fun W' hW' => by go_simp⟩)
          (by simp only [Act.put, List.setIfInBounds_toArray, List.set_cons_zero, List.set_cons_succ]; rfl) (by exact Or.inl ⟨by rfl, fun W' hW' => by go_simp⟩)
          (by simp only [Act.put, List.setIfInBounds_toArray, List.set_cons_zero, List.set_cons_succ]; rfl) (by exact Or.inl ⟨by rfl, fun W' hW' => by have h9 := hW'.cell ct (by simp; omega); go_simp⟩)
          (by simp only [Act.put, List.setIfInBounds_toArray, List.set_cons_zero, List.set_cons_succ]; rfl) (by exact Or.inl ⟨by rfl, fun W' hW' => by have h9 := hW'.cell cs (by simp; omega); go_simp⟩)
          (by simp only [Act.put, List.setIfInBounds_toArray, List.set_cons_zero, List.set_cons_succ]; rfl) (by exact Or.inl ⟨by rfl, fun W' hW' => by go_simp⟩)
          (by simp only [Act.put, List.setIfInBounds_toArray, List.set_cons_zero, List.set_cons_succ]; rfl) (by exact Or.inl ⟨by rfl, fun W' hW' => by go_simp⟩)
          (by simp only [Act.put, List.setIfInBounds_toArray, List.set_cons_zero, List.set_cons_succ]; rfl) (by exact Or.inl ⟨by rfl, fun W' hW' => by have h9 := hW'.cell cs (by simp; omega); go_simp⟩)
          (by simp only [Act.put, List.setIfInBounds_toArray, List.set_cons_zero, List.set_cons_succ]; rfl) (by exact Or.inl ⟨by rfl, fun W' hW' => by go_simp⟩)
          (by simp only [Act.put, List.setIfInBounds_toArray, List.set_cons_zero, List.set_cons_succ]; rfl) (by exact Or.inl ⟨by rfl, fun W' hW' => by go_simp⟩)
          (Kept.refl [] w1).drew
          ⟨fun w' h => h.mono (by simp), fun u w' h => h.2.mono (by simp), fun u y w' h => h.2.2.mono (by simp), fun u y x w' h => h.2.2.2.mono (by simp), fun u y x q w' h => h.2⟩
          (by intro w' i K hK; exact wp_callC rfl #[.pointer (some ⟨bt, 0, none⟩), .pointer (some ⟨bs, 0, none⟩)] rfl Tryd.callSum [.int .u64 (lo : Int), .int .u64 (md : Int)] rfl (unhide HR1 w' ((unhide HK1).trans i (by simp))) (fun e w2 h => ⟨_, h.1, hK _ _ ⟨rfl, i.trans h.2 (by simp)⟩⟩))
          (by rintro u w' ⟨rfl, i⟩ K hK; exact wp_callC rfl #[.pointer (some ⟨bt, 0, none⟩), .pointer (some ⟨bs, 0, none⟩)] rfl Tryd.callSum [.int .u64 (md : Int), .int .u64 (hi : Int)] rfl (unhide HR2 w' ((unhide HK1).trans i (by simp))) (fun e w2 h => ⟨_, h.1, hK _ _ ⟨rfl, rfl, i.trans h.2 (by simp)⟩⟩))
          (by
            intro u y w' hh K hK
            simp only [Act.put, List.setIfInBounds_toArray, List.set_cons_zero, List.set_cons_succ] at hK ⊢
            obtain ⟨rfl, rfl, i⟩ := hh
            exact wp_callN rfl Tryd.call53 [.int .i64 z, .agg (brow D1), .agg (brow D2)] rfl (unhide HOV w' ((unhide HK1).trans i (by simp))) (fun e w2 h => ⟨_, h.1, hK _ _ ⟨rfl, rfl, rfl, i.trans h.2 (by simp)⟩⟩))
          (by
            intro u y x w' hh K hK
            simp only [Act.put, List.setIfInBounds_toArray, List.set_cons_zero, List.set_cons_succ] at hK ⊢
            obtain ⟨rfl, rfl, rfl, i⟩ := hh
            exact wp_store_row 41 _ _ rfl w.heap.size (brow D) rfl rfl _ (zb 32) (i.heap (unhide HZ1) (by simp)) (unhide HSZ) (by rw [zb_size, brow_size, hdl]) (brow_one _) (hK undef _ ⟨setRow_heap _ _ _ _ _ _ (i.heap (unhide HZ1) (by simp)), (i.mono (by simp)).setRow (Or.inl (by simp)) _⟩))
          ?_
        rintro u y x1 q Y ⟨hrow, kY⟩
        simp only [Act.put, List.setIfInBounds_toArray, List.set_cons_zero, List.set_cons_succ]
        have HRY := hide hrow
        have HKY := hide (((unhide HKX).trans (unhide HK1) (by simp)).trans kY (by simp))
        clear hrow kY
        go_wp2_with fail
        refine bodyPost_ret (v := .agg (brow D)) ?_ rfl ⟨rfl, unhide HKY⟩
        exact results_cell_row rfl _ _ w.heap.size _ (brow D) (0, 0) _ rfl (unhide HRY) Tryd.underlying41 rfl (unhide HSZ)
      · have hA' : ((rm : Nat) : Int) ≠ 0 := by omega
        go_enter Tryd.func58, Tryd.ntmps58
        go_wp2_with (first | simp only [hsub] | simp only [hsub1] | simp only [hand] | simp only [hrem])
        rw [zb32]
        refine Calls.mono (len64_any n1 _ (by omega)) ?_
        rintro e w1 ⟨rfl, k1⟩
        rw [unhide HBL]
        have HK1 := hide k1
        clear k1
        have hm1 : ((m + 1 : Nat) : Int) = (m : Int) + 1 := by omega
        rw [hm1]
        go_wp2_with (first
          | (refine wpList_shl1 rfl _ _ (.tmp 32) rfl m hm64 rfl ?_; rw [unhide HPM])
          | simp only [hlm])
        obtain ⟨X, hX⟩ : ∃ X, w.alloc (.cells (zb 32) 41) = X := ⟨_, rfl⟩
        rw [hX] at HZX HSX HKX HR1 HR2 HOV HK1
        clear hX
        have HS1 := hide ((unhide HSX).old (unhide HK1))
        have HZ1 := hide ((unhide HK1).heap (unhide HZX) (by simp))
        have cb := cell_of_row _ _ 0 _ _ _ (unhide HS1).hbt
        have cs := cell_of_row _ _ 0 _ _ _ (unhide HS1).hbs
        have ct := cell_of_row _ _ 0 _ _ _ (unhide HS1).tree.row
        simp at cb cs ct
        have hbt9 : bt ≠ w.heap.size := by
          intro e
          have h1 := (unhide HSX).hbt
          rw [e, unhide HZX] at h1
          simp at h1
        have hbs9 : bs ≠ w.heap.size := by
          intro e
          have h1 := (unhide HSX).hbs
          rw [e, unhide HZX] at h1
          simp at h1
        have ht9 : t ≠ w.heap.size := by
          intro e
          have h1 := (unhide HSX).tree.row
          rw [e, unhide HZX] at h1
          simp at h1
        refine wp_rb14 (by kernel_rfl) (by kernel_rfl) (by kernel_rfl) (by kernel_rfl) (by kernel_rfl) (by kernel_rfl) (by kernel_rfl) (by kernel_rfl) (by kernel_rfl) (by kernel_rfl) (by kernel_rfl) (by kernel_rfl) (by kernel_rfl) (by kernel_rfl) (by kernel_rfl) (by kernel_rfl) (by kernel_rfl) (by kernel_rfl) (by kernel_rfl) (by kernel_rfl) (by kernel_rfl) (by kernel_rfl) (by kernel_rfl) (by kernel_rfl) (by kernel_rfl) (by kernel_rfl) (by kernel_rfl) rfl rfl rfl rfl
          (.pointer (some ⟨t, 0, none⟩)) (.pointer (some ⟨t, 0, none⟩)) (.pointer (some ⟨t, 0, none⟩)) (.int .i64 z) (sumV bt bs) (.int .u64 (lo : Int)) (.int .u64 (md : Int)) (sumV bt bs) (.int .u64 (md : Int)) (.int .u64 (hi : Int)) _ _ _ _ _ _ _ _ _ _
          (fun w' => Kept [w.heap.size] w1 w')
          (fun w' => Kept [] w1 w')
          (fun u w' => u = .agg (brow D1) ∧ Kept [] w1 w')
          (fun u y w' => u = .agg (brow D1) ∧ y = .agg (brow D2) ∧ Kept [] w1 w')
          (fun u y x w' => u = .agg (brow D1) ∧ y = .agg (brow D2) ∧ x = .agg (brow D) ∧ Kept [] w1 w')
          (fun u y x q w' => w'.heap[w.heap.size]? = some (.cells (brow D) 41 (0, 0)) ∧ Kept [w.heap.size] w1 w')
          (by simp only [Act.put, List.setIfInBounds_toArray, List.set_cons_zero, List.set_cons_succ]; rfl) (by exact Or.inl ⟨by rfl, fun W' hW' => by have h9 := hW'.cell cb (by simp; omega); go_simp⟩)
          (by simp only [Act.put, List.setIfInBounds_toArray, List.set_cons_zero, List.set_cons_succ]; rfl) (by exact Or.inl ⟨by rfl, fun W' hW' => by go_simp⟩)
          (by simp only [Act.put, List.setIfInBounds_toArray, List.set_cons_zero, List.set_cons_succ]; rfl) (by exact Or.inl ⟨by rfl, fun W' hW' => by go_simp⟩)
          (by simp only [Act.put, List.setIfInBounds_toArray, List.set_cons_zero, List.set_cons_succ]; rfl) (by exact Or.inl ⟨by rfl, fun W' hW' => by have h9 := hW'.cell ct (by simp; omega); go_simp⟩)
          (by simp only [Act.put, List.setIfInBounds_toArray, List.set_cons_zero, List.set_cons_succ]; rfl) (by exact Or.inl ⟨by rfl, fun W' hW' => by have h9 := hW'.cell cs (by simp; omega); go_simp⟩)
          (by simp only [Act.put, List.setIfInBounds_toArray, List.set_cons_zero, List.set_cons_succ]; rfl) (by exact Or.inl ⟨by rfl, fun W' hW' => by go_simp⟩)
          (by simp only [Act.put, List.setIfInBounds_toArray, List.set_cons_zero, List.set_cons_succ]; rfl) (by exact Or.inl ⟨by rfl, fun W' hW' => by go_simp⟩)
          (by simp only [Act.put, List.setIfInBounds_toArray, List.set_cons_zero, List.set_cons_succ]; rfl) (by exact Or.inl ⟨by rfl, fun W' hW' => by have h9 := hW'.cell cs (by simp; omega); go_simp⟩)
          (by simp only [Act.put, List.setIfInBounds_toArray, List.set_cons_zero, List.set_cons_succ]; rfl) (by exact Or.inl ⟨by rfl, fun W' hW' => by go_simp⟩)
          (by simp only [Act.put, List.setIfInBounds_toArray, List.set_cons_zero, List.set_cons_succ]; rfl) (by exact Or.inl ⟨by rfl, fun W' hW' => by go_simp⟩)
          (Kept.refl [] w1).drew
          ⟨fun w' h => h.mono (by simp), fun u w' h => h.2.mono (by simp), fun u y w' h => h.2.2.mono (by simp), fun u y x w' h => h.2.2.2.mono (by simp), fun u y x q w' h => h.2⟩
          (by intro w' i K hK; exact wp_callC rfl #[.pointer (some ⟨bt, 0, none⟩), .pointer (some ⟨bs, 0, none⟩)] rfl Tryd.callSum [.int .u64 (lo : Int), .int .u64 (md : Int)] rfl (unhide HR1 w' ((unhide HK1).trans i (by simp))) (fun e w2 h => ⟨_, h.1, hK _ _ ⟨rfl, i.trans h.2 (by simp)⟩⟩))
          (by rintro u w' ⟨rfl, i⟩ K hK; exact wp_callC rfl #[.pointer (some ⟨bt, 0, none⟩), .pointer (some ⟨bs, 0, none⟩)] rfl Tryd.callSum [.int .u64 (md : Int), .int .u64 (hi : Int)] rfl (unhide HR2 w' ((unhide HK1).trans i (by simp))) (fun e w2 h => ⟨_, h.1, hK _ _ ⟨rfl, rfl, i.trans h.2 (by simp)⟩⟩))
          (by
            intro u y w' hh K hK
            simp only [Act.put, List.setIfInBounds_toArray, List.set_cons_zero, List.set_cons_succ] at hK ⊢
            obtain ⟨rfl, rfl, i⟩ := hh
            exact wp_callN rfl Tryd.call53 [.int .i64 z, .agg (brow D1), .agg (brow D2)] rfl (unhide HOV w' ((unhide HK1).trans i (by simp))) (fun e w2 h => ⟨_, h.1, hK _ _ ⟨rfl, rfl, rfl, i.trans h.2 (by simp)⟩⟩))
          (by
            intro u y x w' hh K hK
            simp only [Act.put, List.setIfInBounds_toArray, List.set_cons_zero, List.set_cons_succ] at hK ⊢
            obtain ⟨rfl, rfl, rfl, i⟩ := hh
            exact wp_store_row 41 _ _ rfl w.heap.size (brow D) rfl rfl _ (zb 32) (i.heap (unhide HZ1) (by simp)) (unhide HSZ) (by rw [zb_size, brow_size, hdl]) (brow_one _) (hK undef _ ⟨setRow_heap _ _ _ _ _ _ (i.heap (unhide HZ1) (by simp)), (i.mono (by simp)).setRow (Or.inl (by simp)) _⟩))
          ?_
        rintro u y x1 q Y ⟨hrow, kY⟩
        simp only [Act.put, List.setIfInBounds_toArray, List.set_cons_zero, List.set_cons_succ]
        have HRY := hide hrow
        have HKY := hide (((unhide HKX).trans (unhide HK1) (by simp)).trans kY (by simp))
        clear hrow kY
        go_wp2_with fail
        refine bodyPost_ret (v := .agg (brow D)) ?_ rfl ⟨rfl, unhide HKY⟩
        exact results_cell_row rfl _ _ w.heap.size _ (brow D) (0, 0) _ rfl (unhide HRY) Tryd.underlying41 rfl (unhide HSZ)
end Go.Proofs.YtecadmldnjlibaaDoor
namespace Go.Proofs.YtecadmldnjlibaaDoor
open Go.RowKit Go.BigFrame
set_option linter.unusedVariables false
set_option linter.unusedSimpArgs false

/-- The digest of no leaves. -/
def noT (z : Int) : List Nat := sumD z []
theorem noT_dg (z : Int) : Dg (noT z) := by
  unfold noT sumD
  by_cases h : widthB z = true
  · rw [if_pos h]
    have hw := width_le h
    exact ⟨cutL_len z.toNat (hash []) (by omega) (hash_len []), cutL_byte z.toNat (hash []) (hash_byte [])⟩
  · rw [if_neg h]
    exact ⟨by simp, by simp⟩
theorem noT_form {z : Int} (hw : widthB z = true) : formB z (noT z) = true := by
  unfold noT sumD
  rw [if_pos hw]
  have hz := width_le hw
  unfold formB
  simp only [hw, Bool.true_and, decide_eq_true_eq]
  exact cutL_cutL _ _ (by rw [hash_len]; omega)
theorem rngD_self (z : Int) (no : List Nat) (L : List (List Nat)) (lo : Nat) : rngD z no L lo lo = no := by
  unfold rngD; rw [Nat.sub_self, List.take_zero]; exact logT_nil z no

theorem alloc2_at (w : World) (a b : Obj) : ((w.alloc a).alloc b).heap[w.heap.size + 1]? = some b := by
  have := heap_alloc_new (w.alloc a) b
  simpa using this

set_option maxRecDepth 100000 in
set_option maxHeartbeats 400000 in
theorem rangeT_nil (lo hi : Int) (w : World) :
    Calls Tryd.prog 43 #[.pointer none, .int .u64 lo, .int .u64 hi] w fun e w' => e = .returned (.tuple #[.agg (zb 32), .int .i64 5]) ∧ Kept [] w w' := by
  have HZ := hide (alloc2_at w (.cells #[.pointer none] 24) (.cells (zb 32) 41))
  have HK := hide ((((Kept.refl [] w).alloc (.cells #[.pointer none] 24)).alloc (.cells (zb 32) 41)).setRow (g := w.heap.size + 1) (Or.inr (by omega)) (zb 32))
  go_enter Tryd.func43, Tryd.ntmps43
  go_wp2_with (rw [zb32]; refine wpList_store_row rfl 41 (.tmp 6) _ rfl (w.heap.size + 1) (zb 32) rfl rfl _ (zb 32) (unhide HZ) (by rw [zb_size]; exact Tryd.size_dig) rfl (brow_one _) ?_)
  refine bodyPost_ret (v := .tuple #[.agg (zb 32), .int .i64 5]) ?_ rfl ⟨rfl, unhide HK⟩
  exact results_cell_tmp rfl _ _ (w.heap.size + 1) _ (zb 32) (0, 0) _ rfl (setRow_heap _ _ _ _ _ _ (unhide HZ)) Tryd.underlying41 rfl (by rw [zb_size]; exact Tryd.size_dig) _ rfl

set_option maxRecDepth 100000 in
set_option maxHeartbeats 400000 in
theorem rangeT_bad (z : Int) (t : Nat) (v : Value) (ps : List Pk) (lo hi : Int) (w : World) (hT : TreeAt z w t v ps) (hbad : hi < lo ∨ ((leavesK ps).length : Int) < hi) :
    Calls Tryd.prog 43 #[.pointer (some ⟨t, 0, none⟩), .int .u64 lo, .int .u64 hi] w fun e w' => e = .returned (.tuple #[.agg (zb 32), .int .i64 4]) ∧ Kept [] w w' := by
  have c1 := cell_of_row _ _ 1 _ _ _ hT.row
  simp at c1
  have k0 := ((Kept.refl [] w).alloc (.cells #[.pointer (some ⟨t, 0, none⟩)] 24)).alloc (.cells (zb 32) 41)
  have d1 := k0.cell c1 (by simp)
  obtain ⟨n, hn⟩ : ∃ n, (leavesK ps).length = n := ⟨_, rfl⟩
  rw [hn] at d1 hbad
  have HZ := hide (alloc2_at w (.cells #[.pointer (some ⟨t, 0, none⟩)] 24) (.cells (zb 32) 41))
  have HK := hide (k0.setRow (g := w.heap.size + 1) (Or.inr (by omega)) (zb 32))
  rw [← zb32] at d1
  clear c1 k0 hT
  by_cases h1 : hi < lo
  · go_enter Tryd.func43, Tryd.ntmps43
    go_wp2_with (rw [zb32]; refine wpList_store_row rfl 41 (.tmp 6) _ rfl (w.heap.size + 1) (zb 32) rfl rfl _ (zb 32) (unhide HZ) (by rw [zb_size]; exact Tryd.size_dig) rfl (brow_one _) ?_)
    refine bodyPost_ret (v := .tuple #[.agg (zb 32), .int .i64 4]) ?_ rfl ⟨rfl, unhide HK⟩
    exact results_cell_tmp rfl _ _ (w.heap.size + 1) _ (zb 32) (0, 0) _ rfl (setRow_heap _ _ _ _ _ _ (unhide HZ)) Tryd.underlying41 rfl (by rw [zb_size]; exact Tryd.size_dig) _ rfl
  · have h2 : (n : Int) < hi := by omega
    go_enter Tryd.func43, Tryd.ntmps43
    go_wp2_with (rw [zb32]; refine wpList_store_row rfl 41 (.tmp 6) _ rfl (w.heap.size + 1) (zb 32) rfl rfl _ (zb 32) (unhide HZ) (by rw [zb_size]; exact Tryd.size_dig) rfl (brow_one _) ?_)
    refine bodyPost_ret (v := .tuple #[.agg (zb 32), .int .i64 4]) ?_ rfl ⟨rfl, unhide HK⟩
    exact results_cell_tmp rfl _ _ (w.heap.size + 1) _ (zb 32) (0, 0) _ rfl (setRow_heap _ _ _ _ _ _ (unhide HZ)) Tryd.underlying41 rfl (by rw [zb_size]; exact Tryd.size_dig) _ rfl

set_option maxRecDepth 100000 in
set_option maxHeartbeats 400000 in
theorem rangeT_self (z : Int) (t : Nat) (v : Value) (ps : List Pk) (lo : Nat) (w : World) (hT : TreeAt z w t v ps) (hhn : lo ≤ (leavesK ps).length) (hTb : Tabs w) :
    Calls Tryd.prog 43 #[.pointer (some ⟨t, 0, none⟩), .int .u64 lo, .int .u64 lo] w fun e w' => e = .returned (.tuple #[.agg (brow (noT z)), .int .i64 0]) ∧ Kept [] w w' := by
  have c1 := cell_of_row _ _ 1 _ _ _ hT.row
  have c0 := cell_of_row _ _ 0 _ _ _ hT.row
  simp at c0 c1
  have hz := width_le hT.wid
  have k0 := ((Kept.refl [] w).alloc (.cells #[.pointer (some ⟨t, 0, none⟩)] 24)).alloc (.cells (zb 32) 41)
  have d1 := k0.cell c1 (by simp)
  have d0 := k0.cell c0 (by simp)
  obtain ⟨n, hn⟩ : ∃ n, (leavesK ps).length = n := ⟨_, rfl⟩
  rw [hn] at d1 hhn
  have hll : ¬ (n : Int) < lo := by omega
  have hlr : ¬ (lo : Int) < lo := by omega
  have HZ := hide (alloc2_at w (.cells #[.pointer (some ⟨t, 0, none⟩)] 24) (.cells (zb 32) 41))
  have HK0 := hide k0
  have HNO := hide (by
    have h9 := nolog_all z _ (by omega) (hTb.kept k0 (by simp) (by simp))
    rw [show sumE z = 0 from if_pos hT.wid] at h9
    exact h9 : Calls Tryd.prog 57 #[.int .i64 z] ((w.alloc (.cells #[.pointer (some ⟨t, 0, none⟩)] 24)).alloc (.cells (zb 32) 41)) fun e w' => e = .returned (.tuple #[.agg (brow (noT z)), .int .i64 ((0 : Nat) : Int)]) ∧ Kept [] _ w')
  have hdl := (noT_dg z).1
  generalize noT z = D at HNO hdl ⊢
  rw [← zb32] at d1 d0
  clear c1 c0 k0 hT
  go_enter Tryd.func43, Tryd.ntmps43
  go_wp2_with fail
  rw [zb32]
  refine (unhide HNO).mono ?_
  rintro e w2 ⟨rfl, k2⟩
  have HZ2 := hide (k2.heap (unhide HZ) (by simp))
  have HK2 := hide (((unhide HK0).trans k2 (by simp)).setRow (g := w.heap.size + 1) (Or.inr (by omega)) (brow D))
  clear k2
  go_wp2_with (refine wpList_store_row rfl 41 (.tmp 6) _ rfl (w.heap.size + 1) (brow D) rfl rfl _ (zb 32) (unhide HZ2) (by rw [brow_size, hdl]; exact Tryd.size_dig) (by rw [zb_size, brow_size, hdl]) (brow_one _) ?_)
  refine bodyPost_ret (v := .tuple #[.agg (brow D), .int .i64 0]) ?_ rfl ⟨rfl, unhide HK2⟩
  exact results_cell_tmp rfl _ _ (w.heap.size + 1) _ (brow D) (0, 0) _ rfl (setRow_heap _ _ _ _ _ _ (unhide HZ2)) Tryd.underlying41 rfl (by rw [brow_size, hdl]; exact Tryd.size_dig) _ rfl

set_option maxRecDepth 100000 in
set_option maxHeartbeats 400000 in
theorem rangeT_any (z : Int) (t : Nat) (v : Value) (ps : List Pk) (lo hi : Nat) (w : World) (hT : TreeAt z w t v ps) (hlh : lo < hi) (hhn : hi ≤ (leavesK ps).length) (hb : (leavesK ps).length < 32768) (hTb : Tabs w) (h6 : Tab6 w) :
    Calls Tryd.prog 43 #[.pointer (some ⟨t, 0, none⟩), .int .u64 lo, .int .u64 hi] w fun e w' => e = .returned (.tuple #[.agg (brow (rngD z (noT z) (leavesK ps) lo hi)), .int .i64 0]) ∧ Kept [] w w' := by
  have c1 := cell_of_row _ _ 1 _ _ _ hT.row
  simp at c1
  have hlh1 : ¬ (hi : Int) < lo := by omega
  have hhn1 : ¬ ((leavesK ps).length : Int) < hi := by omega
  have hne1 : ¬ (lo : Int) = hi := by omega
  have k0 := ((Kept.refl [] w).alloc (.cells #[.pointer (some ⟨t, 0, none⟩)] 24)).alloc (.cells (zb 32) 41)
  have d1 := k0.cell c1 (by simp)
  rw [← zb32] at d1
  have G3 := alloc3_at w (.cells #[.pointer (some ⟨t, 0, none⟩)] 24) (.cells (zb 32) 41) (.cells #[.nilFunc] 97)
  have cS := cell_of_row _ _ 0 _ _ _ G3
  have fS := frozen_of_row _ _ 0 _ _ G3
  rw [show (#[Value.nilFunc] : Array Value)[0]? = some .nilFunc from rfl] at cS
  have k2 := k0.alloc (.cells #[sumV w.heap.size (w.heap.size + 1 + 1)] 97)
  have G4 := alloc3_at w (.cells #[.pointer (some ⟨t, 0, none⟩)] 24) (.cells (zb 32) 41) (.cells #[sumV w.heap.size (w.heap.size + 1 + 1)] 97)
  have GT := (((Kept.refl [] (w.alloc (.cells #[.pointer (some ⟨t, 0, none⟩)] 24))).alloc (.cells (zb 32) 41)).alloc (.cells #[sumV w.heap.size (w.heap.size + 1 + 1)] 97)).heap (heap_alloc_new w (.cells #[.pointer (some ⟨t, 0, none⟩)] 24)) (by simp)
  have GZ := ((Kept.refl [] ((w.alloc (.cells #[.pointer (some ⟨t, 0, none⟩)] 24)).alloc (.cells (zb 32) 41))).alloc (.cells #[sumV w.heap.size (w.heap.size + 1 + 1)] 97)).heap (alloc2_at w (.cells #[.pointer (some ⟨t, 0, none⟩)] 24) (.cells (zb 32) 41)) (by simp)
  have HSW := hide (⟨hT.old k2, GT, G4, hTb.kept k2 (by simp) (by simp), h6.kept k2⟩ : SumW z t v ps w.heap.size (w.heap.size + 1 + 1) _)
  have HGZ := hide GZ
  have HK2 := hide k2
  have hdl := (log_dg z (noT z) (((leavesK ps).drop lo).take (hi - lo)) (noT_dg z) (fun d hd => (hT.pk.leaves d (List.mem_of_mem_drop (List.mem_of_mem_take hd))).1)).1
  have HSM := hide (sumT_any z (noT z) (noT_dg z) (noT_form hT.wid) t v ps w.heap.size (w.heap.size + 1 + 1) (hi - lo) lo hi _ (Nat.le_refl _) hlh hhn hb (unhide HSW))
  obtain ⟨n, hn⟩ : ∃ n, (leavesK ps).length = n := ⟨_, rfl⟩
  rw [hn] at d1 hhn1
  obtain ⟨D, hD⟩ : ∃ D, rngD z (noT z) (leavesK ps) lo hi = D := ⟨_, rfl⟩
  have hdl2 : D.length = 32 := by rw [← hD]; exact hdl
  rw [hD] at HSM ⊢
  unfold sumV at HSM HK2 HGZ
  rw [← zb32] at cS fS
  clear c1 k0 k2 G3 G4 GT GZ hT hTb h6 hD HSW hdl hn hhn hb hlh
  go_enter Tryd.func43, Tryd.ntmps43
  go_wp2_with (rw [run_store _ _ _ _ _ (by rfl), cS]; simp only [fS, Bool.false_eq_true, if_false, Result.andThen_ok])
  rw [zb32]
  refine (unhide HSM).mono ?_
  rintro e w5 ⟨rfl, k5⟩
  have HZ5 := hide (k5.heap (unhide HGZ) (by simp))
  have HK5 := hide (((unhide HK2).trans k5 (by simp)).setRow (g := w.heap.size + 1) (Or.inr (by omega)) (brow D))
  clear k5 cS fS
  go_wp2_with (refine wpList_store_row rfl 41 (.tmp 6) _ rfl (w.heap.size + 1) (brow D) rfl rfl _ (zb 32) (unhide HZ5) (by rw [brow_size, hdl2]; exact Tryd.size_dig) (by rw [zb_size, brow_size, hdl2]) (brow_one _) ?_)
  refine bodyPost_ret (v := .tuple #[.agg (brow D), .int .i64 0]) ?_ rfl ⟨rfl, unhide HK5⟩
  exact results_cell_tmp rfl _ _ (w.heap.size + 1) _ (brow D) (0, 0) _ rfl (setRow_heap _ _ _ _ _ _ (unhide HZ5)) Tryd.underlying41 rfl (by rw [brow_size, hdl2]; exact Tryd.size_dig) _ rfl

/-- What Range answers: the digest and the error. -/
def rgD (z : Int) (L : List (List Nat)) (lo hi : Nat) : List Nat := if hi < lo ∨ L.length < hi then List.replicate 32 0 else rngD z (noT z) L lo hi
def rgE (L : List (List Nat)) (lo hi : Nat) : Int := if hi < lo ∨ L.length < hi then 4 else 0
theorem rangeT_all (z : Int) (t : Nat) (v : Value) (ps : List Pk) (lo hi : Nat) (w : World) (hT : TreeAt z w t v ps) (hb : (leavesK ps).length < 32768) (hTb : Tabs w) (h6 : Tab6 w) :
    Calls Tryd.prog 43 #[.pointer (some ⟨t, 0, none⟩), .int .u64 lo, .int .u64 hi] w fun e w' => e = .returned (.tuple #[.agg (brow (rgD z (leavesK ps) lo hi)), .int .i64 (rgE (leavesK ps) lo hi)]) ∧ Kept [] w w' := by
  unfold rgD rgE
  by_cases h : hi < lo ∨ (leavesK ps).length < hi
  · rw [if_pos h, if_pos h]
    exact rangeT_bad z t v ps lo hi w hT (by omega)
  · rw [if_neg h, if_neg h]
    rcases (by omega : lo = hi ∨ lo < hi) with rfl | h2
    · rw [rngD_self]
      exact rangeT_self z t v ps lo w hT (by omega) hTb
    · exact rangeT_any z t v ps lo hi w hT h2 (by omega) hb hTb h6
theorem rgD_len {z : Int} {w : World} {ps : List Pk} (h : PKs z w ps) (lo hi : Nat) : Dg (rgD z (leavesK ps) lo hi) := by
  unfold rgD
  split
  · exact ⟨by simp, by simp⟩
  · exact log_dg z (noT z) _ (noT_dg z) (fun d hd => (h.leaves d (List.mem_of_mem_drop (List.mem_of_mem_take hd))).1)

set_option maxRecDepth 100000 in
set_option maxHeartbeats 400000 in
theorem rootT_all (z : Int) (t : Nat) (v : Value) (ps : List Pk) (n : Nat) (w : World) (hT : TreeAt z w t v ps) (hb : (leavesK ps).length < 32768) (hTb : Tabs w) (h6 : Tab6 w) :
    Calls Tryd.prog 23 #[.pointer (some ⟨t, 0, none⟩), .int .u64 n] w fun e w' => e = .returned (.tuple #[.agg (brow (rgD z (leavesK ps) 0 n)), .int .i64 (rgE (leavesK ps) 0 n)]) ∧ Kept [] w w' := by
  have hdl := (rgD_len hT.pk 0 n).1
  have k0 := (Kept.refl [] w).alloc (.cells (zb 32) 41)
  have HR := hide (rangeT_all z t v ps 0 n _ (hT.old k0) hb (hTb.kept k0 (by simp) (by simp)) (h6.kept k0))
  have HZ := hide (heap_alloc_new w (.cells (zb 32) 41))
  have HK := hide k0
  generalize rgD z (leavesK ps) 0 n = D at HR hdl ⊢
  generalize rgE (leavesK ps) 0 n = E at HR ⊢
  clear k0 hT
  go_enter Tryd.func23, Tryd.ntmps23
  go_wp2_with fail
  rw [zb32]
  refine (unhide HR).mono ?_
  rintro e w5 ⟨rfl, k5⟩
  have HZ5 := hide (k5.heap (unhide HZ) (by simp))
  have HK5 := hide (((unhide HK).trans k5 (by simp)).setRow (g := w.heap.size) (Or.inr (Nat.le_refl _)) (brow D))
  clear k5
  go_wp2_with (refine wpList_store_row rfl 41 _ _ rfl w.heap.size (brow D) rfl rfl _ (zb 32) (unhide HZ5) (by rw [brow_size, hdl]; exact Tryd.size_dig) (by rw [zb_size, brow_size, hdl]) (brow_one _) ?_)
  refine bodyPost_ret (v := .tuple #[.agg (brow D), .int .i64 E]) ?_ rfl ⟨rfl, unhide HK5⟩
  exact results_cell_tmp rfl _ _ w.heap.size _ (brow D) (0, 0) _ rfl (setRow_heap _ _ _ _ _ _ (unhide HZ5)) Tryd.underlying41 rfl (by rw [brow_size, hdl]; exact Tryd.size_dig) _ rfl

set_option maxRecDepth 100000 in
set_option maxHeartbeats 400000 in
theorem rootT_nil (n : Int) (w : World) :
    Calls Tryd.prog 23 #[.pointer none, .int .u64 n] w fun e w' => e = .returned (.tuple #[.agg (zb 32), .int .i64 5]) ∧ Kept [] w w' := by
  have HZ := hide (heap_alloc_new w (.cells (zb 32) 41))
  have HK := hide ((Kept.refl [] w).alloc (.cells (zb 32) 41))
  go_enter Tryd.func23, Tryd.ntmps23
  go_wp2_with fail
  rw [zb32]
  refine (rangeT_nil 0 n _).mono ?_
  rintro e w5 ⟨rfl, k5⟩
  have HZ5 := hide (k5.heap (unhide HZ) (by simp))
  have HK5 := hide (((unhide HK).trans k5 (by simp)).setRow (g := w.heap.size) (Or.inr (Nat.le_refl _)) (zb 32))
  clear k5
  go_wp2_with (refine wpList_store_row rfl 41 _ _ rfl w.heap.size (zb 32) rfl rfl _ (zb 32) (unhide HZ5) (by rw [zb_size]; exact Tryd.size_dig) rfl (brow_one _) ?_)
  refine bodyPost_ret (v := .tuple #[.agg (zb 32), .int .i64 5]) ?_ rfl ⟨rfl, unhide HK5⟩
  exact results_cell_tmp rfl _ _ w.heap.size _ (zb 32) (0, 0) _ rfl (setRow_heap _ _ _ _ _ _ (unhide HZ5)) Tryd.underlying41 rfl (by rw [zb_size]; exact Tryd.size_dig) _ rfl
end Go.Proofs.YtecadmldnjlibaaDoor
namespace Go.Proofs.YtecadmldnjlibaaDoor
open Go.RowKit Go.BigFrame
set_option linter.unusedVariables false
set_option linter.unusedSimpArgs false

/-- What Leaf answers. -/
def lfD (L : List (List Nat)) (i : Nat) : List Nat := if L.length ≤ i then List.replicate 32 0 else L.getD i []
def lfE (L : List (List Nat)) (i : Nat) : Int := if L.length ≤ i then 4 else 0
theorem lfD_dg {z : Int} {w : World} {ps : List Pk} (h : PKs z w ps) (i : Nat) : Dg (lfD (leavesK ps) i) := by
  unfold lfD
  split
  · exact ⟨by simp, by simp⟩
  · rename_i h1
    rw [List.getD_eq_getElem?_getD, List.getElem?_eq_getElem (by omega)]
    exact (h.leaves _ (List.getElem_mem _)).1

set_option maxRecDepth 100000 in
set_option maxHeartbeats 400000 in
theorem leafT_nil (i : Int) (w : World) :
    Calls Tryd.prog 29 #[.pointer none, .int .u64 i] w fun e w' => e = .returned (.tuple #[.agg (zb 32), .int .i64 5]) ∧ Kept [] w w' := by
  have HZ := hide (heap_alloc_new w (.cells (zb 32) 41))
  have HK := hide (((Kept.refl [] w).alloc (.cells (zb 32) 41)).setRow (g := w.heap.size) (Or.inr (Nat.le_refl _)) (zb 32))
  go_enter Tryd.func29, Tryd.ntmps29
  go_wp2_with (rw [zb32]; refine wpList_store_row rfl 41 _ _ rfl w.heap.size (zb 32) rfl rfl _ (zb 32) (unhide HZ) (by rw [zb_size]; exact Tryd.size_dig) rfl (brow_one _) ?_)
  refine bodyPost_ret (v := .tuple #[.agg (zb 32), .int .i64 5]) ?_ rfl ⟨rfl, unhide HK⟩
  exact results_cell_tmp rfl _ _ w.heap.size _ (zb 32) (0, 0) _ rfl (setRow_heap _ _ _ _ _ _ (unhide HZ)) Tryd.underlying41 rfl (by rw [zb_size]; exact Tryd.size_dig) _ rfl

set_option maxRecDepth 100000 in
set_option maxHeartbeats 400000 in
theorem leafT_all (z : Int) (t : Nat) (v : Value) (ps : List Pk) (i : Nat) (w : World) (hT : TreeAt z w t v ps) (hb : (leavesK ps).length < 32768) :
    Calls Tryd.prog 29 #[.pointer (some ⟨t, 0, none⟩), .int .u64 i] w fun e w' => e = .returned (.tuple #[.agg (brow (lfD (leavesK ps) i)), .int .i64 (lfE (leavesK ps) i)]) ∧ Kept [] w w' := by
  have hdl := (lfD_dg hT.pk i).1
  have c1 := cell_of_row _ _ 1 _ _ _ hT.row
  simp at c1
  have k0 := (Kept.refl [] w).alloc (.cells (zb 32) 41)
  have d1 := k0.cell c1 (by simp)
  have HZ := hide (heap_alloc_new w (.cells (zb 32) 41))
  have HK := hide k0
  rw [← zb32] at d1
  by_cases h : (leavesK ps).length ≤ i
  · have e1 : lfD (leavesK ps) i = List.replicate 32 0 := if_pos h
    have e2 : lfE (leavesK ps) i = 4 := if_pos h
    rw [e1, e2]
    have h' : ((leavesK ps).length : Int) ≤ i := by omega
    generalize (leavesK ps).length = n at d1 h'
    clear e1 e2 h hdl hb c1 k0 hT
    show Calls Tryd.prog 29 #[.pointer (some ⟨t, 0, none⟩), .int .u64 i] w fun e w' => e = .returned (.tuple #[.agg (zb 32), .int .i64 4]) ∧ Kept [] w w'
    go_enter Tryd.func29, Tryd.ntmps29
    go_wp2_with (rw [zb32]; refine wpList_store_row rfl 41 _ _ rfl w.heap.size (zb 32) rfl rfl _ (zb 32) (unhide HZ) (by rw [zb_size]; exact Tryd.size_dig) rfl (brow_one _) ?_)
    refine bodyPost_ret (v := .tuple #[.agg (zb 32), .int .i64 4]) ?_ rfl ⟨rfl, (unhide HK).setRow (g := w.heap.size) (Or.inr (Nat.le_refl _)) (zb 32)⟩
    exact results_cell_tmp rfl _ _ w.heap.size _ (zb 32) (0, 0) _ rfl (setRow_heap _ _ _ _ _ _ (unhide HZ)) Tryd.underlying41 rfl (by rw [zb_size]; exact Tryd.size_dig) _ rfl
  · have e2 : lfE (leavesK ps) i = 0 := if_neg h
    rw [e2]
    have h' : ¬ ((leavesK ps).length : Int) ≤ i := by omega
    have HKE := hide (by
      have h9 := keptT_any z t v ps i 0 _ (hT.old k0) (by simp; omega) (by simp) hb
      have e3 : perT z 0 (((leavesK ps).drop i).take (2 ^ 0)) = lfD (leavesK ps) i := by
        unfold lfD
        rw [if_neg h]
        simp [perT, List.getD_eq_getElem?_getD, List.getElem?_drop, List.getElem?_take]
      rw [e3] at h9
      exact h9 : Calls Tryd.prog 47 #[.pointer (some ⟨t, 0, none⟩), .int .u64 i, .int .i64 ((0 : Nat) : Int)] (w.alloc (.cells (zb 32) 41)) fun e w' => e = .returned (.agg (brow (lfD (leavesK ps) i))) ∧ Kept [] _ w')
    generalize (leavesK ps).length = n at d1 h'
    generalize lfD (leavesK ps) i = D at HKE hdl ⊢
    clear e2 h hb c1 k0 hT
    go_enter Tryd.func29, Tryd.ntmps29
    go_wp2_with fail
    rw [zb32]
    refine (unhide HKE).mono ?_
    rintro e w5 ⟨rfl, k5⟩
    have HZ5 := hide (k5.heap (unhide HZ) (by simp))
    have HK5 := hide (((unhide HK).trans k5 (by simp)).setRow (g := w.heap.size) (Or.inr (Nat.le_refl _)) (brow D))
    clear k5
    go_wp2_with (refine wpList_store_row rfl 41 _ _ rfl w.heap.size (brow D) rfl rfl _ (zb 32) (unhide HZ5) (by rw [brow_size, hdl]; exact Tryd.size_dig) (by rw [zb_size, brow_size, hdl]) (brow_one _) ?_)
    refine bodyPost_ret (v := .tuple #[.agg (brow D), .int .i64 0]) ?_ rfl ⟨rfl, unhide HK5⟩
    exact results_cell_tmp rfl _ _ w.heap.size _ (brow D) (0, 0) _ rfl (setRow_heap _ _ _ _ _ _ (unhide HZ5)) Tryd.underlying41 rfl (by rw [brow_size, hdl]; exact Tryd.size_dig) _ rfl
end Go.Proofs.YtecadmldnjlibaaDoor
/-
  A row in the midst of a block, read within a quiet walk.
-/
namespace Go.Proofs.YtecadmldnjlibaaDoor
open Go Go.RowKit Go.BigFrame

theorem wpQuiet_mid {P : Program} {ops : Array Oper} {C : World → Prop} {Q : Act → Prop} {a : Act} {o : Oper} {rest : List Oper} (hw : Region.wanted o (yielded ops a.tmps) = true) (ty : TypeId) (x : Operand) (ho : o.op = .load ty x)
    (b off : Nat) (hx : a.eval x = .pointer (some ⟨b, off, none⟩)) (cs : List Value) (d : TypeDesc) (hg : ∀ w, C w → w.rangeAt b off cs)
    (hu : P.underlying ty = some d) (hd : d.isRow = true) (hi : (P.info? ty).map (·.size) = some cs.length)
    (h : wpQuiet P ops C Q rest (a.put o.dst (.agg cs.toArray))) : wpQuiet P ops C Q (o :: rest) a := by
  refine wpQuiet_want hw fun K hK => ⟨.agg cs.toArray, fun w hw => ?_, hK _ h⟩
  unfold Oper.quietAt execOp
  simp only [ho]
  have := run_loadVar_mid (P := P) w b off ty cs d (hg w hw) hu hd hi
  simp only [hx, Instr.loadAt, Instr.sureAddr, Sem.run_bind, Sem.run_pure, Result.andThen_ok, this, Oper.quietUpon, and_self]
end Go.Proofs.YtecadmldnjlibaaDoor
namespace Go.Proofs.YtecadmldnjlibaaDoor
open Go.RowKit Go.BigFrame
set_option linter.unusedVariables false
set_option linter.unusedSimpArgs false

theorem RdD.upto {w : World} {ao : Option Addr} {len cap : Nat} {ds : List (List Nat)} (h : RdD w (.slice ao len cap) ds) (k : Nat) (hk : k ≤ len) : RdD w (.slice ao k cap) (ds.take k) := by
  obtain ⟨ao', len', cap', e, h1, h2, h3, h4, h5⟩ := h
  cases e
  refine ⟨ao, k, cap, rfl, by rw [List.length_take]; omega, by omega, h3, fun d hd => h4 d (List.mem_of_mem_take hd), fun hp => ?_⟩
  obtain ⟨b, off, rfl, hc⟩ := h5 (by omega)
  refine ⟨b, off, rfl, fun i hi => ?_⟩
  rw [List.getD_eq_getElem?_getD, List.getElem?_take_of_lt hi, ← List.getD_eq_getElem?_getD]
  exact hc i (by omega)
theorem RdD.dg {w : World} {v : Value} {ds : List (List Nat)} (h : RdD w v ds) {d : List Nat} (hd : d ∈ ds) : Dg d := by
  obtain ⟨ao', len', cap', e, h1, h2, h3, h4, h5⟩ := h
  exact h4 d hd
/-- What stands ahead of the last, and that one. -/
theorem last_cut {ds : List (List Nat)} {x : List Nat} {r : List (List Nat)} (h : ds.reverse = x :: r) : ds = r.reverse ++ [x] ∧ ds.length = r.length + 1 := by
  have h2 := congrArg List.reverse h
  simp only [List.reverse_reverse, List.reverse_cons] at h2
  refine ⟨h2, ?_⟩
  rw [h2]; simp

theorem results_tmp_cell {P : Program} {fn : Func} {p q : Tmp} {ty : TypeId} (h : fn.results = #[.tmp q, .cell p ty]) (tmps : Array Value) (w : World) (g : Nat) (t : TypeId) (cs : Array Value) (fr : Nat × Nat) (d : TypeDesc)
    (hp : tmps.getD p undef = .pointer (some ⟨g, 0, none⟩)) (hg : w.heap[g]? = some (.cells cs t fr))
    (hu : P.underlying ty = some d) (hd : (match d with | .struct _ | .array _ _ => true | _ => false) = true) (hi : (P.info? ty).map (·.size) = some cs.size) (v : Value) (hq : tmps.getD q undef = v) :
    (results fn tmps).run P w = .ok (.tuple #[v, .agg cs]) w := by
  have hp' : tmps[p]?.getD undef = .pointer (some ⟨g, 0, none⟩) := by simpa using hp
  have hq' : tmps[q]?.getD undef = v := by simpa using hq
  simp [results, h, hp', hq', asAddr, run_loadVar_row w g t ty cs fr d hg hu hd hi]
theorem formedE_two {z : Int} {l m : List Nat} (hw : widthB z = true) (hl : formB z l = true) (hm : formB z m = true) : formedE z [l, m] = 0 := by simp [formedE, hw, hl, hm]

set_option maxRecDepth 100000 in
set_option maxHeartbeats 1000000 in
theorem refNode_any (k : Nat) (l m : List Nat) (w : World) (hk : 1 ≤ k ∧ k ≤ 32) (hl : Dg l) (hm : Dg m) :
    Calls Tryd.prog 30 #[.int .i64 k, .agg (brow l), .agg (brow m)] w fun e w' => e = .returned (.agg (brow (nodS k l m))) ∧ Kept [] w w' := by
  have HE := hide (by unfold nodS sumD; rw [if_pos (by simp [widthB]; omega), Int.toNat_natCast] : nodS (k : Int) l m = cutL k (hash (nodeB k l m)))
  obtain ⟨D, hD⟩ : ∃ D, nodS (k : Int) l m = D := ⟨_, rfl⟩
  have hcl : D.length = 32 := by rw [← hD]; exact (nodS_dg _ l m).1
  rw [hD] at HE ⊢
  clear hD
  have HL := hide hl
  have HM := hide hm
  clear hl hm
  go_enter Tryd.func30, Tryd.ntmps30
  have HK0 := hide ((((Kept.refl [] w).alloc (.cells (brow l) 41)).alloc (.cells (brow m) 41)).alloc (.cells (zb 32) 41))
  have HGZ := hide (alloc3_at w (.cells (brow l) 41) (.cells (brow m) 41) (.cells (zb 32) 41))
  have HGM := hide (((Kept.refl [] ((w.alloc (.cells (brow l) 41)).alloc (.cells (brow m) 41))).alloc (.cells (zb 32) 41)).heap (alloc_at w (.cells (brow l) 41) (.cells (brow m) 41)) (by simp))
  have HGL := hide ((((Kept.refl [] (w.alloc (.cells (brow l) 41))).alloc (.cells (brow m) 41)).alloc (.cells (zb 32) 41)).heap (heap_alloc_new w (.cells (brow l) 41)) (by simp))
  have HSL := hide (by rw [List.length_map, (unhide HL).1]; exact Tryd.size_dig : (Tryd.prog.info? 41).map (·.size) = some (l.map u8).length)
  have HSM := hide (by rw [List.length_map, (unhide HM).1]; exact Tryd.size_dig : (Tryd.prog.info? 41).map (·.size) = some (m.map u8).length)
  go_wp2_with (first
    | (refine wpList_load_mid rfl 41 _ rfl w.heap.size 0 rfl (l.map u8) _ (range_row (unhide HGL)) Tryd.underlying41 rfl (unhide HSL) ?_)
    | (refine wpList_load_mid rfl 41 _ rfl (w.heap.size + 1) 0 rfl (m.map u8) _ (range_row (unhide HGM)) Tryd.underlying41 rfl (unhide HSM) ?_))
  rw [zb32]
  refine Calls.mono (refNodeInput_any k l m _ hk (unhide HL).1 (unhide HM).1 (unhide HL).2 (unhide HM).2) ?_
  rintro e w1 ⟨v1, rfl, r1, k1⟩
  have HR1 := hide r1
  obtain ⟨a1, m1, c1, rfl, _⟩ := id r1
  have HZ1 := hide (k1.heap (unhide HGZ) (by simp))
  have HK1 := hide ((unhide HK0).trans k1 (by simp))
  clear k1 r1 HGL HGM
  go_wp2_with fail
  refine Calls.mono (refCut_any k _ (nodeB k l m) _ (unhide HR1) hk.2) ?_
  rintro e w2 ⟨rfl, k2⟩
  rw [← unhide HE]
  have HZ2 := hide (k2.heap (unhide HZ1) (by simp))
  have HK2 := hide ((unhide HK1).trans k2 (by simp))
  clear k2
  go_wp2_with (refine wpList_store_row rfl 41 _ _ rfl (w.heap.size + 1 + 1) (brow D) rfl rfl _ (zb 32) (unhide HZ2) (by rw [brow_size, hcl]; exact Tryd.size_dig) (by rw [zb_size, brow_size, hcl]) (brow_one _) ?_)
  refine bodyPost_ret (v := .agg (brow D)) ?_ rfl ⟨rfl, (unhide HK2).setRow (Or.inr (by omega)) _⟩
  exact results_cell_row rfl _ _ (w.heap.size + 1 + 1) _ (brow D) (0, 0) _ rfl (setRow_heap _ _ _ _ _ _ (unhide HZ2)) Tryd.underlying41 rfl (by rw [brow_size, hcl]; exact Tryd.size_dig)

theorem spl_of {n k : Nat} (h2 : 2 ≤ n) (j : Nat) (hk : k = 2 ^ j) (hlt : k < n) (hge : n ≤ 2 * k) : spl n = k := by
  subst hk
  unfold spl
  have : (n - 1).log2 = j := by
    have a1 : 2 ^ j ≤ n - 1 := by omega
    have a2 : n - 1 < 2 ^ (j + 1) := by rw [Nat.pow_succ]; omega
    exact (Nat.log2_eq_iff (by omega)).2 ⟨a1, a2⟩
  rw [this]

end Go.Proofs.YtecadmldnjlibaaDoor
