import Derived.Test.YtjiijfcfapfmeaaDoorSReg
import Derived.Test.YtjiijfcfapfmeaaDoorSAw
import Derived.Test.YtjiijfcfapfmeaaDoorTTwin
namespace Go.Proofs.YtjiijfcfapfmeaaDoor
open Go Go.RowKit Go.BigFrame
set_option linter.unusedVariables false
set_option linter.unusedSimpArgs false

theorem Tabs.k {w w' : World} (h : Tabs w) (k : Kept [] w w') : Tabs w' := h.kept k (by simp) (by simp)

theorem wp_ssum {o : Oper} {a : Act} {w : World} {K : Act → World → Prop} {Q : Exit → Act → World → Prop} (x0 : Operand) (ts : Array TypeId) (ho : o.op = .call { callee := .value (.func 7), args := #[x0], argTypes := ts }) (g : Nat) (t : List Nat)
    (e0 : a.eval x0 = .pointer (some ⟨g, 0, none⟩)) (hst : St w g t) (hl : t.length < 9223372036854775000) (hT : Tabs w)
    (h : ∀ w1, Kept [] w w1 → K (a.put o.dst (.agg (brow (hash t)))) w1) : o.wp Tryd.prog a w K Q := by
  unfold Oper.wp execOp
  simp only [ho]
  have hf : a.eval (.func 7) = .func (.func 7) #[] #[] := rfl
  have hcl : ∀ args W, (callFunc 7 args).run Tryd.prog W = .ok (.enter 7 args) W := fun args W => Tryd.call7 args W
  simp only [resolve, invoke, hf, e0, Sem.run_bind, Sem.run_pure, Result.andThen_ok, List.map_toArray, List.map_cons, List.map_nil, hcl]
  simp [Deferred.ofValue, hcl, go_sem]
  refine (ssum_any g t w hst hl hT).mono ?_
  rintro e w2 ⟨rfl, k2⟩
  exact h w2 k2

theorem wp_ttwin {o : Oper} {a : Act} {w : World} {K : Act → World → Prop} {Q : Exit → Act → World → Prop} (x0 : Operand) (ts : Array TypeId) (ho : o.op = .call { callee := .value (.func 9), args := #[x0], argTypes := ts }) (v : Value) (p : List Nat)
    (e0 : a.eval x0 = v) (hr : Rd w v p) (hl : p.length ≤ 140737488351232)
    (h : ∀ u w1, (∃ ao cap B, u = .slice ao p.length cap ∧ w.heap.size ≤ B ∧ B ≤ w1.heap.size ∧ w1.ownsRow B 5 1 u p.length (p.map u8)) → Kept [] w w1 → K (a.put o.dst u) w1) : o.wp Tryd.prog a w K Q := by
  unfold Oper.wp execOp
  simp only [ho]
  have hf : a.eval (.func 9) = .func (.func 9) #[] #[] := rfl
  have hcl : ∀ args W, (callFunc 9 args).run Tryd.prog W = .ok (.enter 9 args) W := fun args W => Tryd.call9 args W
  simp only [resolve, invoke, hf, e0, Sem.run_bind, Sem.run_pure, Result.andThen_ok, List.map_toArray, List.map_cons, List.map_nil, hcl]
  simp [Deferred.ofValue, hcl, go_sem]
  refine (ttwin_any v p w hr hl).mono ?_
  rintro e w2 ⟨ao, cap, rfl, o2, k2⟩
  exact h _ w2 ⟨ao, cap, w.heap.size, rfl, Nat.le_refl _, k2.size, o2⟩ k2

theorem wp_sum256 {o : Oper} {a : Act} {w : World} {K : Act → World → Prop} {Q : Exit → Act → World → Prop} (x0 : Operand) (ts : Array TypeId) (ho : o.op = .call { callee := .value (.func 5), args := #[x0], argTypes := ts }) (v : Value) (p : List Nat)
    (e0 : a.eval x0 = v) (hr : Rd w v p) (hl : p.length ≤ 140737488355328) (hT : Tabs w)
    (h : ∀ w1, Kept [] w w1 → K (a.put o.dst (.agg (brow (hash p)))) w1) : o.wp Tryd.prog a w K Q := by
  unfold Oper.wp execOp
  simp only [ho]
  have hf : a.eval (.func 5) = .func (.func 5) #[] #[] := rfl
  have hcl : ∀ args W, (callFunc 5 args).run Tryd.prog W = .ok (.enter 5 args) W := fun args W => Tryd.call5 args W
  simp only [resolve, invoke, hf, e0, Sem.run_bind, Sem.run_pure, Result.andThen_ok, List.map_toArray, List.map_cons, List.map_nil, hcl]
  simp [Deferred.ofValue, hcl, go_sem]
  refine (sum256_any v p w hr hl hT).mono ?_
  rintro e w2 ⟨rfl, k2⟩
  exact h w2 k2

theorem wp_appB {o : Oper} {a : Act} {w : World} {K : Act → World → Prop} {Q : Exit → Act → World → Prop} (s x : Operand)
    (ho : o.op = .call { callee := .builtin .append, args := #[s, x], argTypes := #[22, 22] }) (hty : o.type = 22)
    (base : Nat) (v : Value) (bs p : List Nat) (ao : Option Addr) (n c : Nat) (h : w.ownsRow base 5 1 v bs.length (bs.map u8)) (hr : Rd w (.slice ao n c) p) (hl : bs.length + p.length ≤ 140737488355328) (hb : base ≤ w.heap.size)
    (hs : a.eval s = v) (hx : a.eval x = .slice ao n c)
    (hK : ∀ ao' cap' w1, w1.ownsRow base 5 1 (.slice ao' (bs.length + p.length) cap') (bs ++ p).length ((bs ++ p).map u8) → w.grownBy w1 v.ownBlock → K (a.put o.dst (.slice ao' (bs.length + p.length) cap')) w1) :
    o.wp Tryd.prog a w K Q := by
  obtain ⟨ao', cap', w1, hrun, h2, h3, h4⟩ := appendAll w base v bs p ao n c h hr hl hb
  unfold Oper.wp execOp
  simp only [ho, hty, resolve, invoke, builtin, Sem.run_bind, Sem.run_pure, Result.andThen_ok, List.map_toArray, List.map_cons, List.map_nil, hs, hx, hrun]
  exact hK ao' cap' w1 h2 h3

theorem wp_build3 {o : Oper} {a : Act} {w : World} {K : Act → World → Prop} {Q : Exit → Act → World → Prop} (ho : o.op = .buildSlice 22 3 #[(0, .const (.int .u8 1)), (1, .const (.int .u8 2)), (2, .const (.int .u8 3))])
    (h : K (a.put o.dst (.slice (some ⟨w.heap.size, 0, none⟩) 3 3)) (w.alloc (.cells #[.int .u8 1, .int .u8 2, .int .u8 3] 5))) : o.wp Tryd.prog a w K Q := by
  unfold Oper.wp execOp
  simp only [ho]
  go_simp
  exact h
end Go.Proofs.YtjiijfcfapfmeaaDoor
