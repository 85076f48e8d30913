import Derived.Test.YtbljofojeagdkaaDoorMTKept
import Derived.Test.YtbljofojeagdkaaDoorQRng
namespace Go.Proofs.YtbljofojeagdkaaDoor
open Go.RowKit Go.BigFrame
set_option linter.unusedVariables false
set_option linter.unusedSimpArgs false

theorem wp_callC {o : Oper} {a : Act} {w : World} {K : Act → World → Prop} {Q : Exit → Act → World → Prop} {f : FuncId} {c : Operand} {xs : Array Operand} {ts : Array TypeId} (ho : o.op = .call { callee := .value c, args := xs, argTypes := ts })
    (cap : Array Value) (hc0 : a.eval c = .func (.func f) #[] cap)
    (hcl : ∀ args W, (callFunc f args).run Tryd.prog W = .ok (.enter f args) W) (us : List Value) (he : xs.toList.map a.eval = us) {R : Ending → World → Prop}
    (hc : Calls Tryd.prog f (us.toArray ++ cap) w R) (h : ∀ e w', R e w' → ∃ v, e = .returned v ∧ K (a.put o.dst v) w') : o.wp Tryd.prog a w K Q := by
  have he2 : xs.map a.eval = us.toArray := by rw [← he]; cases xs; simp only [List.map_toArray]
  unfold Oper.wp execOp
  simp only [ho]
  simp only [resolve, invoke, hc0, he2, Sem.run_bind, Sem.run_pure, Result.andThen_ok, hcl]
  simp [Deferred.ofValue, hcl, go_sem]
  refine hc.mono ?_
  intro e w2 h2
  obtain ⟨v, rfl, h3⟩ := h e w2 h2
  exact h3
theorem Tryd.callSum : ∀ args W, (callFunc 59 args).run Tryd.prog W = .ok (.enter 59 args) W := by
  intro args W
  exact Tryd.call59 args W

theorem pow_all (x : Nat) (hx : x < 32768) (h : x &&& (x - 1) = 0) (h0 : x ≠ 0) : x = 2 ^ Lib.ctz 64 x := by
  obtain ⟨m, hm⟩ := ctz_form (M := x) h0 (by omega)
  generalize Lib.ctz 64 x = c at hm ⊢
  have hp : 1 ≤ 2 ^ c := Nat.one_le_two_pow
  have hps : 2 ^ (c + 1) = 2 * 2 ^ c := by rw [Nat.pow_succ]; omega
  have e0 : x = 2 ^ (c + 1) * m + 2 ^ c := by
    rw [hm, hps, Nat.mul_add, Nat.mul_one, Nat.mul_left_comm, Nat.mul_assoc]
  have e1 : x / 2 ^ (c + 1) = m := by
    rw [e0, Nat.mul_add_div (by omega), Nat.div_eq_of_lt (by omega), Nat.add_zero]
  have e2 : (x - 1) / 2 ^ (c + 1) = m := by
    rw [show x - 1 = 2 ^ (c + 1) * m + (2 ^ c - 1) by omega, Nat.mul_add_div (by omega), Nat.div_eq_of_lt (by omega), Nat.add_zero]
  have e3 : (x &&& (x - 1)) / 2 ^ (c + 1) = m := by rw [Nat.and_div_two_pow, e1, e2, Nat.and_self]
  rw [h, Nat.zero_div] at e3
  rw [hm, ← e3]
  simp
theorem log_dg (z : Int) (no : List Nat) (l : List (List Nat)) (hn : Dg no) (hl : ∀ d ∈ l, Dg d) : Dg (logT z no l) := by
  by_cases h0 : l.length = 0
  · rw [List.eq_nil_of_length_eq_zero h0]; exact hn
  · by_cases h1 : l.length = 1
    · obtain ⟨x, rfl⟩ : ∃ x, l = [x] := by
        cases l with
        | nil => simp at h1
        | cons x r => cases r with
          | nil => exact ⟨x, rfl⟩
          | cons y r => simp at h1
      rw [logT_one]; exact hl x (by simp)
    · rw [logT_cut z no l (by omega)]; exact nodS_dg z _ _
theorem log_form (z : Int) (no : List Nat) (l : List (List Nat)) (hw : widthB z = true) (hn : formB z no = true) (hl : ∀ d ∈ l, formB z d = true) : formB z (logT z no l) = true := by
  by_cases h0 : l.length = 0
  · rw [List.eq_nil_of_length_eq_zero h0]; exact hn
  · by_cases h1 : l.length = 1
    · obtain ⟨x, rfl⟩ : ∃ x, l = [x] := by
        cases l with
        | nil => simp at h1
        | cons x r => cases r with
          | nil => exact ⟨x, rfl⟩
          | cons y r => simp at h1
      rw [logT_one]; exact hl x (by simp)
    · rw [logT_cut z no l (by omega)]; exact nodS_form hw _ _
end Go.Proofs.YtbljofojeagdkaaDoor
