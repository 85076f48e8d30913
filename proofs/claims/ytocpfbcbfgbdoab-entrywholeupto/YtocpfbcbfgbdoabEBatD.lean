import Derived.Test.YtocpfbcbfgbdoabEBatR
namespace Go.Proofs.Ytocpfbcbfgbdoab
open Go.RowKit Go.BigFrame
set_option linter.unusedVariables false
set_option linter.unusedSimpArgs false

def tri (n : Nat) : Prop := n = 0 ∨ n = 2 ∨ n = 3
theorem chkE_tri (e : En) : tri (chkE e) := by
  unfold chkE tri; split
  · simp
  · split <;> simp
theorem cntE_tri (f n : Nat) : tri (cntE f n) := by
  unfold cntE tri; split
  · simp
  · split <;> simp
theorem least_tri {a b : Nat} (ha : tri a) (hb : tri b) : tri (leastE a b) := by
  unfold leastE; split
  · exact hb
  · exact ha
theorem fold_tri (es : List En) : ∀ z, tri z → tri (es.foldl (fun a e => leastE a (chkE e)) z) := by
  induction es with
  | nil => intro z h; exact h
  | cons x xs ih => intro z h; exact ih _ (least_tri h (chkE_tri x))
theorem least_two {b : Nat} (hb : tri b) : leastE 2 b = 2 := by
  unfold leastE
  rcases hb with h | h | h <;> subst h <;> rfl
theorem least_two' {a : Nat} (ha : tri a) : leastE a 2 = 2 := by
  unfold leastE
  rcases ha with h | h | h <;> subst h <;> rfl
theorem fold_two (es : List En) : es.foldl (fun a e => leastE a (chkE e)) 2 = 2 := by
  induction es with
  | nil => rfl
  | cons x xs ih => rw [List.foldl_cons, least_two (chkE_tri x)]; exact ih
theorem chkB_long {f : Nat} {es : List En} (h : 64 < es.length) : chkB f es = 2 := by
  unfold chkB
  rw [show cntE f es.length = 2 by unfold cntE; rw [if_pos h]]
  exact fold_two es
theorem chkB_at {f : Nat} {es : List En} (i : Nat) (h : i < es.length) (h2 : chkE es[i] = 2) : chkB f es = 2 := by
  unfold chkB
  have e : es = es.take i ++ (es[i] :: es.drop (i + 1)) := by
    rw [← List.drop_eq_getElem_cons h, List.take_append_drop]
  conv => lhs; rw [e, List.foldl_append, List.foldl_cons]
  rw [← e, h2, least_two' (fold_tri _ _ (cntE_tri _ _))]
  exact fold_two _
theorem least_max {a b : Nat} (ha : tri a) (ha2 : a ≠ 2) (hb : tri b) (hb2 : b ≠ 2) : leastE a b = max a b := by
  unfold leastE
  rcases ha with h | h | h <;> rcases hb with h' | h' | h' <;> subst h <;> subst h' <;> first | rfl | (exact absurd rfl ha2) | (exact absurd rfl hb2)

set_option maxRecDepth 100000 in
set_option maxHeartbeats 1000000 in
theorem fits5_any (f n : Nat) (w : World) (hf : f < 18446744073709551616) (hn : n < 9223372036854775808) :
    Calls Try.prog 57 #[.int .u64 f, .int .i64 n] w fun r w' => r = .returned (.bool (decide (f + n < 18446744073709551616))) ∧ w' = w := by
  have h1 : IntKind.u64.wrap (n : Int) = n := by simp [IntKind.wrap, IntKind.signed, IntKind.bits]; omega
  by_cases h : f + n < 18446744073709551616
  · have h2 : IntKind.u64.wrap ((f : Int) + n) = f + n := by simp [IntKind.wrap, IntKind.signed, IntKind.bits]; omega
    have h2' : ((f : Int) + n) % 18446744073709551616 = f + n := by omega
    have h3 : (f : Int) ≤ f + n := by omega
    have HD := hide (decide_eq_true h)
    go_enter Try.func57, Try.ntmps57
    go_wp2
    go_ret
    exact ⟨by first | rfl | (rw [unhide HD]; rfl), rfl⟩
  · have h2 : IntKind.u64.wrap ((f : Int) + n) = f + n - 18446744073709551616 := by simp [IntKind.wrap, IntKind.signed, IntKind.bits]; omega
    have h2' : ((f : Int) + n) % 18446744073709551616 = f + n - 18446744073709551616 := by omega
    have h3 : ¬ (f : Int) ≤ f + n - 18446744073709551616 := by omega
    have HD := hide (decide_eq_false h)
    go_enter Try.func57, Try.ntmps57
    go_wp2
    go_ret
    exact ⟨by first | rfl | (rw [unhide HD]; rfl), rfl⟩

end Go.Proofs.Ytocpfbcbfgbdoab
