import Derived.Test.YtaflchnipcmpoaaTop
import Derived.Test.YtaflchnipcmpoaaOpenB
import Derived.Test.YtaflchnipcmpoaaOpenK
import Derived.ShutString
import Derived.ChangeOld
import Derived.JoinedCond
namespace Go.Proofs.Ytaflchnipcmpoaa
open Go.ChangeShapes Go.WideShapes Go.ChangeAt Go.RowKit
set_option linter.unusedVariables false
set_option linter.unusedSimpArgs false

set_option maxRecDepth 100000 in
theorem diskLeaves_contract (H : Type) (enc : TypeId × Value → H) (W : World) (base : Nat) (args : Array Value) (ds gs : List (DataW H)) (before : List MemPlace)
    (hval : ∀ (j : Nat) t v, Try.f7.params[j]? = some t → args[j]? = some v → Value.okWide Try.prog W .any base t v)
    (hW : DataW.Whole enc Try.prog Try.f7.params.toList Rows.diskLeavesSpec.vars false W args.toList ds gs before) (hk : Rows.uptoSmall H (ds ++ gs) = true) :
    Calls Try.prog 7 args W fun e W' => ∃ v, e = .returned v ∧ Rows.diskLeavesSpec.post enc Try.prog Try.f7 false true false false W args v W' := by
  have hW' := hW
  obtain ⟨p, q, hA0, hV, rfl, hfz, hnd⟩ := hW
  have hA : DataW.TrodAll enc Try.prog W 0 (fun _ => true) true Try.f7.params.toList args.toList ds p := hA0
  rw [Try.params7] at hA hval
  obtain ⟨v0, vs0, d0, ds0, p0, q0, hargs, rfl, rfl, h0, r0⟩ := trodAll_cons hA
  obtain ⟨v1, vs1, d1, ds1, p1, q1, rfl, rfl, rfl, h1, r1⟩ := trodAll_cons r0
  obtain ⟨v2, vs2, d2, ds2, p2, q2, rfl, rfl, rfl, h2, r2⟩ := trodAll_cons r1
  obtain ⟨rfl, rfl, rfl⟩ := trodAll_nil r2
  obtain rfl : args = #[v0, v1, v2] := by cases args; simp_all
  obtain ⟨rfl, rfl⟩ := trodVars_none hV
  obtain ⟨cs0, rfl, hsz0⟩ := okWide_struct Try.underlying25 (hval 0 25 v0 rfl rfl)
  have k0 := h0
  have lt0 : ∀ x ∈ p0, x.block < W.heap.size := by obtain ⟨m, hm⟩ := k0; exact DataW.trod_lt m _ _ _ hm
  obtain ⟨cs1, rfl, hsz1⟩ := okWide_struct Try.underlying40 (hval 1 40 v1 rfl rfl)
  have k1 := h1
  have lt1 : ∀ x ∈ p1, x.block < W.heap.size := by obtain ⟨m, hm⟩ := k1; exact DataW.trod_lt m _ _ _ hm
  obtain ⟨cs2, rfl, hsz2⟩ := okWide_struct Try.underlying40 (hval 2 40 v2 rfl rfl)
  have k2 := h2
  have lt2 : ∀ x ∈ p2, x.block < W.heap.size := by obtain ⟨m, hm⟩ := k2; exact DataW.trod_lt m _ _ _ hm
  have hbulk : Rows.uptoBulkAll [d0, d1, d2] ≤ 1048576 := of_decide_eq_true hk
  simp only [Rows.uptoBulkAll] at hbulk
  obtain ⟨sec0, fv0, ov0, fs0, os0, hcs0, g0, hf0, hfo0, ho0, hoo0, hw0⟩ : ∃ (sec : Int) (fv ov : Value) (fs : List IFile) (os : List OpD), cs0 = #[.int .i64 sec, fv, ov] ∧ Rng sec ∧ RdC 4 W fv (fs.map ifC) ∧ (∀ a ∈ fs, OkIf W a) ∧ RdC 7 W ov (os.map opL) ∧ (∀ a ∈ os, OkOp W a) ∧ (fs.map fun f => f.bs.length + 1).sum + (os.map opW).sum + 1 ≤ Rows.uptoBulk d0 := by
    obtain ⟨fuel, hf⟩ := h0
    obtain ⟨sec, fv, ov, fs, os, e, h4⟩ := open_run6 hf (by simp only; omega)
    exact ⟨sec, fv, ov, fs, os, by simp only [Value.cells] at e; rw [← Array.toArray_toList (xs := cs0), e], h4⟩
  subst hcs0
  obtain ⟨n1, kv1, ks1, hcs1, g1, hk1, hko1, hw1⟩ : ∃ (n : Int) (v : Value) (l : List KeepD), cs1 = #[.int .i64 n, v] ∧ Rng n ∧ RdC 3 W v (l.map keC) ∧ (∀ a ∈ l, OkKe a) ∧ l.length + 1 ≤ Rows.uptoBulk d1 := by
    obtain ⟨fuel, hf⟩ := h1
    obtain ⟨n, v, l, e, h4⟩ := open_fate hf (by simp only; omega)
    exact ⟨n, v, l, by simp only [Value.cells] at e; rw [← Array.toArray_toList (xs := cs1), e], h4⟩
  subst hcs1
  obtain ⟨n2, kv2, ks2, hcs2, g2, hk2, hko2, hw2⟩ : ∃ (n : Int) (v : Value) (l : List KeepD), cs2 = #[.int .i64 n, v] ∧ Rng n ∧ RdC 3 W v (l.map keC) ∧ (∀ a ∈ l, OkKe a) ∧ l.length + 1 ≤ Rows.uptoBulk d2 := by
    obtain ⟨fuel, hf⟩ := h2
    obtain ⟨n, v, l, e, h4⟩ := open_fate hf (by simp only; omega)
    exact ⟨n, v, l, by simp only [Value.cells] at e; rw [← Array.toArray_toList (xs := cs2), e], h4⟩
  subst hcs2
  clear hA0
  refine (diskLeaves_walk sec0 fv0 ov0 fs0 os0 n1 kv1 ks1 n2 kv2 ks2 W g0 hf0 hfo0 ho0 hoo0 (by omega) g1 hk1 hko1 (by omega) g2 hk2 hko2 (by omega)).mono fun e W' ⟨he, bel⟩ => ?_
  subst he
  exact ⟨_, rfl, _, _, _, [], _, [], hW', trodAll_mk1 (shut_bool Try.underlying4 _), (trodAll_cons_mk (Below.trod laidOut (by kernel_rfl) (of_decide_eq_true (by kernel_rfl)) k0 bel lt0) (trodAll_cons_mk (Below.trod laidOut (by kernel_rfl) (of_decide_eq_true (by kernel_rfl)) k1 bel lt1) (trodAll_cons_mk (Below.trod laidOut (by kernel_rfl) (of_decide_eq_true (by kernel_rfl)) k2 bel lt2) trodAll_mk0))), rfl, bel.frame _, fun h => by cases h⟩

set_option maxRecDepth 100000 in
theorem diskLeaves_lifted (os : Os) (started : os.Started) (H : Type) (enc : TypeId × Value → H) (F : Stop.Interp) :
    ReturnsInHanded {} Try.checked os 7 .any ((Rows.OpenSpec.upto Rows.diskLeavesSpec).pre6 enc Try.prog Try.f7 Rows.diskLeavesUptoRow.domain false) (((Rows.OpenSpec.upto Rows.diskLeavesSpec).at F).post enc Try.prog Try.f7 false true false false) := by
  refine returnsInHanded_of_cond (C := Try.checked) (s := Rows.OpenSpec.upto Rows.diskLeavesSpec) (k := Rows.uptoSmall) rfl own started (by kernel_rfl) Try.func7
    (OpenSpec.witness (enc := enc) (C := Try.checked) (s := Rows.OpenSpec.upto Rows.diskLeavesSpec) (k := Rows.uptoSmall) rfl false ⟨#[], #[.agg #[.int .i64 0, .slice none 0 0, .slice none 0 0], .agg #[.int .i64 0, .slice none 0 0], .agg #[.int .i64 0, .slice none 0 0]], []⟩ 8 (by kernel_rfl) (by kernel_rfl) (by kernel_rfl)
      (x := ([.agg [.lit (.int .i64 0), .nil, .nil], .agg [.lit (.int .i64 0), .nil], .agg [.lit (.int .i64 0), .nil]], [], [])) (by kernel_rfl) rfl (by kernel_rfl)) ?_
  intro W base args ds gs before hval hW _ hk _
  exact diskLeaves_contract H enc W base args ds gs before hval hW hk

theorem diskLeaves_holds : Rows.DiskLeavesUptoSaid :=
  OpenClaim.holds_of_cond 7 Try.f7 rfl rfl rfl rfl rfl rfl rfl ⟨rfl, rfl, rfl, rfl, rfl⟩ rfl rfl rfl rfl rfl (by kernel_rfl) Try.func7 (by kernel_rfl)
    (of_decide_eq_true (by kernel_rfl)) (by unfold Func.isWrapper; first | (rw [if_pos (by decide +kernel)]; kernel_rfl) | (rw [if_neg (by decide +kernel)]; exact ⟨rfl, rfl⟩))
    (fun os started H enc _ F => diskLeaves_lifted os started H enc F)
#print axioms diskLeaves_holds
end Go.Proofs.Ytaflchnipcmpoaa
