import Derived.Test.YtahfblaablnhgaaFFits
import Derived.Test.YtahfblaablnhgaaFScan
import Derived.Test.YtahfblaablnhgaaQKeep
import Derived.Deep.RegionHeld3
namespace Go.Proofs.Ytahfblaablnhgaa
open Go.RowKit Go.BigFrame
set_option linter.unusedVariables false
set_option linter.unusedSimpArgs false

/-- The frames of pieces, one behind the other. -/
def runB (ps : List (Nat × List Nat)) : List Nat := (ps.map fun x => frB x.1 x.2).flatten
def okP (ps : List (Nat × List Nat)) : Prop := ∀ x ∈ ps, x.1 < 18446744073709551616 ∧ 1 ≤ x.2.length ∧ x.2.length ≤ 65535 ∧ ∀ y ∈ x.2, y < 256
theorem scan_run : ∀ (ps : List (Nat × List Nat)) (A t : List Nat) (f : Nat), okP ps → firstF t = none → ps.length ≤ f → scanL f (A ++ (runB ps ++ t)) A.length = (ps, A.length + (runB ps).length)
  | [], A, t, f, _, ht, _ => by
    rw [scanL_none (by rw [List.drop_left]; simpa [runB] using ht)]; simp [runB]
  | x :: ps, A, t, f + 1, ho, ht, hf => by
    have hx := ho x (by simp)
    have e : runB (x :: ps) = frB x.1 x.2 ++ runB ps := by simp [runB]
    have h1 : firstF ((A ++ (runB (x :: ps) ++ t)).drop A.length) = some x := by
      rw [List.drop_left, e, List.append_assoc]
      exact firstF_some x.1 x.2 _ hx.1 hx.2.1 hx.2.2.1 hx.2.2.2
    rw [scanL_some h1]
    have ih := scan_run ps (A ++ frB x.1 x.2) t f (fun y hy => ho y (by simp [hy])) ht (by simpa using hf)
    have e2 : A ++ (runB (x :: ps) ++ t) = A ++ frB x.1 x.2 ++ (runB ps ++ t) := by rw [e]; simp
    rw [e2]
    have e3 : (A ++ frB x.1 x.2).length = A.length + 18 + x.2.length := by rw [List.length_append, frB_len]; omega
    rw [e3] at ih
    rw [ih, e, List.length_append, frB_len]
    simp only [Prod.mk.injEq, true_and]
    omega
theorem runB_len (ps : List (Nat × List Nat)) : ps.length ≤ (runB ps).length := by
  induction ps with
  | nil => simp
  | cons x r ih =>
    have e : runB (x :: r) = frB x.1 x.2 ++ runB r := by simp [runB]
    rw [e, List.length_append, frB_len, List.length_cons]
    omega
theorem scanF_run {ps : List (Nat × List Nat)} {t : List Nat} (ho : okP ps) (ht : firstF t = none) : scanF (runB ps ++ t) = (ps, (runB ps).length) := by
  have := scan_run ps [] t (runB ps ++ t).length ho ht (by have := runB_len ps; rw [List.length_append]; omega)
  simpa [scanF] using this

theorem runB_app (a b : List (Nat × List Nat)) : runB (a ++ b) = runB a ++ runB b := by unfold runB; rw [List.map_append, List.flatten_append]
theorem runB_one (x : Nat × List Nat) : runB [x] = frB x.1 x.2 := by simp [runB]
theorem runB_take (ps : List (Nat × List Nat)) (i : Nat) : (runB (ps.take i)).length ≤ (runB ps).length := by
  have e : runB ps = runB (ps.take i) ++ runB (ps.drop i) := by
    rw [← runB_app, List.take_append_drop]
  rw [e, List.length_append]; omega
/-- The slice value v reads as these pieces. -/
def RdP (w : World) (v : Value) (ps : List (Nat × List Nat)) : Prop :=
  ∃ (ao : Option Addr) (len cap : Nat) (vs : List Value), v = .slice ao len cap ∧ ps.length = len ∧ vs.length = len ∧ len ≤ cap ∧ cap ≤ 9223372036854775807 ∧ (∀ i, i < len → Rd w (vs.getD i undef) (ps.getD i (0, [])).2 ∧ (ps.getD i (0, [])).1 < 18446744073709551616) ∧
    (0 < len → ∃ b off, ao = some ⟨b, off, none⟩ ∧ ∀ i, i < len → w.cell? ⟨b, off + i * 2, none⟩ = some (.int .u64 ((ps.getD i (0, [])).1 : Int)) ∧ w.cell? ⟨b, off + i * 2 + 1, none⟩ = some (vs.getD i undef))
def pwt (ps : List (Nat × List Nat)) : Nat := (ps.map fun x => x.2.length + 2).sum
theorem runB_pwt (ps : List (Nat × List Nat)) : (runB ps).length ≤ 18 * pwt ps := by
  induction ps with
  | nil => simp [runB]
  | cons x r ih =>
    have e : runB (x :: r) = frB x.1 x.2 ++ runB r := by simp [runB]
    rw [e, List.length_append, frB_len]
    simp only [pwt, List.map_cons, List.sum_cons] at ih ⊢
    omega
theorem RdP.old {w w' : World} {v : Value} {ps : List (Nat × List Nat)} (h : RdP w v ps) (k : Kept [] w w') : RdP w' v ps := by
  obtain ⟨ao, len, cap, vs, h1, h2, h3, h4, h5, h6, h7⟩ := h
  refine ⟨ao, len, cap, vs, h1, h2, h3, h4, h5, fun i hi => ⟨(h6 i hi).1.old k (by simp), (h6 i hi).2⟩, fun hp => ?_⟩
  obtain ⟨b, off, e, hc⟩ := h7 hp
  exact ⟨b, off, e, fun i hi => ⟨k.cell (hc i hi).1 (by simp), k.cell (hc i hi).2 (by simp)⟩⟩

theorem rd_empty (w : World) (g : Nat) : Rd w (.slice (some ⟨g, 0, none⟩) 0 0) [] := ⟨_, _, _, rfl, rfl, Nat.le_refl _, ⟨by omega, by omega⟩, fun h => by simp at h, by simp, fun h => by omega⟩

end Go.Proofs.Ytahfblaablnhgaa
