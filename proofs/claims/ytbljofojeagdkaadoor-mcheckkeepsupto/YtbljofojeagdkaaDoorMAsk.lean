import Derived.Test.YtbljofojeagdkaaDoorMClimb
namespace Go.Proofs.YtbljofojeagdkaaDoor
open Go.RowKit Go.BigFrame
set_option linter.unusedVariables false
set_option linter.unusedSimpArgs false

/-- A question: its width, leaf, two numbers, proof, root. -/
structure AskD where
  z : Int
  l : List Nat
  i : Nat
  n : Nat
  p : List (List Nat)
  r : List Nat
def askC (q : AskD) (pv : Value) : List Value := [.int .i64 q.z] ++ (q.l.map u8 ++ ([.int .u64 (q.i : Int), .int .u64 (q.n : Int), pv] ++ (q.r.map u8 ++ [])))
def zask : Array Value := (askC ⟨0, zD, 0, 0, [], zD⟩ (.slice none 0 0)).toArray
structure OkA (w : World) (q : AskD) (pv : Value) : Prop where
  z : -9223372036854775808 ≤ q.z ∧ q.z ≤ 9223372036854775807
  l : Dg q.l
  i : q.i < 18446744073709551616
  n : q.n < 18446744073709551616
  p : RdD w pv q.p
  pl : q.p.length ≤ 1048576
  r : Dg q.r
theorem OkA.old {w w' : World} {q : AskD} {pv : Value} (h : OkA w q pv) (k : Kept [] w w') : OkA w' q pv :=
  ⟨h.z, h.l, h.i, h.n, h.p.old k, h.pl, h.r⟩
theorem a_mid {w : World} {g n : Nat} {t : TypeId} {fr : Nat × Nat} (a b c : List Value) (h : w.heap[g]? = some (.cells (a ++ (b ++ c)).toArray t fr)) (hn : a.length = n) : w.rangeAt g n b := by
  subst hn
  intro j v hv
  have hj := (List.getElem?_eq_some_iff.1 hv).1
  rw [cell_of_row w g _ _ t fr h, List.getElem?_toArray, List.getElem?_append_right (by omega), Nat.add_sub_cancel_left, List.getElem?_append_left hj, hv]
theorem ask_cells {w : World} {g : Nat} {t : TypeId} {fr : Nat × Nat} {q : AskD} {pv : Value} (h : w.heap[g]? = some (.cells (askC q pv).toArray t fr)) (hl : q.l.length = 32) :
    w.cell? ⟨g, 0, none⟩ = some (.int .i64 q.z) ∧ w.rangeAt g 1 (q.l.map u8) ∧ (w.cell? ⟨g, 33, none⟩ = some (.int .u64 (q.i : Int)) ∧ w.cell? ⟨g, 34, none⟩ = some (.int .u64 (q.n : Int)) ∧ w.cell? ⟨g, 35, none⟩ = some pv) ∧ w.rangeAt g 36 (q.r.map u8) := by
  unfold askC at h
  have h1 := a_mid (n := 1) _ _ _ h rfl
  have h33 := a_mid (n := 33) ([.int .i64 q.z] ++ q.l.map u8) [.int .u64 (q.i : Int), .int .u64 (q.n : Int), pv] _ (by simpa using h) (by simp [hl])
  have h36 := a_mid (n := 36) ([.int .i64 q.z] ++ q.l.map u8 ++ [.int .u64 (q.i : Int), .int .u64 (q.n : Int), pv]) (q.r.map u8) [] (by simpa using h) (by simp [hl])
  have c : ∀ j v, ([.int .i64 q.z] : List Value)[j]? = some v → w.cell? ⟨g, j, none⟩ = some v := by
    intro j v hv
    rw [cell_of_row w g _ _ t fr h, List.getElem?_toArray, List.getElem?_append_left (List.getElem?_eq_some_iff.1 hv).1, hv]
  exact ⟨c 0 _ rfl, h1, ⟨h33 0 _ rfl, h33 1 _ rfl, h33 2 _ rfl⟩, h36⟩
end Go.Proofs.YtbljofojeagdkaaDoor
