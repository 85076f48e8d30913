import Derived.Test.YtbbjbpjpejekgaaBack
import Derived.Test.YtbbjbpjpejekgaaWritten
import Derived.Test.YtbbjbpjpejekgaaJoin
import Derived.Test.YtbbjbpjpejekgaaOpen
namespace Go.Proofs.Ytbbjbpjpejekgaa
open Go.RowKit
set_option linter.unusedVariables false
set_option linter.unusedSimpArgs false

/-- Two Writers side by side. -/
structure Two (w : World) (a : Nat) (va : Value) (xs : List Nat) (b : Nat) (vb : Value) (bs : List Nat) : Prop where
  one : WrAt w a va xs
  two : WrAt w b vb bs
  ne : a ≠ b
  dis : ∀ g, va.ownBlock = some g → vb.ownBlock ≠ some g

theorem Two.symm {w : World} {a : Nat} {va : Value} {xs : List Nat} {b : Nat} {vb : Value} {bs : List Nat} (h : Two w a va xs b vb bs) : Two w b vb bs a va xs :=
  ⟨h.two, h.one, h.ne.symm, fun g h1 h2 => h.dis g h2 h1⟩

theorem WrAt.cross {w : World} {a : Nat} {va : Value} {xs : List Nat} {b : Nat} {vb : Value} {bs : List Nat} (h : WrAt w a va xs) (k : WrAt w b vb bs) : va.ownBlock ≠ some b := by
  intro e
  rcases h.own.2 with ⟨rfl, _⟩ | ⟨g, cap, cur, rfl, _, hg, _⟩
  · simp [Value.ownBlock] at e
  · simp [Value.ownBlock] at e
    subst e
    rw [k.at_] at hg; simp at hg

theorem Two.step {w w1 : World} {a : Nat} {va va' : Value} {xs xs' : List Nat} {b : Nat} {vb : Value} {bs : List Nat} (h : Two w a va xs b vb bs) (h1 : WrAt w1 a va' xs') (k : Grew a va va' w w1) : Two w1 a va' xs' b vb bs := by
  refine ⟨h1, h.two.kept k.kept ?_ ?_, h.ne, ?_⟩
  · simp only [List.mem_cons, Option.mem_toList, not_or]
    exact ⟨h.ne.symm, fun e => h.one.cross h.two e⟩
  · intro g hg
    simp only [List.mem_cons, Option.mem_toList, not_or]
    exact ⟨fun e => by subst e; exact h.two.cross h.one hg, fun e => h.dis g e hg⟩
  · intro g hg hv
    rcases k.own with k1 | ⟨g', k1, k2⟩
    · exact h.dis g (by rw [← k1]; exact hg) hv
    · rw [k1] at hg; cases hg
      have := h.two.ownlt hv; omega

theorem Two.alloc {w : World} {a : Nat} {va : Value} {xs : List Nat} {b : Nat} {vb : Value} {bs : List Nat} (h : Two w a va xs b vb bs) (o : Obj) : Two (w.alloc o) a va xs b vb bs := ⟨h.one.alloc o, h.two.alloc o, h.ne, h.dis⟩

theorem Two.new (w : World) : Two ((w.alloc (.cells #[.slice none 0 0] 28)).alloc (.cells #[.slice none 0 0] 28)) w.heap.size (.slice none 0 0) [] (w.heap.size + 1) (.slice none 0 0) [] := by
  refine ⟨(WrAt.new w).alloc _, ?_, by omega, by simp [Value.ownBlock]⟩
  have := WrAt.new (w.alloc (.cells #[.slice none 0 0] 28))
  simpa using this


theorem scriptB_drop_le {ops : List OpD} (N j : Nat) : (scriptB ((ops.drop N).take j)).length ≤ (scriptB ops).length := by
  have h : scriptB ops = scriptB (ops.take N) ++ scriptB (ops.drop N) := by rw [← scriptB_append, List.take_append_drop]
  have h2 := scriptB_le (ops := ops.drop N) j
  rw [h]; simp; omega

/-- An Op of a script that came in, in a later world. -/
theorem SRd.get {w0 w : World} {ao : Option Addr} {cap : Nat} {ops : List OpD} (h : SRd w0 (.slice ao ops.length cap) ops) (k : Kept [] w0 w) (i : Nat) (o : OpD) (ho : ops[i]? = some o) :
    ∃ b off ao2 n2 c2, ao = some ⟨b, off, none⟩ ∧ o.pv = .slice ao2 n2 c2 ∧ w.cell? ⟨b, off + i * 4, none⟩ = some (.int .i64 o.k) ∧ w.cell? ⟨b, off + i * 4 + 1, none⟩ = some (.int .u64 o.x) ∧ w.cell? ⟨b, off + i * 4 + 2, none⟩ = some (.int .i64 o.n) ∧ w.cell? ⟨b, off + i * 4 + 3, none⟩ = some (.slice ao2 n2 c2) ∧
      o.x < 18446744073709551616 ∧ b < w.heap.size ∧ Rd w0 o.pv o.p := by
  obtain ⟨ao', cap', he, _, _, _, h3, h4⟩ := h
  cases he
  obtain ⟨hi, rfl⟩ := List.getElem?_eq_some_iff.1 ho
  obtain ⟨b, off, rfl, hc⟩ := h4 (by omega)
  obtain ⟨c0, c1, c2, c3⟩ := hc i _ ho
  obtain ⟨a1, _, _, _, _, a6⟩ := h3 _ (List.getElem_mem hi)
  obtain ⟨ao2, n2, c2', hpv⟩ : ∃ ao n c, (ops[i]).pv = .slice ao n c := by obtain ⟨ao, n, c, e, _⟩ := a6; exact ⟨ao, n, c, e⟩
  rw [hpv] at c3
  exact ⟨b, off, ao2, n2, c2', rfl, hpv, k.cell c0 (by simp), k.cell c1 (by simp), k.cell c2 (by simp), k.cell c3 (by simp), a1, block_lt_of_cell (k.cell c0 (by simp)), a6⟩

/-- A script of one Op, as a law builds it. -/
theorem SRd.op (w : World) (k : Int) (x : Nat) (n : Int) (pv : Value) (p : List Nat) (hx : x < 18446744073709551616) (hk : -9223372036854775808 ≤ k ∧ k ≤ 9223372036854775807) (hn : -9223372036854775808 ≤ n ∧ n ≤ 9223372036854775807)
    (hr : Rd w pv p) : SRd (w.alloc (.cells #[.int .i64 k, .int .u64 x, .int .i64 n, pv] 44)) (.slice (some ⟨w.heap.size, 0, none⟩) 1 1) [⟨k, x, n, pv, p⟩] := by
  refine ⟨_, 1, rfl, by simp, by omega, by simp, ?_, fun _ => ⟨w.heap.size, 0, rfl, ?_⟩⟩
  · intro o ho; simp at ho; subst ho; exact ⟨hx, hk.1, hk.2, hn.1, hn.2, hr.old ((Kept.refl [] w).alloc _) (by simp)⟩
  · intro i o ho
    have : i = 0 := by
      rcases Nat.lt_or_ge i 1 with h | h
      · omega
      · rw [List.getElem?_eq_none (by simpa using h)] at ho; cases ho
    subst this
    simp at ho
    subst ho
    have hh := heap_alloc_new w (.cells #[.int .i64 k, .int .u64 x, .int .i64 n, pv] 44)
    refine ⟨?_, ?_, ?_, ?_⟩ <;> (rw [cell_of_row _ _ _ _ _ _ hh]; simp)
theorem scriptB_op (k : Int) (x : Nat) (n : Int) (pv : Value) (p : List Nat) : scriptB [⟨k, x, n, pv, p⟩] = layB k x p := by simp [scriptB]

theorem kinds_in (k : Int) : (k < 1) ∨ (¬ k < 1 ∧ 7 < k) ∨ (¬ k < 1 ∧ ¬ 7 < k) := by omega

/-- The cells of a row that was just made. -/
theorem cells_fresh {w : World} {g : Nat} {bs : List Nat} (h : w.heap[g]? = some (.cells (bs.map u8).toArray 5 (0, 0))) : ∀ j, j < bs.length → w.cell? ⟨g, j, none⟩ = some (u8 (bs.getD j 0)) := fun j hj => by
  rw [cell_of_row w _ j _ 5 (0, 0) h]; simp [List.getD_eq_getElem?_getD, List.getElem?_eq_getElem hj]
theorem getD_byte {bs : List Nat} (h : ∀ x ∈ bs, x < 256) (j : Nat) : bs.getD j 0 < 256 := by
  rw [List.getD_eq_getElem?_getD]
  rcases Nat.lt_or_ge j bs.length with hj | hj
  · rw [List.getElem?_eq_getElem hj]; exact h _ (List.getElem_mem hj)
  · rw [List.getElem?_eq_none hj]; decide

theorem layB_byte (k : Int) (x : Nat) (p : List Nat) (hp : ∀ y ∈ p, y < 256) : ∀ y ∈ layB k x p, y < 256 := by
  intro y hy
  rcases kinds7 k with rfl | rfl | rfl | rfl | rfl | rfl | rfl | ⟨h1, h2, h3, h4, h5, h6, h7⟩
  · exact wide_byte _ _ y hy
  · exact wide_byte _ _ y hy
  · exact wide_byte _ _ y hy
  · exact wide_byte _ _ y hy
  · exact uv_byte _ y hy
  · exact hp y hy
  · have hb : layB 7 x p = uv p.length ++ p := rfl
    rw [hb] at hy
    rcases List.mem_append.1 hy with h | h
    · exact uv_byte _ y h
    · exact hp y h
  · simp [layB, h1, h2, h3, h4, h5, h6, h7] at hy

theorem script_facts {W : World} {v : Value} {ops : List OpD} (h : SRd W v ops) (hw : wt ops ≤ 1048576) : (scriptB ops).length ≤ 4194304 ∧ (∀ o ∈ ops, o.p.length ≤ 1048576) ∧ ops.length ≤ 1048576 := by
  have hp : ∀ o ∈ ops, o.p.length ≤ 1048576 := fun o ho => by have := wt_mem ho; omega
  obtain ⟨ao, cap, rfl, _, _, _, h3, _⟩ := h
  have h1 := wt_script ops (fun o ho => ⟨(h3 o ho).1, hp o ho⟩)
  refine ⟨by omega, hp, ?_⟩
  have : ∀ l : List OpD, l.length ≤ wt l := by
    intro l
    induction l with
    | nil => simp [wt]
    | cons a r ih => simp only [wt, List.map_cons, List.sum_cons, List.length_cons] at ih ⊢; omega
  have := this ops; omega

end Go.Proofs.Ytbbjbpjpejekgaa
