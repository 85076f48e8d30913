import Derived.Test.YtbbjbpjpejekgaaAMark
import Derived.Test.YtbbjbpjpejekgaaCat
namespace Go.Proofs.Ytbbjbpjpejekgaa
open Go.RowKit
set_option linter.unusedVariables false
set_option linter.unusedSimpArgs false

theorem markN_lt (r i j : Nat) : markN r i j < 256 := by unfold markN; split <;> exact Nat.mod_lt _ (by decide)
/-- The first n marks of the list i. -/
def mk3 (r i n : Nat) : List Nat := (List.range n).map (markN r i)
theorem mk3_len (r i n : Nat) : (mk3 r i n).length = n := by simp [mk3]
theorem mk3_succ (r i n : Nat) : mk3 r i (n + 1) = mk3 r i n ++ [markN r i n] := by simp [mk3, List.range_succ]
theorem mk3_byte (r i n : Nat) : ∀ x ∈ mk3 r i n, x < 256 := by intro x hx; simp [mk3] at hx; obtain ⟨j, _, rfl⟩ := hx; exact markN_lt r i j
theorem mk3_take (r i n m : Nat) : (mk3 r i (n + m)).take n = mk3 r i n := by
  unfold mk3
  rw [← List.map_take, List.take_range, Nat.min_eq_left (by omega)]
/-- The marks from the place n on. -/
def mkF (r i n m : Nat) : List Nat := (List.range m).map fun j => markN r i (n + j)
theorem mkF_len (r i n m : Nat) : (mkF r i n m).length = m := by simp [mkF]
theorem mkF_succ (r i n m : Nat) : mkF r i n (m + 1) = mkF r i n m ++ [markN r i (n + m)] := by simp [mkF, List.range_succ]
theorem mkF_byte (r i n m : Nat) : ∀ x ∈ mkF r i n m, x < 256 := by intro x hx; simp [mkF] at hx; obtain ⟨j, _, rfl⟩ := hx; exact markN_lt r i _
theorem mk3_add (r i n : Nat) : ∀ m, mk3 r i (n + m) = mk3 r i n ++ mkF r i n m
  | 0 => by simp [mkF]
  | m + 1 => by rw [← Nat.add_assoc, mk3_succ, mk3_add r i n m, mkF_succ, List.append_assoc]

/-- A row and what it has been grown to, both owned; what was touched since w. -/
structure Grw (w wr : World) (a : Option Addr) (n c : Nat) (r i : Nat) (a' : Option Addr) (m c' : Nat) : Prop where
  new : wr.ownsRow 0 5 1 (.slice a' (n + m) c') (mk3 r i (n + m)).length ((mk3 r i (n + m)).map u8)
  old : wr.ownsRow 0 5 1 (.slice a n c) (mk3 r i n).length ((mk3 r i n).map u8)
  k : Kept (Value.slice a n c).ownBlock.toList w wr
  lt : ∀ b, (Value.slice a n c).ownBlock = some b → b < w.heap.size
  at_ : (a' = a ∧ c' = c) ∨ ∃ g, (Value.slice a' (n + m) c').ownBlock = some g ∧ w.heap.size ≤ g
theorem Grw.start {w : World} {a : Option Addr} {n c r i : Nat} (h : w.ownsRow 0 5 1 (.slice a n c) (mk3 r i n).length ((mk3 r i n).map u8)) : Grw w w a n c r i a 0 c := ⟨h, h, Kept.refl _ _, fun b hb => (h.lt b hb).2, .inl ⟨rfl, rfl⟩⟩
theorem Grw.pass {w wr W : World} {a : Option Addr} {n c r i : Nat} {a' : Option Addr} {m c' : Nat} (h : Grw w wr a n c r i a' m c') (k : Kept [] wr W) : Grw w W a n c r i a' m c' :=
  ⟨k.owns h.new (by simp), k.owns h.old (by simp), h.k.trans k (by simp), h.lt, h.at_⟩
theorem Grw.push {w wr W : World} {a : Option Addr} {n c r i : Nat} {a' a2 : Option Addr} {m m2 c' c2 : Nat} (h : Grw w wr a n c r i a' m c') (o : W.ownsRow 0 5 1 (.slice a2 (n + m2) c2) (mk3 r i (n + m2)).length ((mk3 r i (n + m2)).map u8)) (o' : W.ownsRow 0 5 1 (.slice a' (n + m) c') (mk3 r i (n + m)).length ((mk3 r i (n + m)).map u8)) (gr : wr.grownBy W (Value.slice a' (n + m) c').ownBlock) (wt : Went wr (.slice a' (n + m) c') (.slice a2 (n + m2) c2)) : Grw w W a n c r i a2 m2 c2 := by
  have hsz := h.k.size
  rcases h.at_ with ⟨rfl, rfl⟩ | ⟨g, hg, hgs⟩
  · have ho : W.ownsRow 0 5 1 (.slice a' n c') (mk3 r i n).length ((mk3 r i n).map u8) := by
      have h9 := owns_take o' n (by rw [mk3_len]; omega)
      rw [mk3_take] at h9; exact h9
    have hb : (Value.slice a' (n + m) c').ownBlock = (Value.slice a' n c').ownBlock := by cases a' <;> rfl
    rw [hb] at gr
    refine ⟨o, ho, h.k.grown gr (by intro k hk; left; simp [hk]), h.lt, ?_⟩
    rcases wt with ⟨_, _, _, _, e1, e2⟩ | ⟨g, h1, h2⟩
    · cases e1; cases e2; exact .inl ⟨rfl, rfl⟩
    · exact .inr ⟨g, h1, by omega⟩
  · refine ⟨o, ?_, h.k.grown gr (by intro k hk; right; rw [hg] at hk; cases hk; exact hgs), h.lt, ?_⟩
    · rw [hg] at gr
      exact ((Kept.refl [g] wr).grown gr (by intro k hk; left; cases hk; simp)).owns h.old (fun k hk hm => by have := h.lt k hk; simp at hm; omega)
    · rcases wt with ⟨_, _, _, _, e1, e2⟩ | ⟨g', h1, h2⟩
      · cases e1; cases e2
        refine .inr ⟨g, ?_, hgs⟩
        rw [← hg]; cases a' <;> rfl
      · exact .inr ⟨g', h1, by omega⟩
end Go.Proofs.Ytbbjbpjpejekgaa
