import Derived.Test.YtbbjbpjpejekgaaKTold
import Derived.Test.YtbbjbpjpejekgaaLaid
namespace Go.Proofs.Ytbbjbpjpejekgaa
open Go.RowKit Go.BigFrame
set_option linter.unusedVariables false
set_option linter.unusedSimpArgs false

/-- A writer at b, and two rows of lists beside it. -/
structure WkI (w0 w : World) (b : Nat) (v : Value) (bs : List Nat) (tv tw : Value) (L LW : List LT) (xs ys : List (List Nat)) (fp fq : List Nat) : Prop where
  wr : WrAt w b v bs
  k : Kept [] w0 w
  own : ∀ g, v.ownBlock = some g → w0.heap.size ≤ g
  t : Told w0.heap.size w tv L xs fp
  s : Told w0.heap.size w tw LW ys fq
  fa : ∀ x, x ∈ fp ∨ x ∈ fq → x < w.heap.size ∧ x ≠ b ∧ v.ownBlock ≠ some x
  dj : ∀ x ∈ fp, x ∉ fq
  bl : w0.heap.size ≤ b
/-- A block that none of it lies in. -/
def WkN (b : Nat) (v : Value) (fp fq : List Nat) (g : Nat) : Prop := g ∉ fp ∧ g ∉ fq ∧ g ≠ b ∧ v.ownBlock ≠ some g
theorem WkI.new {w0 w : World} {b : Nat} {v : Value} {bs : List Nat} {tv tw : Value} {L LW : List LT} {xs ys : List (List Nat)} {fp fq : List Nat} (h : WkI w0 w b v bs tv tw L LW xs ys fp fq) {g : Nat} (hg : w.heap.size ≤ g) : WkN b v fp fq g := by
  refine ⟨fun hm => ?_, fun hm => ?_, ?_, fun e => ?_⟩
  · have := (h.fa g (.inl hm)).1; omega
  · have := (h.fa g (.inr hm)).1; omega
  · have := h.wr.lt; omega
  · have := h.wr.ownlt e; omega
theorem WkI.passN {M : List Nat} {w0 w w' : World} {b : Nat} {v : Value} {bs : List Nat} {tv tw : Value} {L LW : List LT} {xs ys : List (List Nat)} {fp fq : List Nat} (h : WkI w0 w b v bs tv tw L LW xs ys fp fq) (k : Kept M w w') (hM : ∀ x ∈ M, WkN b v fp fq x ∧ w0.heap.size ≤ x) : WkI w0 w' b v bs tv tw L LW xs ys fp fq :=
  ⟨h.wr.kept k (fun hm => (hM b hm).1.2.2.1 rfl) (fun g hg hm => (hM g hm).1.2.2.2 hg), h.k.trans k (fun x hx => .inr (hM x hx).2), h.own, h.t.pass k (fun x hx => (hM x hx).1.1), h.s.pass k (fun x hx => (hM x hx).1.2.1),
    fun x hx => ⟨Nat.lt_of_lt_of_le (h.fa x hx).1 k.size, (h.fa x hx).2⟩, h.dj, h.bl⟩
theorem WkI.pass {w0 w w' : World} {b : Nat} {v : Value} {bs : List Nat} {tv tw : Value} {L LW : List LT} {xs ys : List (List Nat)} {fp fq : List Nat} (h : WkI w0 w b v bs tv tw L LW xs ys fp fq) (k : Kept [] w w') : WkI w0 w' b v bs tv tw L LW xs ys fp fq := h.passN k (by simp)
theorem WkI.lay {w0 w w' : World} {b : Nat} {v v' : Value} {bs bs' : List Nat} {tv tw : Value} {L LW : List LT} {xs ys : List (List Nat)} {fp fq : List Nat} (h : WkI w0 w b v bs tv tw L LW xs ys fp fq) (hw : WrAt w' b v' bs') (g : Grew b v v' w w') : WkI w0 w' b v' bs' tv tw L LW xs ys fp fq := by
  have hM : ∀ x, x ∈ fp ∨ x ∈ fq → x ∉ b :: v.ownBlock.toList := by
    intro x hx hm
    rcases List.mem_cons.1 hm with rfl | hm
    · exact (h.fa x hx).2.1 rfl
    · exact (h.fa x hx).2.2 (by simpa using hm)
  refine ⟨hw, h.k.trans g.kept (fun x hx => ?_), g.fresh h.own h.k.size, h.t.pass g.kept (fun x hx hm => hM x (.inl hm) hx), h.s.pass g.kept (fun x hx hm => hM x (.inr hm) hx), fun x hx => ⟨Nat.lt_of_lt_of_le (h.fa x hx).1 g.kept.size, (h.fa x hx).2.1, fun e => ?_⟩, h.dj, h.bl⟩
  · rcases List.mem_cons.1 hx with rfl | hx
    · exact .inr h.bl
    · exact .inr (h.own x (by simpa using hx))
  · rcases g.own with h9 | ⟨g', h9, h8⟩
    · rw [h9] at e; exact (h.fa x hx).2.2 e
    · rw [h9] at e; cases e; have := (h.fa x hx).1; omega
theorem WkN.lay {w w' : World} {b : Nat} {v v' : Value} {fp fq : List Nat} {x : Nat} (h : WkN b v fp fq x) (g : Grew b v v' w w') (hx : x < w.heap.size) : WkN b v' fp fq x := by
  refine ⟨h.1, h.2.1, h.2.2.1, fun e => ?_⟩
  rcases g.own with h9 | ⟨g', h9, h8⟩
  · rw [h9] at e; exact h.2.2.2 e
  · rw [h9] at e; cases e; omega
theorem blks2 {t1 t2 : LT} {x : Nat} (h : x ∈ blks [t1, t2]) : (vT t1).ownBlock = some x ∨ (vT t2).ownBlock = some x := by
  simp only [blks, List.flatMap_cons, List.flatMap_nil, List.append_nil, List.mem_append, Option.mem_toList] at h
  exact h
theorem WkI.tellT {w0 w w1 : World} {b : Nat} {v : Value} {bs : List Nat} {tv tw tv' : Value} {L LW L' : List LT} {xs ys xs' : List (List Nat)} {fp fq : List Nat} {t1 t2 : LT} {ob : Obj} (h : WkI w0 w b v bs tv tw L LW xs ys fp fq) (hN : ∀ x, (vT t1).ownBlock = some x ∨ (vT t2).ownBlock = some x → WkN b v fp fq x ∧ x < w.heap.size)
    (ht : Told w0.heap.size w1 tv' L' xs' (tv'.ownBlock.toList ++ (blks [t1, t2] ++ fp))) (gr : (w.alloc ob).grownBy w1 tv.ownBlock) (hat : tv'.ownBlock = tv.ownBlock ∨ tv'.ownBlock = some (w.heap.size + 1)) : WkI w0 w1 b v bs tv' tw L' LW xs' ys (tv'.ownBlock.toList ++ (blks [t1, t2] ++ fp)) fq := by
  have hA := h.pass ((Kept.refl [] w).alloc ob)
  have hz : (w.alloc ob).heap.size = w.heap.size + 1 := by simp
  have kW : Kept tv.ownBlock.toList (w.alloc ob) w1 := (Kept.refl _ _).grown gr (by intro k hk; left; simp [hk])
  have hb : b < w.heap.size := h.wr.lt
  have hfr : ∀ x ∈ tv.ownBlock.toList, x ∈ fp := fun x hx => h.t.fr x (by simpa using hx)
  have hsz := kW.size
  have key : ∀ x ∈ tv'.ownBlock.toList ++ (blks [t1, t2] ++ fp), x < w1.heap.size ∧ x ≠ b ∧ v.ownBlock ≠ some x ∧ x ∉ fq := by
    intro x hx
    rcases List.mem_append.1 hx with hx | hx
    · have hx' : tv'.ownBlock = some x := by simpa using hx
      have hlt := (ht.row.lt x hx').2
      rcases hat with h9 | h9
      · have h8 := h.fa x (.inl (hfr x (by rw [← h9]; exact hx)))
        exact ⟨hlt, h8.2.1, h8.2.2, h.dj x (hfr x (by rw [← h9]; exact hx))⟩
      · rw [h9] at hx'
        cases hx'
        refine ⟨hlt, by omega, fun e => ?_, fun hm => ?_⟩
        · have := h.wr.ownlt e; omega
        · have := (h.fa _ (.inr hm)).1; omega
    · rcases List.mem_append.1 hx with hx | hx
      · have h8 := hN x (blks2 hx)
        exact ⟨by omega, h8.1.2.2.1, h8.1.2.2.2, h8.1.2.1⟩
      · have h8 := h.fa x (.inl hx)
        exact ⟨by omega, h8.2.1, h8.2.2, h.dj x hx⟩
  refine ⟨hA.wr.kept kW (fun hm => (h.fa b (.inl (hfr b hm))).2.1 rfl) (fun g hg hm => (h.fa g (.inl (hfr g hm))).2.2 hg), hA.k.grown gr (fun x hx => .inr (h.t.row.lt x hx).1), h.own, ht, hA.s.pass kW (fun x hx hm => h.dj x (hfr x hx) hm), fun x hx => ?_, fun x hx => (key x hx).2.2.2, h.bl⟩
  rcases hx with hx | hx
  · exact ⟨(key x hx).1, (key x hx).2.1, (key x hx).2.2.1⟩
  · have h8 := h.fa x (.inr hx)
    exact ⟨by omega, h8.2⟩
theorem WkI.sym {w0 w : World} {b : Nat} {v : Value} {bs : List Nat} {tv tw : Value} {L LW : List LT} {xs ys : List (List Nat)} {fp fq : List Nat} (h : WkI w0 w b v bs tv tw L LW xs ys fp fq) : WkI w0 w b v bs tw tv LW L ys xs fq fp :=
  ⟨h.wr, h.k, h.own, h.s, h.t, fun x hx => h.fa x hx.symm, fun x hx hm => h.dj x hm hx, h.bl⟩
theorem WkN.sym {b : Nat} {v : Value} {fp fq : List Nat} {x : Nat} (h : WkN b v fp fq x) : WkN b v fq fp x := ⟨h.2.1, h.1, h.2.2⟩
end Go.Proofs.Ytbbjbpjpejekgaa
