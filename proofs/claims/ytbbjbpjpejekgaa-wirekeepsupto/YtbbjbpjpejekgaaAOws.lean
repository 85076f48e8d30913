import Derived.Test.YtbbjbpjpejekgaaAApt
import Derived.Test.YtbbjbpjpejekgaaStay
namespace Go.Proofs.Ytbbjbpjpejekgaa
open Go.RowKit Go.BigFrame
set_option linter.unusedVariables false
set_option linter.unusedSimpArgs false

/-- Lists that are owned, no two of them in one block, all in blocks from base on. -/
structure Ows (base : Nat) (w : World) (L : List LT) : Prop where
  own : ∀ t ∈ L, OwT w t
  ap : L.Pairwise fun s t => ∀ b, (vT s).ownBlock = some b → (vT t).ownBlock ≠ some b
  lo : ∀ t ∈ L, ∀ b, (vT t).ownBlock = some b → base ≤ b
theorem OwT.lt {w : World} {t : LT} (h : OwT w t) {b : Nat} (hb : (vT t).ownBlock = some b) : b < w.heap.size := by obtain ⟨xs, h⟩ := h; exact (h.lt b hb).2
theorem Ows.nil (base : Nat) (w : World) : Ows base w [] := ⟨by simp, List.Pairwise.nil, by simp⟩
theorem Ows.one {base : Nat} {w : World} {t : LT} (h : OwT w t) (hb : ∀ b, (vT t).ownBlock = some b → base ≤ b) : Ows base w [t] := ⟨by simpa using h, List.pairwise_singleton _ _, by simpa using hb⟩
theorem Ows.pass {base : Nat} {M : List Nat} {w w' : World} {L : List LT} (h : Ows base w L) (k : Kept M w w') (hM : ∀ b ∈ M, b < base) : Ows base w' L :=
  ⟨fun t ht => (h.own t ht).pass k (fun b hb hm => by have := h.lo t ht b hb; have := hM b hm; omega), h.ap, h.lo⟩
theorem Ows.weak {base b2 : Nat} {w : World} {L : List LT} (h : Ows base w L) (hb : b2 ≤ base) : Ows b2 w L := ⟨h.own, h.ap, fun t ht b hb2 => Nat.le_trans hb (h.lo t ht b hb2)⟩
theorem Ows.join {b1 b2 : Nat} {M : List Nat} {w w' : World} {L1 L2 : List LT} (h1 : Ows b1 w L1) (h2 : Ows b2 w' L2) (k : Kept M w w') (hM : ∀ b ∈ M, b < b1) (hb : w.heap.size ≤ b2) (h12 : b1 ≤ b2) : Ows b1 w' (L1 ++ L2) := by
  refine ⟨fun t ht => ?_, ?_, fun t ht => ?_⟩
  · rcases List.mem_append.1 ht with ht | ht
    · exact (h1.pass k hM).own t ht
    · exact h2.own t ht
  · rw [List.pairwise_append]
    refine ⟨h1.ap, h2.ap, fun s hs t ht b hb1 hb2 => ?_⟩
    have := (h1.own s hs).lt hb1
    have := h2.lo t ht b hb2
    omega
  · rcases List.mem_append.1 ht with ht | ht
    · exact h1.lo t ht
    · exact fun b hb => Nat.le_trans h12 (h2.lo t ht b hb)
theorem Ows.add {base : Nat} {M : List Nat} {w w' : World} {L : List LT} {t : LT} (h : Ows base w L) (k : Kept M w w') (hM : ∀ b ∈ M, b < base) (ho : OwT w' t) (hn : ∀ b, (vT t).ownBlock = some b → w.heap.size ≤ b) (hb : base ≤ w.heap.size) : Ows base w' (L ++ [t]) :=
  h.join (Ows.one ho hn) k hM (Nat.le_refl _) hb
/-- One that lies below them all. -/
theorem Ows.low {base b0 : Nat} {w : World} {L : List LT} {t : LT} (h : Ows base w L) (ho : OwT w t) (hlo : ∀ b, (vT t).ownBlock = some b → b0 ≤ b ∧ b < base) (h0 : b0 ≤ base) : Ows b0 w (L ++ [t]) := by
  refine ⟨fun s hs => ?_, ?_, fun s hs b hb => ?_⟩
  · rcases List.mem_append.1 hs with hs | hs
    · exact h.own s hs
    · rw [List.mem_singleton] at hs; subst hs; exact ho
  · rw [List.pairwise_append]
    refine ⟨h.ap, List.pairwise_singleton _ _, fun s hs u hu b hb1 hb2 => ?_⟩
    rw [List.mem_singleton] at hu; subst hu
    have := h.lo s hs b hb1
    have := (hlo b hb2).2
    omega
  · rcases List.mem_append.1 hs with hs | hs
    · exact Nat.le_trans h0 (h.lo s hs b hb)
    · rw [List.mem_singleton] at hs; subst hs; exact (hlo b hb).1
theorem Ows.perm {base : Nat} {w : World} {L K : List LT} (h : Ows base w L) (p : L.Perm K) : Ows base w K :=
  ⟨fun t ht => h.own t (p.symm.subset ht), (p.pairwise_iff (fun {a b} hab x hx hy => hab x hy hx)).1 h.ap, fun t ht => h.lo t (p.symm.subset ht)⟩
theorem Ows.aprt {base : Nat} {w : World} {L : List LT} (h : Ows base w L) : Aprt L := by
  intro i j hi hj hne b hb hb2
  have hp := List.pairwise_iff_getElem.1 h.ap
  rcases Nat.lt_or_gt_of_ne hne with h9 | h9
  · exact hp i j hi hj h9 b hb hb2
  · exact hp j i hj hi h9 b hb2 hb
theorem OwT.ne {w : World} {t : LT} (h : OwT w t) {g : Nat} {cs : Array Value} {e : TypeId} {fr : Nat × Nat} (hg : w.heap[g]? = some (.cells cs e fr)) (he : e ≠ 5) : (vT t).ownBlock ≠ some g := by
  obtain ⟨xs, h⟩ := h
  intro hb
  rcases h.2 with ⟨h1, _⟩ | ⟨a, _, cu, h1, _, ha, _⟩
  · rw [h1] at hb; simp [Value.ownBlock] at hb
  · rw [h1] at hb
    simp only [Value.ownBlock, Option.some.injEq] at hb
    subst hb
    rw [ha] at hg
    simp only [Option.some.injEq, Obj.cells.injEq] at hg
    exact he hg.2.1.symm
/-- Apart of a row of lists that lies in one block. -/
theorem apart_row (base g n cap : Nat) (cs : Array Value) (fr : Nat × Nat) (L : List LT) (w : World) (hg : w.heap[g]? = some (.cells cs 22 fr)) (hn : L.length = n) (hcs : ∀ i (h : i < L.length), cs[i]? = some (vT L[i])) (ho : Ows base w L) (hb : ∀ t ∈ L, t.2.1 ≤ 4194304) (hl : n ≤ 4194304) :
    Calls Try.prog 26 #[.slice (some ⟨g, 0, none⟩) n cap] w fun e w' => e = .returned (.bool true) ∧ Kept (blks L) w w' := by
  subst hn
  refine apart_any _ cap L w (fun _ => ⟨g, 0, rfl, fun hm => ?_, fun i hi => ?_⟩) ho.aprt (fun i hi => ho.own _ (List.getElem_mem hi)) hb hl
  · obtain ⟨t, ht, h9⟩ := List.mem_flatMap.1 hm
    exact (ho.own t ht).ne hg (by decide) (by simpa using h9)
  · rw [cell_of_row w g (0 + i) cs _ fr hg, Nat.zero_add]; exact hcs i hi
theorem Ows.blks_lo {base : Nat} {w : World} {L : List LT} (h : Ows base w L) : ∀ b ∈ blks L, base ≤ b := by
  intro b hb
  obtain ⟨t, ht, h9⟩ := List.mem_flatMap.1 hb
  exact h.lo t ht b (by simpa using h9)
end Go.Proofs.Ytbbjbpjpejekgaa
