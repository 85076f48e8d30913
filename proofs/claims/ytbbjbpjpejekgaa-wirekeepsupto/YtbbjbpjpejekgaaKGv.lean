import Derived.Test.YtbbjbpjpejekgaaKSp
import Derived.Test.YtbbjbpjpejekgaaAOws
import Derived.Test.YtbbjbpjpejekgaaWNew
namespace Go.Proofs.Ytbbjbpjpejekgaa
open Go.RowKit Go.BigFrame
set_option linter.unusedVariables false
set_option linter.unusedSimpArgs false

/-- The block g holds the bytes X and then some more, up to its room. -/
structure Gv (base : Nat) (w : World) (g cap : Nat) (X : List Nat) : Prop where
  at_ : ∃ rs : List Value, w.heap[g]? = some (.cells (X.map u8 ++ rs).toArray 5 (0, 0)) ∧ X.length + rs.length = cap
  lo : base ≤ g
  mx : cap ≤ maxLen
  byte : ∀ x ∈ X, x < 256
  len : X.length ≤ 140737488355328
theorem Gv.lt {base : Nat} {w : World} {g cap : Nat} {X : List Nat} (h : Gv base w g cap X) : g < w.heap.size := by obtain ⟨rs, h1, _⟩ := h.at_; exact lt_of_block h1
theorem Gv.pass {base : Nat} {M : List Nat} {w w' : World} {g cap : Nat} {X : List Nat} (h : Gv base w g cap X) (k : Kept M w w') (hM : g ∉ M) : Gv base w' g cap X := by
  obtain ⟨rs, h1, h2⟩ := h.at_
  exact ⟨⟨rs, k.heap h1 hM, h2⟩, h.lo, h.mx, h.byte, h.len⟩
theorem Gv.rd {base : Nat} {w : World} {g cap : Nat} {X : List Nat} (h : Gv base w g cap X) : Rd w (.slice (some ⟨g, 0, none⟩) X.length cap) X := by
  obtain ⟨rs, h1, h2⟩ := h.at_
  exact rd_prefix h1 h.byte (by omega) (by have := h.mx; unfold maxLen at this; omega) h.len _ rfl
theorem Gv.rdn {base : Nat} {w : World} {g cap : Nat} {X : List Nat} (h : Gv base w g cap X) (n : Nat) (hn : n ≤ X.length) : Rd w (.slice (some ⟨g, 0, none⟩) n cap) (X.take n) := h.rd.cut n hn
theorem Gv.ow {base : Nat} {w : World} {g cap : Nat} {X : List Nat} (h : Gv base w g cap X) (n : Nat) (hn : n ≤ X.length) : OwT w (some ⟨g, 0, none⟩, n, cap) := by
  obtain ⟨rs, h1, h2⟩ := h.at_
  refine ⟨(X.take n).map u8, by simp; omega, .inr ⟨g, cap, _, rfl, Nat.zero_le _, h1, by show n ≤ cap; omega, h.mx, by simp; omega, ?_⟩⟩
  show List.take (n * 1) _ = _
  rw [Nat.mul_one]
  simp only [List.take_append_of_le_length (show n ≤ (X.map u8).length by simpa using hn), List.map_take]
theorem spare_gv (v : Value) (p : List Nat) (w : World) (h : Rd w v p) (hl : p.length ≤ 140737488351232) :
    Calls Try.prog 19 #[v] w fun e w' => ∃ g cap, e = .returned (.tuple #[.slice (some ⟨g, 0, none⟩) p.length cap, .slice (some ⟨g, 0, none⟩) (p.length + 40) cap]) ∧ Gv w.heap.size w' g cap (p ++ marks 40) ∧ Kept [] w w' := by
  refine (spare_any v p w h hl).mono ?_
  rintro e w' ⟨g, cap, rfl, ho, k⟩
  refine ⟨g, cap, rfl, ?_, k⟩
  rcases ho.2 with ⟨hh, h0⟩ | ⟨g', cap', cur, hh, hb, hg, hc, hm, hs, ht⟩
  · cases hh
  · cases hh
    have hbl : ∀ x ∈ p ++ marks 40, x < 256 := by
      intro x hx
      rcases List.mem_append.1 hx with hx | hx
      · exact h.byte x hx
      · exact marks_byte 40 x hx
    rw [Nat.mul_one] at ht hs
    refine ⟨⟨cur.toList.drop (p.length + 40), ?_, ?_⟩, hb, hm, hbl, by rw [List.length_append, marks_len]; omega⟩
    · rw [hg, ← ht, List.take_append_drop, Array.toArray_toList]
    · have e1 : (p ++ marks 40).length = p.length + 40 := by rw [List.length_append, marks_len]
      have e2 : (cur.toList.drop (p.length + 40)).length = cur.size - (p.length + 40) := by simp
      omega
theorem overL_take (X : List Nat) (n : Nat) (hn : n ≤ X.length) : ((overL (X.take n) (X.take n).length) ++ X.drop n).length = X.length := by
  rw [List.length_append, overL_len, List.length_take, List.length_drop]; omega
/-- What Over leaves of the first n of X. -/
def ovr (X : List Nat) (n : Nat) : List Nat := overL (X.take n) (X.take n).length ++ X.drop n
theorem ovr_len (X : List Nat) (n : Nat) (hn : n ≤ X.length) : (ovr X n).length = X.length := overL_take X n hn
theorem over_gv (base g cap n : Nat) (X : List Nat) (w : World) (h : Gv base w g cap X) (hn : n ≤ X.length) :
    Calls Try.prog 22 #[.slice (some ⟨g, 0, none⟩) n cap] w fun e w' => e = .returned (.tuple #[]) ∧ Kept [g] w w' ∧ Gv base w' g cap (ovr X n) := by
  obtain ⟨rs, h1, h2⟩ := h.at_
  have hl : (X.take n).length = n := by rw [List.length_take]; omega
  have hc := over_gen g cap (X.take n) ((X.drop n).map u8 ++ rs) w (by rw [← List.append_assoc, ← List.map_append, List.take_append_drop]; exact h1) (fun x hx => h.byte x (List.mem_of_mem_take hx)) (by rw [hl]; have := h.len; omega) (by rw [hl]; omega)
  rw [hl] at hc
  refine hc.mono ?_
  rintro e w' ⟨rfl, k, hg⟩
  refine ⟨rfl, k, ⟨⟨rs, ?_, by rw [ovr_len X n hn]; exact h2⟩, h.lo, h.mx, ?_, by rw [ovr_len X n hn]; exact h.len⟩⟩
  · rw [hg, ovr, hl, List.map_append, List.append_assoc]
  · intro x hx
    rcases List.mem_append.1 hx with hx | hx
    · exact over_byte _ (fun y hy => h.byte y (List.mem_of_mem_take hy)) _ x hx
    · exact h.byte x (List.mem_of_mem_drop hx)
/-- New bytes: where they lie. -/
theorem NewB.lt {w w' : World} {v : Value} {bs : List Nat} (h : NewB w w' v bs) : ∃ a c, v = .slice a bs.length c ∧ OwT w' (a, bs.length, c) ∧ ∀ b, (vT (a, bs.length, c)).ownBlock = some b → w.heap.size ≤ b := by
  rcases h.2 with ⟨h0, rfl⟩ | ⟨g, rfl, hg, hc⟩
  · subst h0
    exact ⟨none, 0, rfl, ⟨[], World.ownsRow_nil _ _ _ _⟩, by simp [vT, Value.ownBlock]⟩
  · refine ⟨some ⟨g, 0, none⟩, bs.length, rfl, ⟨bs.map u8, by simp, .inr ⟨g, bs.length, _, rfl, Nat.zero_le _, hc, Nat.le_refl _, by have := h.1.len; unfold maxLen; omega, by simp, by simp [List.take_of_length_le]⟩⟩, fun b hb => ?_⟩
    simp only [vT, Value.ownBlock, Option.some.injEq] at hb
    omega
theorem NewB.stay {w w' : World} {v : Value} {bs : List Nat} (h : NewB w w' v bs) : Stay w.heap.size w' (fun W => Rd W v bs) := by
  refine h.1.stay (fun x hx => ?_)
  rcases h.2 with ⟨_, rfl⟩ | ⟨g, rfl, hg, hc⟩
  · simp [blk] at hx
  · simp [blk] at hx; omega
end Go.Proofs.Ytbbjbpjpejekgaa
