import Derived.Test.YtlopdlcepmmjdaaDkC
namespace Go.Proofs.Ytlopdlcepmmjdaa
open Go.RowKit Go.BigFrame
set_option linter.unusedVariables false
set_option linter.unusedSimpArgs false

theorem owns_fresh {w : World} {base g : Nat} {bs : List Nat} (h : w.heap[g]? = some (.cells (bs.map u8).toArray 5 (0, 0))) (hl : bs.length ≤ 140737488355328) (hb : base ≤ g) : w.ownsRow base 5 1 (.slice (some ⟨g, 0, none⟩) bs.length bs.length) bs.length (bs.map u8) := by
  refine ⟨by simp, .inr ⟨g, bs.length, _, rfl, hb, h, Nat.le_refl _, by unfold maxLen; omega, by simp, ?_⟩⟩
  rw [Nat.mul_one, List.toList_toArray, List.take_of_length_le (by simp)]

/-- A list of bytes that was made behind w. -/
structure NwB (w w' : World) (v : Value) (bs : List Nat) : Prop where
  own : w'.ownsRow w.heap.size 5 1 v bs.length (bs.map u8)
  byte : ∀ x ∈ bs, x < 256
  len : bs.length ≤ 140737488355328
theorem NwB.rd {w w' : World} {v : Value} {bs : List Nat} (h : NwB w w' v bs) : Rd w' v bs := rd_owns h.own h.byte h.len
theorem NwB.new {w w' : World} {v : Value} {bs : List Nat} (h : NwB w w' v bs) : ∀ x ∈ blk v, w.heap.size ≤ x := fun x hx => (h.own.lt x (blk_own h.own hx)).1

theorem read_D (d nb bb : Nat) (B : List Nat) (σ : DSt) (s : ByteArray) (w : World) (h : DK w d B nb bb σ) (hs : s.size ≤ 140737488355328) (hb : bb ≤ 140737488350000) :
    Calls Try.prog 22 #[.pointer (some ⟨d, 0, none⟩), .string s] w fun e w' => ∃ v, e = .returned (.tuple #[v, .int .i64 ((stRead σ s).2 : Nat)]) ∧ NwB w w' v (stRead σ s).1 ∧ Kept [] w w' := by
  obtain ⟨sec, cr, op, off, ft, A⟩ := σ
  obtain ⟨⟨m, u, fv, fs, h1, rfl, hA⟩, h2, h3, h4, h5, h6, h7⟩ := h
  dsimp only at *
  subst hA
  cases off
  · cases hf : findA (fs.map absF) s.data.toList with
    | none =>
      refine Calls.mono (read_none d sec m nb s w u fv cr op ft fs h1 hs (look_no hf)) ?_
      rintro e w' ⟨rfl, rfl⟩
      exact ⟨_, by simp only [stRead, hf]; rfl, by simp only [stRead, hf]; exact ⟨World.ownsRow_nil _ _ _ _, by simp, by simp⟩, Kept.refl _ _⟩
    | some x =>
      obtain ⟨f, hfm, hl, rfl, hnm⟩ := look_file hf
      have hfl : f.bs.length ≤ bb := h5 (absF f) (List.mem_map.2 ⟨f, hfm, rfl⟩)
      refine Calls.mono (read_some d sec m nb s w u fv cr op ft fs h1 hs f hfm hl (by omega)) ?_
      rintro e w' ⟨rfl, hk, hh⟩
      exact ⟨_, by simp only [stRead, hf]; rfl, by simp only [stRead, hf]; exact ⟨owns_fresh hh (by omega) (Nat.le_refl _), (h1.files f hfm).2.2.1, by show f.bs.length ≤ _; omega⟩, hk⟩
  · refine Calls.mono (read_off d sec m nb s w u fv cr op ft fs h1) ?_
    rintro e w' ⟨rfl, rfl⟩
    exact ⟨_, rfl, ⟨World.ownsRow_nil _ _ _ _, by simp [stRead], by simp [stRead]⟩, Kept.refl _ _⟩

theorem ops_D (d nb bb : Nat) (B : List Nat) (σ : DSt) (w : World) (h : DK w d B nb bb σ) :
    Calls Try.prog 29 #[.pointer (some ⟨d, 0, none⟩)] w fun e w' => e = .returned (.int .i64 σ.op) ∧ w' = w := by
  obtain ⟨m, u, fv, fs, h1, rfl, hA⟩ := h.ex
  exact ops_any d σ.sec m nb w u fv σ.cr σ.op σ.off σ.ft fs h1
theorem off_D (d nb bb : Nat) (B : List Nat) (σ : DSt) (w : World) (h : DK w d B nb bb σ) :
    Calls Try.prog 28 #[.pointer (some ⟨d, 0, none⟩)] w fun e w' => e = .returned (.bool σ.off) ∧ w' = w := by
  obtain ⟨m, u, fv, fs, h1, rfl, hA⟩ := h.ex
  exact off_any d σ.sec m nb w u fv σ.cr σ.op σ.off σ.ft fs h1
theorem cut_D (d nb bb : Nat) (B : List Nat) (σ : DSt) (w : World) (h : DK w d B nb bb σ) :
    Calls Try.prog 43 #[.pointer (some ⟨d, 0, none⟩)] w fun e w' => ∃ B', e = .returned (.tuple #[]) ∧ DK w' d B' nb bb (stCut σ) ∧ Ev w w' B B' := by
  obtain ⟨⟨m, u, fv, fs, h1, rfl, hA⟩, h2, h3, h4, h5, h6, h7⟩ := h
  refine Calls.mono (cut_any d σ.sec m nb w u fv σ.cr σ.op σ.off σ.ft fs h1) ?_
  rintro e w' ⟨rfl, hD, hK⟩
  exact ⟨_, rfl, ⟨⟨m, u, fv, fs, hD, rfl, hA⟩, h2, h3, h4, h5, h6, h7⟩, hK.mono (by intro x hx; simp at hx; simp [dkB, hx]), fun x hx => .inl hx⟩
end Go.Proofs.Ytlopdlcepmmjdaa
