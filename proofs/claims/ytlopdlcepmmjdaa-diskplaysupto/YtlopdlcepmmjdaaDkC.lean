import Derived.Test.YtlopdlcepmmjdaaDkP
namespace Go.Proofs.Ytlopdlcepmmjdaa
open Go.RowKit Go.BigFrame
set_option linter.unusedVariables false
set_option linter.unusedSimpArgs false

theorem findA_none {A : List DF} {s : List UInt8} (h : findA A s = none) : ∀ f ∈ A, f.nm.data.toList ≠ s := by
  intro f hf e
  unfold findA at h
  rw [List.find?_eq_none] at h
  exact h f hf (by simp [e])
theorem ownA_zero {A : List DF} {s : ByteArray} (h : ownA A s = 0) : isNm s = true ∧ findA A s.data.toList = none := by
  unfold ownA at h
  split at h
  · rename_i h1
    split at h
    · cases h
    · rename_i h2
      exact ⟨h1, by simpa using h2⟩
  · cases h
theorem opE_le (ft : Int → Option Int) (cr op : Int) (own : Nat) (h : own < 100) : opE ft cr op own < 100 := by
  unfold opE
  (repeat' split) <;> omega

theorem create_D (d nb bb : Nat) (B : List Nat) (σ : DSt) (s : ByteArray) (w : World) (h : DK w d B nb bb σ) (hs : s.size ≤ 140737488355328) (hn : nb ≤ 1000000000) :
    Calls Try.prog 20 #[.pointer (some ⟨d, 0, none⟩), .string s] w fun e w' => ∃ B', e = .returned (.int .i64 ((stCreate σ s).1 : Nat)) ∧ DK w' d B' (nb + 1) bb (stCreate σ s).2 ∧ Ev w w' B B' := by
  have h0 := h
  obtain ⟨sec, cr, op, off, ft, A⟩ := σ
  obtain ⟨⟨m, u, fv, fs, h1, rfl, hA⟩, h2, h3, h4, h5, h6, h7⟩ := h
  dsimp only at *
  subst hA
  cases off
  · have e1 : stCreate ⟨sec, cr, op, false, ft, fs.map absF⟩ s = (opE ft cr op (own1 fs s), tick ⟨sec, cr, op, false, ft, fs.map absF⟩ (if own1 fs s = 0 ∧ opE ft cr op (own1 fs s) ≠ 7 then fs.map absF ++ [⟨s, [], 0, false⟩] else fs.map absF)) := by
      rw [own_abs]; rfl
    rw [e1]
    refine Calls.mono (create_any d sec m nb s w u fv cr op ft fs h1 hs ⟨h3.1, by omega⟩ hn (by rw [List.length_map] at h4; omega)) ?_
    rintro e w' ⟨E, G, u', rfl, hE, hD, hK, hN⟩
    subst hE
    refine ⟨_, rfl, ⟨⟨m, u', fv, _, hD, rfl, ?_⟩, ?_, ⟨by simp only [tick]; omega, by simp only [tick]; omega⟩, ?_, ?_, h6, ?_⟩, hK, hN⟩
    · simp only [tick, crF]
      split <;> simp [absF]
    all_goals simp only [tick]
    all_goals split
    · rename_i hc
      rw [own_abs] at hc
      obtain ⟨hc1, hc2⟩ := ownA_zero hc.1
      unfold Dist
      rw [List.pairwise_append]
      refine ⟨h2, List.pairwise_singleton _ _, ?_⟩
      intro a ha b hb
      simp only [List.mem_singleton] at hb
      subst hb
      intro e
      exact findA_none hc2 a ha (by rw [e])
    · exact h2
    · rw [List.length_append, List.length_singleton]; omega
    · omega
    · intro f hf
      rw [List.mem_append, List.mem_singleton] at hf
      rcases hf with hf | rfl
      · exact h5 f hf
      · simp
    · exact h5
    · rename_i hc
      rw [own_abs] at hc
      obtain ⟨hc1, hc2⟩ := ownA_zero hc.1
      intro f hf
      rw [List.mem_append, List.mem_singleton] at hf
      rcases hf with hf | rfl
      · exact h7 f hf
      · exact hc1
    · exact h7
  · refine Calls.mono (create_off d sec m nb s w u fv cr op ft fs h1) ?_
    rintro e w' ⟨rfl, rfl⟩
    exact ⟨_, rfl, h0.more (Nat.le_succ nb) (Nat.le_refl _), Ev.refl _ _⟩

theorem upA_mem {A : List DF} {s : ByteArray} {F : DF → DF} {y : DF} (h : y ∈ upA A s F) : ∃ x ∈ A, y = x ∨ (x.nm = s ∧ y = F x) := by
  unfold upA at h
  obtain ⟨x, hx, rfl⟩ := List.mem_map.1 h
  refine ⟨x, hx, ?_⟩
  split
  · rename_i h1; exact .inr ⟨h1, rfl⟩
  · exact .inl rfl
theorem upF_blk {fs : List DFile} {g : Nat} {v : Value} {bs : List Nat} {sy : Nat} {d m : Nat} {u fv : Value} {x : Nat} (h : x ∈ dkB d m u fv (upF fs g v bs sy)) : x ∈ dkB d m u fv fs ∨ x ∈ blk v := by
  simp only [dkB, List.mem_cons, List.mem_append, List.mem_flatMap] at h ⊢
  rcases h with h | h | h | ⟨f, hf, h⟩
  · exact .inl (.inl h)
  · exact .inl (.inr (.inl h))
  · exact .inl (.inr (.inr (.inl h)))
  · obtain ⟨a, ha, rfl⟩ := List.mem_map.1 hf
    rw [upOne_g] at h
    unfold upOne at h
    split at h
    · rcases h with h | h
      · exact .inl (.inr (.inr (.inr ⟨a, ha, .inl h⟩)))
      · exact .inr h
    · exact .inl (.inr (.inr (.inr ⟨a, ha, h⟩)))
theorem dkB_v {d m : Nat} {u fv : Value} {fs : List DFile} {a : DFile} (h : a ∈ fs) {x : Nat} (hx : x ∈ blk a.v) : x ∈ dkB d m u fv fs := by
  simp only [dkB, List.mem_cons, List.mem_append, List.mem_flatMap]
  exact .inr (.inr (.inr ⟨a, h, .inr hx⟩))

theorem append_D (d nb bb : Nat) (B : List Nat) (σ : DSt) (s : ByteArray) (pv : Value) (ps : List Nat) (w : World) (h : DK w d B nb bb σ) (hs : s.size ≤ 140737488355328) (hn : nb ≤ 1000000000) (hp : Rd w pv ps) (hpd : ∀ x ∈ zblk pv ps, x ∉ B) (hb : bb + ps.length ≤ 140737488350000) :
    Calls Try.prog 21 #[.pointer (some ⟨d, 0, none⟩), .string s, pv] w fun e w' => ∃ B', e = .returned (.int .i64 ((stAppend σ s ps).1 : Nat)) ∧ DK w' d B' (nb + 1) (bb + ps.length) (stAppend σ s ps).2 ∧ Ev w w' B B' := by
  have h0 := h
  obtain ⟨sec, cr, op, off, ft, A⟩ := σ
  obtain ⟨⟨m, u, fv, fs, h1, rfl, hA⟩, h2, h3, h4, h5, h6, h7⟩ := h
  dsimp only at *
  subst hA
  have hd : d ∉ zblk pv ps := fun hx => hpd d hx (by simp [dkB])
  cases off
  · cases hf : findA (fs.map absF) s.data.toList with
    | none =>
      have e1 : stAppend ⟨sec, cr, op, false, ft, fs.map absF⟩ s ps = (opE ft cr op 5, tick ⟨sec, cr, op, false, ft, fs.map absF⟩ (fs.map absF)) := by
        simp only [stAppend, hf]; rfl
      rw [e1]
      refine Calls.mono (append_none d sec m nb s pv w u fv cr op ft fs h1 hs ⟨h3.1, by omega⟩ (look_no hf)) ?_
      rintro e w' ⟨rfl, hD, hK⟩
      exact ⟨_, rfl, ⟨⟨m, u, fv, fs, hD.more (Nat.le_succ nb), rfl, rfl⟩, h2, ⟨by simp only [tick]; omega, by simp only [tick]; omega⟩, Nat.le_succ_of_le h4, fun f hf => Nat.le_trans (h5 f hf) (Nat.le_add_right _ _), h6, h7⟩, hK.mono (by intro x hx; simp at hx; simp [dkB, hx]), fun x hx => .inl hx⟩
    | some x =>
      obtain ⟨f, hfm, hl, rfl, hnm⟩ := look_file hf
      have hnm2 := ba_ext hnm
      subst hnm2
      have hfl := h5 (absF f) (List.mem_map.2 ⟨f, hfm, rfl⟩)
      have hfin : ∀ (v' : Value) (w' : World) (qs : List Nat), qs.length ≤ ps.length → qs = ps.take (appK ⟨sec, cr, op, false, ft, fs.map absF⟩ ps) → DkAt w' d sec m nb u fv cr (op + 1) (decide (op + 1 = cr)) ft (upF fs f.g v' (f.bs ++ qs) f.sy) → Kept (d :: f.g :: blk f.v) w w' → (∀ x ∈ blk v', x ∈ blk f.v ∨ w.heap.size ≤ x) →
          ∃ B', DK w' d B' (nb + 1) (bb + ps.length) (tick ⟨sec, cr, op, false, ft, fs.map absF⟩ (upA (fs.map absF) f.nm fun f => { f with bs := f.bs ++ ps.take (appK ⟨sec, cr, op, false, ft, fs.map absF⟩ ps) })) ∧ Ev w w' (dkB d m u fv fs) B' := by
        intro v' w' qs hq hqe hD hK hV
        refine ⟨_, ⟨⟨m, u, fv, _, hD.more (Nat.le_succ nb), rfl, ?_⟩, dist_up (by intro x; rfl) h2, ⟨by simp only [tick]; omega, by simp only [tick]; omega⟩, ?_, ?_, h6, ?_⟩, hK.mono ?_, ?_⟩
        · simp only [tick]
          rw [up_abs h1.apart h2 hfm]
          exact (up_congr h2 (x := absF f) (List.mem_map.2 ⟨f, hfm, rfl⟩) (by simp [absF, hqe])).symm
        · simp only [tick, upA, List.length_map]
          rw [List.length_map] at h4
          omega
        · intro y hy
          obtain ⟨x, hx, h9 | ⟨_, h9⟩⟩ := upA_mem hy
          · subst h9
            exact Nat.le_trans (h5 y hx) (Nat.le_add_right _ _)
          · subst h9
            have := h5 x hx
            simp only [List.length_append, List.length_take]
            omega
        · intro y hy
          obtain ⟨x, hx, h9 | ⟨_, h9⟩⟩ := upA_mem hy
          · subst h9
            exact h7 y hx
          · subst h9
            exact h7 x hx
        · intro x hx
          simp only [List.mem_cons] at hx
          rcases hx with rfl | rfl | hx
          · simp [dkB]
          · exact dkB_g hfm
          · exact dkB_v hfm hx
        · intro x hx
          rcases upF_blk hx with h9 | h9
          · exact .inl h9
          · exact (hV x h9).imp (dkB_v hfm) id
      have e1 : stAppend ⟨sec, cr, op, false, ft, fs.map absF⟩ f.nm ps = (opE ft cr op 0, tick ⟨sec, cr, op, false, ft, fs.map absF⟩ (upA (fs.map absF) f.nm fun f => { f with bs := f.bs ++ ps.take (appK ⟨sec, cr, op, false, ft, fs.map absF⟩ ps) })) := by
        simp only [stAppend, hf]; rfl
      rw [e1]
      have hfl2 : f.bs.length ≤ bb := hfl
      by_cases h7e : opE ft cr op 0 = 7
      · obtain ⟨h8, c, h9⟩ : op + 1 ≠ cr ∧ ∃ c, ft (op + 1) = some c := by
          have h10 := h7e
          unfold opE at h10
          split at h10
          · omega
          · rename_i h11
            refine ⟨h11, ?_⟩
            rw [if_neg (by simp)] at h10
            split at h10
            · rename_i h12
              exact Option.isSome_iff_exists.1 h12
            · omega
        refine Calls.mono (append_io d sec m nb f.nm pv ps w u fv cr op ft fs h1 hs ⟨h3.1, by omega⟩ f hfm hl hp hd (by omega) h8 c h9) ?_
        rintro e w' ⟨v', rfl, hD, hK, hV⟩
        obtain ⟨B', hB1, hB2⟩ := hfin v' w' (ps.take (wtn c ps.length).toNat) (by rw [List.length_take]; omega) (by unfold appK; rw [if_pos h7e]; show _ = List.take (wtn ((ft (op + 1)).getD 0) _).toNat ps; rw [h9]; rfl) (by rw [decide_eq_false h8]; exact hD) hK hV
        exact ⟨B', by rw [h7e]; rfl, hB1, hB2⟩
      · refine Calls.mono (append_some d sec m nb f.nm pv ps w u fv cr op ft fs h1 hs ⟨h3.1, by omega⟩ f hfm hl hp hd (by omega) h7e) ?_
        rintro e w' ⟨v', rfl, hD, hK, hV⟩
        obtain ⟨B', hB1, hB2⟩ := hfin v' w' ps (Nat.le_refl _) (by unfold appK; rw [if_neg h7e, List.take_length]) hD hK hV
        exact ⟨B', rfl, hB1, hB2⟩
  · refine Calls.mono (append_off d sec m nb s pv w u fv cr op ft fs h1) ?_
    rintro e w' ⟨rfl, rfl⟩
    exact ⟨_, rfl, h0.more (Nat.le_succ nb) (Nat.le_add_right _ _), Ev.refl _ _⟩

theorem sync_D (d nb bb : Nat) (B : List Nat) (σ : DSt) (s : ByteArray) (w : World) (h : DK w d B nb bb σ) (hs : s.size ≤ 140737488355328) (hn : nb ≤ 1000000000) :
    Calls Try.prog 31 #[.pointer (some ⟨d, 0, none⟩), .string s] w fun e w' => ∃ B', e = .returned (.int .i64 ((stSync σ s).1 : Nat)) ∧ DK w' d B' (nb + 1) bb (stSync σ s).2 ∧ Ev w w' B B' := by
  have h0 := h
  obtain ⟨sec, cr, op, off, ft, A⟩ := σ
  obtain ⟨⟨m, u, fv, fs, h1, rfl, hA⟩, h2, h3, h4, h5, h6, h7⟩ := h
  dsimp only at *
  subst hA
  cases off
  · cases hf : findA (fs.map absF) s.data.toList with
    | none =>
      have e1 : stSync ⟨sec, cr, op, false, ft, fs.map absF⟩ s = (opE ft cr op 5, tick ⟨sec, cr, op, false, ft, fs.map absF⟩ (fs.map absF)) := by
        simp only [stSync, hf]; rfl
      rw [e1]
      refine Calls.mono (sync_none d sec m nb s w u fv cr op ft fs h1 hs ⟨h3.1, by omega⟩ (look_no hf)) ?_
      rintro e w' ⟨rfl, hD, hK⟩
      exact ⟨_, rfl, ⟨⟨m, u, fv, fs, hD.more (Nat.le_succ nb), rfl, rfl⟩, h2, ⟨by simp only [tick]; omega, by simp only [tick]; omega⟩, Nat.le_succ_of_le h4, h5, h6, h7⟩, hK.mono (by intro x hx; simp at hx; simp [dkB, hx]), fun x hx => .inl hx⟩
    | some x =>
      obtain ⟨f, hfm, hl, rfl, hnm⟩ := look_file hf
      have hnm2 := ba_ext hnm
      subst hnm2
      have e1 : stSync ⟨sec, cr, op, false, ft, fs.map absF⟩ f.nm = (opE ft cr op 0, tick ⟨sec, cr, op, false, ft, fs.map absF⟩ (if opE ft cr op 0 = 0 then upA (fs.map absF) f.nm fun f => { f with sy := f.bs.length } else fs.map absF)) := by
        simp only [stSync, hf]; rfl
      rw [e1]
      refine Calls.mono (sync_some d sec m nb f.nm w u fv cr op ft fs h1 hs ⟨h3.1, by omega⟩ f hfm hl) ?_
      rintro e w' ⟨E, rfl, rfl, hD, hK⟩
      have kk : Kept (dkB d m u fv fs) w w' := hK.mono (by
        intro x hx
        simp only [List.mem_cons, List.not_mem_nil, or_false] at hx
        rcases hx with rfl | rfl
        · simp [dkB]
        · exact dkB_g hfm)
      by_cases hE : opE ft cr op 0 = 0
      · rw [if_pos hE] at hD
        rw [if_pos hE]
        refine ⟨_, rfl, ⟨⟨m, u, fv, _, hD.more (Nat.le_succ nb), rfl, ?_⟩, dist_up (by intro x; rfl) h2, ⟨by simp only [tick]; omega, by simp only [tick]; omega⟩, ?_, ?_, h6, ?_⟩, kk, ?_⟩
        · simp only [tick]
          rw [up_abs h1.apart h2 hfm]
          exact (up_congr h2 (x := absF f) (List.mem_map.2 ⟨f, hfm, rfl⟩) (by simp [absF])).symm
        · simp only [tick, upA, List.length_map]
          rw [List.length_map] at h4
          omega
        · intro y hy
          obtain ⟨x, hx, h9 | ⟨_, h9⟩⟩ := upA_mem hy
          · subst h9
            exact h5 y hx
          · subst h9
            exact h5 x hx
        · intro y hy
          obtain ⟨x, hx, h9 | ⟨_, h9⟩⟩ := upA_mem hy
          · subst h9
            exact h7 y hx
          · subst h9
            exact h7 x hx
        · intro x hx
          rcases upF_blk hx with h9 | h9
          · exact .inl h9
          · exact .inl (dkB_v hfm h9)
      · rw [if_neg hE] at hD
        rw [if_neg hE]
        exact ⟨_, rfl, ⟨⟨m, u, fv, fs, hD.more (Nat.le_succ nb), rfl, rfl⟩, h2, ⟨by simp only [tick]; omega, by simp only [tick]; omega⟩, Nat.le_succ_of_le h4, h5, h6, h7⟩, kk, fun x hx => .inl hx⟩
  · refine Calls.mono (sync_off d sec m nb s w u fv cr op ft fs h1) ?_
    rintro e w' ⟨rfl, rfl⟩
    exact ⟨_, rfl, h0.more (Nat.le_succ nb) (Nat.le_refl _), Ev.refl _ _⟩

theorem nd_nm (A : List DF) : (ndA A).map DF.nm = A.map DF.nm := by unfold ndA; rw [List.map_map]; rfl
theorem dist_nd {A : List DF} (h : Dist A) : Dist (ndA A) := by rw [dist_iff, nd_nm]; exact (dist_iff A).1 h
theorem nd_abs (fs : List DFile) : (fs.map fun f => { f with nd := true }).map absF = ndA (fs.map absF) := by unfold ndA; rw [List.map_map, List.map_map]; rfl
theorem dkB_nd (d m : Nat) (u fv : Value) (fs : List DFile) : ∀ x ∈ dkB d m u fv (fs.map fun f => { f with nd := true }), x ∈ dkB d m u fv fs := by
  intro x hx
  simp only [dkB, List.mem_cons, List.mem_append, List.mem_flatMap] at hx ⊢
  rcases hx with h | h | h | ⟨f, hf, h⟩
  · exact .inl h
  · exact .inr (.inl h)
  · exact .inr (.inr (.inl h))
  · obtain ⟨a, ha, rfl⟩ := List.mem_map.1 hf
    exact .inr (.inr (.inr ⟨a, ha, h⟩))

theorem names_D (d nb bb : Nat) (B : List Nat) (σ : DSt) (w : World) (h : DK w d B nb bb σ) (hn : nb ≤ 1000000000) :
    Calls Try.prog 42 #[.pointer (some ⟨d, 0, none⟩)] w fun e w' => ∃ B', e = .returned (.int .i64 ((stNames σ).1 : Nat)) ∧ DK w' d B' (nb + 1) bb (stNames σ).2 ∧ Ev w w' B B' := by
  have h0 := h
  obtain ⟨sec, cr, op, off, ft, A⟩ := σ
  obtain ⟨⟨m, u, fv, fs, h1, rfl, hA⟩, h2, h3, h4, h5, h6, h7⟩ := h
  dsimp only at *
  subst hA
  cases off
  · refine Calls.mono (syncNames_any d sec m nb w u fv cr op ft fs h1 ⟨h3.1, by omega⟩ (by rw [List.length_map] at h4; omega)) ?_
    rintro e w' ⟨E, rfl, rfl, hD, hK⟩
    have kk : Kept (dkB d m u fv fs) w w' := hK.mono (by
      intro x hx
      simp only [List.mem_cons] at hx
      rcases hx with rfl | hx
      · simp [dkB]
      · obtain ⟨a, ha, rfl⟩ := List.mem_map.1 hx
        exact dkB_g ha)
    have e1 : stNames ⟨sec, cr, op, false, ft, fs.map absF⟩ = (opE ft cr op 0, tick ⟨sec, cr, op, false, ft, fs.map absF⟩ (if opE ft cr op 0 = 0 then ndA (fs.map absF) else fs.map absF)) := rfl
    rw [e1]
    by_cases hE : opE ft cr op 0 = 0
    · unfold snU snF at hD
      rw [if_pos hE, if_pos hE] at hD
      rw [if_pos hE]
      refine ⟨_, rfl, ⟨⟨m, _, fv, _, hD.more (Nat.le_succ nb), rfl, by rw [nd_abs]; rfl⟩, dist_nd h2, ⟨by simp only [tick]; omega, by simp only [tick]; omega⟩, ?_, ?_, h6, ?_⟩, kk, ?_⟩
      · simp only [tick, ndA, List.length_map]
        rw [List.length_map] at h4
        omega
      · intro y hy
        obtain ⟨x, hx, rfl⟩ := List.mem_map.1 hy
        exact h5 x hx
      · intro y hy
        obtain ⟨x, hx, rfl⟩ := List.mem_map.1 hy
        exact h7 x hx
      · intro x hx
        left
        have := dkB_nd d m (.slice none 0 0) fv fs x hx
        simp only [dkB, blk, List.mem_cons, List.mem_append, List.mem_flatMap, List.not_mem_nil, false_or] at this ⊢
        rcases this with h | h | h | h
        · exact .inl h
        · exact .inr (.inl h)
        · exact .inr (.inr (.inl (.inr h)))
        · exact .inr (.inr (.inr h))
    · unfold snU snF at hD
      rw [if_neg hE, if_neg hE] at hD
      rw [if_neg hE]
      exact ⟨_, rfl, ⟨⟨m, u, fv, fs, hD.more (Nat.le_succ nb), rfl, rfl⟩, h2, ⟨by simp only [tick]; omega, by simp only [tick]; omega⟩, Nat.le_succ_of_le h4, h5, h6, h7⟩, kk, fun x hx => .inl hx⟩
  · refine Calls.mono (syncNames_off d sec m nb w u fv cr op ft fs h1) ?_
    rintro e w' ⟨rfl, rfl⟩
    exact ⟨_, rfl, h0.more (Nat.le_succ nb) (Nat.le_refl _), Ev.refl _ _⟩
end Go.Proofs.Ytlopdlcepmmjdaa
