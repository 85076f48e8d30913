import Derived.Test.YtejchncdimcdbaaGreatDoorTopA
import Derived.Test.YtejchncdimcdbaaGreatDoorJoin
import Derived.BigFrame
import Derived.Lib.ConvBytes
import Derived.Laws.AppendOwn
import Derived.Lib.ItoaNum
import Derived.Test.YtejchncdimcdbaaGreatDoorSame
import Derived.Lib.AppendIntMem
import Derived.Lib.ParseIntBCases
import Derived.Deep.DeepAppendRoom
import Derived.ArgAppend
import Derived.Test.YtejchncdimcdbaaGreatDoorCat
import Derived.Test.YtejchncdimcdbaaGreatDoorRNum
import Derived.Test.YtejchncdimcdbaaGreatDoorWAll
import Derived.Test.YtejchncdimcdbaaGreatDoorWNew
import Derived.Deep.RegionHeld3
import Derived.Defers
import Derived.Recover
import Derived.Deep.RegionLaw
import Derived.Test.YtejchncdimcdbaaGreatDoorQTail
import Derived.Laws.Rows
import Derived.Test.YtejchncdimcdbaaGreatDoorBase
import Derived.Laws.StructEq
import Derived.Deep.MidRow
namespace Go.Proofs.YtejchncdimcdbaaGreatDoor
open Go.RowKit Go.BigFrame
set_option linter.unusedVariables false
set_option linter.unusedSimpArgs false

/-- The disk at block d, in its blocks B: at most nb files, at most ob operations, bb bytes a file. -/
structure DKf (w : World) (d : Nat) (B : List Nat) (nb ob bb : Nat) (σ : DSt) : Prop where
  ex : ∃ m u fv fs, DkAt w d σ.sec m nb u fv σ.cr σ.op σ.off σ.ft fs ∧ B = dkB d m u fv fs ∧ σ.A = fs.map absF
  dist : Dist σ.A
  opb : 0 ≤ σ.op ∧ σ.op ≤ ob
  len : σ.A.length ≤ nb
  byt : ∀ f ∈ σ.A, f.bs.length ≤ bb
  secb : 1 ≤ σ.sec ∧ σ.sec ≤ 4096
  nms : ∀ f ∈ σ.A, isNm f.nm = true
theorem DKf.toDK {w : World} {d nb ob bb : Nat} {B : List Nat} {σ : DSt} (h : DKf w d B nb ob bb σ) : DK w d B (max nb ob) bb σ := by
  obtain ⟨m, u, fv, fs, h1, h2, h3⟩ := h.ex
  exact ⟨⟨m, u, fv, fs, h1.more (by omega), h2, h3⟩, h.dist, ⟨h.opb.1, by have := h.opb.2; omega⟩, Nat.le_trans h.len (by omega), h.byt, h.secb, h.nms⟩
theorem DK.toF {w : World} {d nb bb : Nat} {B : List Nat} {σ : DSt} (h : DK w d B nb bb σ) {ob : Nat} (ho : σ.op ≤ ob) : DKf w d B nb ob bb σ := by
  obtain ⟨m, u, fv, fs, h1, h2, h3⟩ := h.ex
  exact ⟨⟨m, u, fv, fs, h1, h2, h3⟩, h.dist, ⟨h.opb.1, ho⟩, h.len, h.byt, h.secb, h.nms⟩
theorem DKf.lt {w : World} {d nb ob bb : Nat} {B : List Nat} {σ : DSt} (h : DKf w d B nb ob bb σ) : ∀ x ∈ B, x < w.heap.size := h.toDK.lt
theorem DKf.kept {L : List Nat} {w w' : World} {d nb ob bb : Nat} {B : List Nat} {σ : DSt} (h : DKf w d B nb ob bb σ) (k : Kept L w w') (hn : ∀ x ∈ B, x ∉ L) : DKf w' d B nb ob bb σ := by
  obtain ⟨m, u, fv, fs, h1, rfl, h3⟩ := h.ex
  exact ⟨⟨m, u, fv, fs, h1.kept k hn, rfl, h3⟩, h.dist, h.opb, h.len, h.byt, h.secb, h.nms⟩
theorem DKf.old {w w' : World} {d nb ob bb : Nat} {B : List Nat} {σ : DSt} (h : DKf w d B nb ob bb σ) (k : Kept [] w w') : DKf w' d B nb ob bb σ := h.kept k (by simp)
theorem DKf.more {w : World} {d nb ob bb : Nat} {B : List Nat} {σ : DSt} (h : DKf w d B nb ob bb σ) {nb' ob' bb' : Nat} (h1 : nb ≤ nb') (h0 : ob ≤ ob') (h2 : bb ≤ bb') : DKf w d B nb' ob' bb' σ := by
  obtain ⟨m, u, fv, fs, h3, rfl, h4⟩ := h.ex
  exact ⟨⟨m, u, fv, fs, h3.more h1, rfl, h4⟩, h.dist, ⟨h.opb.1, by have := h.opb.2; omega⟩, Nat.le_trans h.len h1, fun f hf => Nat.le_trans (h.byt f hf) h2, h.secb, h.nms⟩

theorem create_F (d nb ob bb : Nat) (B : List Nat) (σ : DSt) (s : ByteArray) (w : World) (h : DKf w d B nb ob bb σ) (hs : s.size ≤ 140737488355328) (hn : nb ≤ 1000000000) (hob : ob ≤ 1000000000) :
    Calls Tryz.prog 88 #[.pointer (some ⟨d, 0, none⟩), .string s] w fun e w' => ∃ B', e = .returned (.int .i64 ((stCreate σ s).1 : Nat)) ∧ DKf w' d B' (nb + 1) (ob + 1) bb (stCreate σ s).2 ∧ Ev w w' B B' := by
  have h0 := h
  obtain ⟨sec, cr, op, off, ft, A⟩ := σ
  obtain ⟨⟨m, u, fv, fs, h1, rfl, hA⟩, h2, h3, h4, h5, h6, h7⟩ := h
  dsimp only at *
  subst hA
  cases off
  · have e1 : stCreate ⟨sec, cr, op, false, ft, fs.map absF⟩ s = (opE ft cr op (own1 fs s), tick ⟨sec, cr, op, false, ft, fs.map absF⟩ (if own1 fs s = 0 ∧ opE ft cr op (own1 fs s) ≠ 7 then fs.map absF ++ [⟨s, [], 0, false⟩] else fs.map absF)) := by
      rw [own_abs]; rfl
    rw [e1]
    refine Calls.mono (create_any d sec m nb s w u fv cr op ft fs h1 hs ⟨h3.1, by omega⟩ hn (by rw [List.length_map] at h4; omega)) ?_
    rintro e w' ⟨E, G, u', rfl, hE, hD, hK, hN⟩
    subst hE
    refine ⟨_, rfl, ⟨⟨m, u', fv, _, hD, rfl, ?_⟩, ?_, ⟨by simp only [tick]; omega, by simp only [tick]; omega⟩, ?_, ?_, h6, ?_⟩, hK, hN⟩
    · simp only [tick, crF]
      split <;> simp [absF]
    all_goals simp only [tick]
    all_goals split
    · rename_i hc
      rw [own_abs] at hc
      obtain ⟨hc1, hc2⟩ := ownA_zero hc.1
      unfold Dist
      rw [List.pairwise_append]
      refine ⟨h2, List.pairwise_singleton _ _, ?_⟩
      intro a ha b hb
      simp only [List.mem_singleton] at hb
      subst hb
      intro e
      exact findA_none hc2 a ha (by rw [e])
    · exact h2
    · rw [List.length_append, List.length_singleton]; omega
    · omega
    · intro f hf
      rw [List.mem_append, List.mem_singleton] at hf
      rcases hf with hf | rfl
      · exact h5 f hf
      · simp
    · exact h5
    · rename_i hc
      rw [own_abs] at hc
      obtain ⟨hc1, hc2⟩ := ownA_zero hc.1
      intro f hf
      rw [List.mem_append, List.mem_singleton] at hf
      rcases hf with hf | rfl
      · exact h7 f hf
      · exact hc1
    · exact h7
  · refine Calls.mono (create_off d sec m nb s w u fv cr op ft fs h1) ?_
    rintro e w' ⟨rfl, rfl⟩
    exact ⟨_, rfl, h0.more (Nat.le_succ nb) (Nat.le_succ ob) (Nat.le_refl _), Ev.refl _ _⟩

theorem append_F (d nb ob bb : Nat) (B : List Nat) (σ : DSt) (s : ByteArray) (pv : Value) (ps : List Nat) (w : World) (h : DKf w d B nb ob bb σ) (hs : s.size ≤ 140737488355328) (hn : nb ≤ 1000000000) (hob : ob ≤ 1000000000) (hp : Rd w pv ps) (hpd : ∀ x ∈ zblk pv ps, x ∉ B) (hb : bb + ps.length ≤ 140737488350000) :
    Calls Tryz.prog 90 #[.pointer (some ⟨d, 0, none⟩), .string s, pv] w fun e w' => ∃ B', e = .returned (.int .i64 ((stAppend σ s ps).1 : Nat)) ∧ DKf w' d B' nb (ob + 1) (bb + ps.length) (stAppend σ s ps).2 ∧ Ev w w' B B' := by
  have h0 := h
  obtain ⟨sec, cr, op, off, ft, A⟩ := σ
  obtain ⟨⟨m, u, fv, fs, h1, rfl, hA⟩, h2, h3, h4, h5, h6, h7⟩ := h
  dsimp only at *
  subst hA
  have hd : d ∉ zblk pv ps := fun hx => hpd d hx (by simp [dkB])
  cases off
  · cases hf : findA (fs.map absF) s.data.toList with
    | none =>
      have e1 : stAppend ⟨sec, cr, op, false, ft, fs.map absF⟩ s ps = (opE ft cr op 5, tick ⟨sec, cr, op, false, ft, fs.map absF⟩ (fs.map absF)) := by
        simp only [stAppend, hf]; rfl
      rw [e1]
      refine Calls.mono (append_none d sec m nb s pv w u fv cr op ft fs h1 hs ⟨h3.1, by omega⟩ (look_no hf)) ?_
      rintro e w' ⟨rfl, hD, hK⟩
      exact ⟨_, rfl, ⟨⟨m, u, fv, fs, hD, rfl, rfl⟩, h2, ⟨by simp only [tick]; omega, by simp only [tick]; omega⟩, h4, fun f hf => Nat.le_trans (h5 f hf) (Nat.le_add_right _ _), h6, h7⟩, hK.mono (by intro x hx; simp at hx; simp [dkB, hx]), fun x hx => .inl hx⟩
    | some x =>
      obtain ⟨f, hfm, hl, rfl, hnm⟩ := look_file hf
      have hnm2 := ba_ext hnm
      subst hnm2
      have hfl := h5 (absF f) (List.mem_map.2 ⟨f, hfm, rfl⟩)
      have hfin : ∀ (v' : Value) (w' : World) (qs : List Nat), qs.length ≤ ps.length → qs = ps.take (appK ⟨sec, cr, op, false, ft, fs.map absF⟩ ps) → DkAt w' d sec m nb u fv cr (op + 1) (decide (op + 1 = cr)) ft (upF fs f.g v' (f.bs ++ qs) f.sy) → Kept (d :: f.g :: blk f.v) w w' → (∀ x ∈ blk v', x ∈ blk f.v ∨ w.heap.size ≤ x) →
          ∃ B', DKf w' d B' nb (ob + 1) (bb + ps.length) (tick ⟨sec, cr, op, false, ft, fs.map absF⟩ (upA (fs.map absF) f.nm fun f => { f with bs := f.bs ++ ps.take (appK ⟨sec, cr, op, false, ft, fs.map absF⟩ ps) })) ∧ Ev w w' (dkB d m u fv fs) B' := by
        intro v' w' qs hq hqe hD hK hV
        refine ⟨_, ⟨⟨m, u, fv, _, hD, rfl, ?_⟩, dist_up (by intro x; rfl) h2, ⟨by simp only [tick]; omega, by simp only [tick]; omega⟩, ?_, ?_, h6, ?_⟩, hK.mono ?_, ?_⟩
        · simp only [tick]
          rw [up_abs h1.apart h2 hfm]
          exact (up_congr h2 (x := absF f) (List.mem_map.2 ⟨f, hfm, rfl⟩) (by simp [absF, hqe])).symm
        · simp only [tick, upA, List.length_map]
          rw [List.length_map] at h4
          omega
        · intro y hy
          obtain ⟨x, hx, h9 | ⟨_, h9⟩⟩ := upA_mem hy
          · subst h9
            exact Nat.le_trans (h5 y hx) (Nat.le_add_right _ _)
          · subst h9
            have := h5 x hx
            simp only [List.length_append, List.length_take]
            omega
        · intro y hy
          obtain ⟨x, hx, h9 | ⟨_, h9⟩⟩ := upA_mem hy
          · subst h9
            exact h7 y hx
          · subst h9
            exact h7 x hx
        · intro x hx
          simp only [List.mem_cons] at hx
          rcases hx with rfl | rfl | hx
          · simp [dkB]
          · exact dkB_g hfm
          · exact dkB_v hfm hx
        · intro x hx
          rcases upF_blk hx with h9 | h9
          · exact .inl h9
          · exact (hV x h9).imp (dkB_v hfm) id
      have e1 : stAppend ⟨sec, cr, op, false, ft, fs.map absF⟩ f.nm ps = (opE ft cr op 0, tick ⟨sec, cr, op, false, ft, fs.map absF⟩ (upA (fs.map absF) f.nm fun f => { f with bs := f.bs ++ ps.take (appK ⟨sec, cr, op, false, ft, fs.map absF⟩ ps) })) := by
        simp only [stAppend, hf]; rfl
      rw [e1]
      have hfl2 : f.bs.length ≤ bb := hfl
      by_cases h7e : opE ft cr op 0 = 7
      · obtain ⟨h8, c, h9⟩ : op + 1 ≠ cr ∧ ∃ c, ft (op + 1) = some c := by
          have h10 := h7e
          unfold opE at h10
          split at h10
          · omega
          · rename_i h11
            refine ⟨h11, ?_⟩
            rw [if_neg (by simp)] at h10
            split at h10
            · rename_i h12
              exact Option.isSome_iff_exists.1 h12
            · omega
        refine Calls.mono (append_io d sec m nb f.nm pv ps w u fv cr op ft fs h1 hs ⟨h3.1, by omega⟩ f hfm hl hp hd (by omega) h8 c h9) ?_
        rintro e w' ⟨v', rfl, hD, hK, hV⟩
        obtain ⟨B', hB1, hB2⟩ := hfin v' w' (ps.take (wtn c ps.length).toNat) (by rw [List.length_take]; omega) (by unfold appK; rw [if_pos h7e]; show _ = List.take (wtn ((ft (op + 1)).getD 0) _).toNat ps; rw [h9]; rfl) (by rw [decide_eq_false h8]; exact hD) hK hV
        exact ⟨B', by rw [h7e]; rfl, hB1, hB2⟩
      · refine Calls.mono (append_some d sec m nb f.nm pv ps w u fv cr op ft fs h1 hs ⟨h3.1, by omega⟩ f hfm hl hp hd (by omega) h7e) ?_
        rintro e w' ⟨v', rfl, hD, hK, hV⟩
        obtain ⟨B', hB1, hB2⟩ := hfin v' w' ps (Nat.le_refl _) (by unfold appK; rw [if_neg h7e, List.take_length]) hD hK hV
        exact ⟨B', rfl, hB1, hB2⟩
  · refine Calls.mono (append_off d sec m nb s pv w u fv cr op ft fs h1) ?_
    rintro e w' ⟨rfl, rfl⟩
    exact ⟨_, rfl, h0.more (Nat.le_refl nb) (Nat.le_succ ob) (Nat.le_add_right _ _), Ev.refl _ _⟩

theorem sync_F (d nb ob bb : Nat) (B : List Nat) (σ : DSt) (s : ByteArray) (w : World) (h : DKf w d B nb ob bb σ) (hs : s.size ≤ 140737488355328) (hn : nb ≤ 1000000000) (hob : ob ≤ 1000000000) :
    Calls Tryz.prog 86 #[.pointer (some ⟨d, 0, none⟩), .string s] w fun e w' => ∃ B', e = .returned (.int .i64 ((stSync σ s).1 : Nat)) ∧ DKf w' d B' nb (ob + 1) bb (stSync σ s).2 ∧ Ev w w' B B' := by
  have h0 := h
  obtain ⟨sec, cr, op, off, ft, A⟩ := σ
  obtain ⟨⟨m, u, fv, fs, h1, rfl, hA⟩, h2, h3, h4, h5, h6, h7⟩ := h
  dsimp only at *
  subst hA
  cases off
  · cases hf : findA (fs.map absF) s.data.toList with
    | none =>
      have e1 : stSync ⟨sec, cr, op, false, ft, fs.map absF⟩ s = (opE ft cr op 5, tick ⟨sec, cr, op, false, ft, fs.map absF⟩ (fs.map absF)) := by
        simp only [stSync, hf]; rfl
      rw [e1]
      refine Calls.mono (sync_none d sec m nb s w u fv cr op ft fs h1 hs ⟨h3.1, by omega⟩ (look_no hf)) ?_
      rintro e w' ⟨rfl, hD, hK⟩
      exact ⟨_, rfl, ⟨⟨m, u, fv, fs, hD, rfl, rfl⟩, h2, ⟨by simp only [tick]; omega, by simp only [tick]; omega⟩, h4, h5, h6, h7⟩, hK.mono (by intro x hx; simp at hx; simp [dkB, hx]), fun x hx => .inl hx⟩
    | some x =>
      obtain ⟨f, hfm, hl, rfl, hnm⟩ := look_file hf
      have hnm2 := ba_ext hnm
      subst hnm2
      have e1 : stSync ⟨sec, cr, op, false, ft, fs.map absF⟩ f.nm = (opE ft cr op 0, tick ⟨sec, cr, op, false, ft, fs.map absF⟩ (if opE ft cr op 0 = 0 then upA (fs.map absF) f.nm fun f => { f with sy := f.bs.length } else fs.map absF)) := by
        simp only [stSync, hf]; rfl
      rw [e1]
      refine Calls.mono (sync_some d sec m nb f.nm w u fv cr op ft fs h1 hs ⟨h3.1, by omega⟩ f hfm hl) ?_
      rintro e w' ⟨E, rfl, rfl, hD, hK⟩
      have kk : Kept (dkB d m u fv fs) w w' := hK.mono (by
        intro x hx
        simp only [List.mem_cons, List.not_mem_nil, or_false] at hx
        rcases hx with rfl | rfl
        · simp [dkB]
        · exact dkB_g hfm)
      by_cases hE : opE ft cr op 0 = 0
      · rw [if_pos hE] at hD
        rw [if_pos hE]
        refine ⟨_, rfl, ⟨⟨m, u, fv, _, hD, rfl, ?_⟩, dist_up (by intro x; rfl) h2, ⟨by simp only [tick]; omega, by simp only [tick]; omega⟩, ?_, ?_, h6, ?_⟩, kk, ?_⟩
        · simp only [tick]
          rw [up_abs h1.apart h2 hfm]
          exact (up_congr h2 (x := absF f) (List.mem_map.2 ⟨f, hfm, rfl⟩) (by simp [absF])).symm
        · simp only [tick, upA, List.length_map]
          rw [List.length_map] at h4
          omega
        · intro y hy
          obtain ⟨x, hx, h9 | ⟨_, h9⟩⟩ := upA_mem hy
          · subst h9
            exact h5 y hx
          · subst h9
            exact h5 x hx
        · intro y hy
          obtain ⟨x, hx, h9 | ⟨_, h9⟩⟩ := upA_mem hy
          · subst h9
            exact h7 y hx
          · subst h9
            exact h7 x hx
        · intro x hx
          rcases upF_blk hx with h9 | h9
          · exact .inl h9
          · exact .inl (dkB_v hfm h9)
      · rw [if_neg hE] at hD
        rw [if_neg hE]
        exact ⟨_, rfl, ⟨⟨m, u, fv, fs, hD, rfl, rfl⟩, h2, ⟨by simp only [tick]; omega, by simp only [tick]; omega⟩, h4, h5, h6, h7⟩, kk, fun x hx => .inl hx⟩
  · refine Calls.mono (sync_off d sec m nb s w u fv cr op ft fs h1) ?_
    rintro e w' ⟨rfl, rfl⟩
    exact ⟨_, rfl, h0.more (Nat.le_refl nb) (Nat.le_succ ob) (Nat.le_refl _), Ev.refl _ _⟩

theorem names_F (d nb ob bb : Nat) (B : List Nat) (σ : DSt) (w : World) (h : DKf w d B nb ob bb σ) (hn : nb ≤ 1000000000) (hob : ob ≤ 1000000000) :
    Calls Tryz.prog 91 #[.pointer (some ⟨d, 0, none⟩)] w fun e w' => ∃ B', e = .returned (.int .i64 ((stNames σ).1 : Nat)) ∧ DKf w' d B' nb (ob + 1) bb (stNames σ).2 ∧ Ev w w' B B' := by
  have h0 := h
  obtain ⟨sec, cr, op, off, ft, A⟩ := σ
  obtain ⟨⟨m, u, fv, fs, h1, rfl, hA⟩, h2, h3, h4, h5, h6, h7⟩ := h
  dsimp only at *
  subst hA
  cases off
  · refine Calls.mono (syncNames_any d sec m nb w u fv cr op ft fs h1 ⟨h3.1, by omega⟩ (by rw [List.length_map] at h4; omega)) ?_
    rintro e w' ⟨E, rfl, rfl, hD, hK⟩
    have kk : Kept (dkB d m u fv fs) w w' := hK.mono (by
      intro x hx
      simp only [List.mem_cons] at hx
      rcases hx with rfl | hx
      · simp [dkB]
      · obtain ⟨a, ha, rfl⟩ := List.mem_map.1 hx
        exact dkB_g ha)
    have e1 : stNames ⟨sec, cr, op, false, ft, fs.map absF⟩ = (opE ft cr op 0, tick ⟨sec, cr, op, false, ft, fs.map absF⟩ (if opE ft cr op 0 = 0 then ndA (fs.map absF) else fs.map absF)) := rfl
    rw [e1]
    by_cases hE : opE ft cr op 0 = 0
    · unfold snU snF at hD
      rw [if_pos hE, if_pos hE] at hD
      rw [if_pos hE]
      refine ⟨_, rfl, ⟨⟨m, _, fv, _, hD, rfl, by rw [nd_abs]; rfl⟩, dist_nd h2, ⟨by simp only [tick]; omega, by simp only [tick]; omega⟩, ?_, ?_, h6, ?_⟩, kk, ?_⟩
      · simp only [tick, ndA, List.length_map]
        rw [List.length_map] at h4
        omega
      · intro y hy
        obtain ⟨x, hx, rfl⟩ := List.mem_map.1 hy
        exact h5 x hx
      · intro y hy
        obtain ⟨x, hx, rfl⟩ := List.mem_map.1 hy
        exact h7 x hx
      · intro x hx
        left
        have := dkB_nd d m (.slice none 0 0) fv fs x hx
        simp only [dkB, blk, List.mem_cons, List.mem_append, List.mem_flatMap, List.not_mem_nil, false_or] at this ⊢
        rcases this with h | h | h | h
        · exact .inl h
        · exact .inr (.inl h)
        · exact .inr (.inr (.inl (.inr h)))
        · exact .inr (.inr (.inr h))
    · unfold snU snF at hD
      rw [if_neg hE, if_neg hE] at hD
      rw [if_neg hE]
      exact ⟨_, rfl, ⟨⟨m, u, fv, fs, hD, rfl, rfl⟩, h2, ⟨by simp only [tick]; omega, by simp only [tick]; omega⟩, h4, h5, h6, h7⟩, kk, fun x hx => .inl hx⟩
  · refine Calls.mono (syncNames_off d sec m nb w u fv cr op ft fs h1) ?_
    rintro e w' ⟨rfl, rfl⟩
    exact ⟨_, rfl, h0.more (Nat.le_refl nb) (Nat.le_succ ob) (Nat.le_refl _), Ev.refl _ _⟩

end Go.Proofs.YtejchncdimcdbaaGreatDoor
namespace Go.Proofs.YtejchncdimcdbaaGreatDoor
open Go.RowKit Go.BigFrame
set_option linter.unusedVariables false
set_option linter.unusedSimpArgs false

def seg7 : ByteArray := ⟨#[115, 101, 103, 45, 48, 48, 48, 48, 48, 48, 48, 48, 48, 48, 48, 48, 48, 48, 48, 48, 48, 48, 48, 55]⟩
def dig7 : ByteArray := ⟨#[48, 48, 48, 48, 48, 48, 48, 48, 48, 48, 48, 48, 48, 48, 48, 48, 48, 48, 48, 55]⟩
def zer64 : ByteArray := ⟨#[48, 48, 48, 48, 48, 48, 48, 48, 48, 48, 48, 48, 48, 48, 48, 48, 48, 48, 48, 48, 48, 48, 48, 48, 48, 48, 48, 48, 48, 48, 48, 48, 48, 48, 48, 48, 48, 48, 48, 48, 48, 48, 48, 48, 48, 48, 48, 48, 48, 48, 48, 48, 48, 48, 48, 48, 48, 48, 48, 48, 48, 48, 48, 48]⟩

set_option maxRecDepth 100000 in
set_option maxHeartbeats 1000000 in
theorem small7_any (w : World) : Calls Tryz.prog 168 #[.int .i64 7] w fun e w' => e = .returned (.string ⟨#[55]⟩) ∧ w' = w := by
  go_enter Tryz.func168, Tryz.ntmps168
  go_wp2
  go_ret
  exact ⟨by rfl, rfl⟩

set_option maxRecDepth 100000 in
set_option maxHeartbeats 1000000 in
theorem ifmt7_any (w : World) : Calls Tryz.prog 118 #[.int .u64 7, .int .i64 10] w fun e w' => e = .returned (.string ⟨#[55]⟩) ∧ w' = w := by
  go_enter Tryz.func118, Tryz.ntmps118
  go_wp2_with fail
  refine Calls.mono (small7_any _) ?_
  rintro e w1 ⟨rfl, rfl⟩
  go_wp2
  go_ret
  exact ⟨rfl, rfl⟩

set_option maxRecDepth 100000 in
set_option maxHeartbeats 1000000 in
theorem fmt7_any (w : World) : Calls Tryz.prog 72 #[.int .u64 7, .int .i64 10] w fun e w' => e = .returned (.string ⟨#[55]⟩) ∧ w' = w := by
  go_enter Tryz.func72, Tryz.ntmps72
  go_wp2_with fail
  refine Calls.mono (ifmt7_any _) ?_
  rintro e w1 ⟨rfl, rfl⟩
  go_wp2
  go_ret
  exact ⟨rfl, rfl⟩

set_option maxRecDepth 100000 in
set_option maxHeartbeats 1000000 in
/-- HasPrefix of two strings that are known. -/
theorem hasPre_any (s t : ByteArray) (w : World) (hs : s.size ≤ 1000000) (ht : t.size ≤ s.size) :
    Calls Tryz.prog 174 #[.string s, .string t] w fun e w' => e = .returned (.bool ((s.extract 0 t.size).toList == t.toList)) ∧ w' = w := by
  have h1 : (t.size : Int) ≤ s.size := by omega
  go_enter Tryz.func174, Tryz.ntmps174
  go_wp2
  go_ret
  exact ⟨rfl, rfl⟩

set_option maxRecDepth 100000 in
set_option maxHeartbeats 1000000 in
theorem hasP_any (s t : ByteArray) (w : World) (hs : s.size ≤ 1000000) (ht : t.size ≤ s.size) :
    Calls Tryz.prog 120 #[.string s, .string t] w fun e w' => e = .returned (.bool ((s.extract 0 t.size).toList == t.toList)) ∧ w' = w := by
  go_enter Tryz.func120, Tryz.ntmps120
  go_wp2_with fail
  refine Calls.mono (hasPre_any s t _ hs ht) ?_
  rintro e w1 ⟨rfl, rfl⟩
  go_wp2
  go_ret
  exact ⟨rfl, rfl⟩

theorem and_32 : ∀ k : Fin 21, bits BinOp.and IntKind.u64 ((k.val : Nat) : Int) 4294967295 = ((k.val : Nat) : Int) := by decide +kernel

set_option maxRecDepth 100000 in
set_option maxHeartbeats 1000000 in
theorem mul64_1 (k : Nat) (w : World) (hk : k ≤ 20) : Calls Tryz.prog 173 #[.int .u64 1, .int .u64 k] w fun e w' => e = .returned (.tuple #[.int .u64 0, .int .u64 k]) ∧ w' = w := by
  have h1 : bits BinOp.and IntKind.u64 1 4294967295 = 1 := and_32 ⟨1, by omega⟩
  have h0 : bits BinOp.and IntKind.u64 0 4294967295 = 0 := and_32 ⟨0, by omega⟩
  have h2 : bits BinOp.and IntKind.u64 (k : Int) 4294967295 = k := and_32 ⟨k, by omega⟩
  have h3 : (k : Int) / 4294967296 = 0 := by omega
  have h4 : (k : Int) ≤ 20 := by omega
  go_enter Tryz.func173, Tryz.ntmps173
  go_wp2
  go_ret2
  exact ⟨rfl, rfl⟩

set_option maxRecDepth 100000 in
set_option maxHeartbeats 1000000 in
theorem mul_1 (k : Nat) (w : World) (hk : k ≤ 20) : Calls Tryz.prog 119 #[.int .u64 1, .int .u64 k] w fun e w' => e = .returned (.tuple #[.int .u64 0, .int .u64 k]) ∧ w' = w := by
  go_enter Tryz.func119, Tryz.ntmps119
  go_wp2_with fail
  refine Calls.mono (mul64_1 k _ hk) ?_
  rintro e w1 ⟨rfl, rfl⟩
  go_wp2
  go_ret2
  exact ⟨rfl, rfl⟩
theorem ba_loopS (s : ByteArray) : ∀ n i r, s.size - i = n → ByteArray.toList.loop s i r = r.reverse ++ s.data.toList.drop i := by
  intro n
  induction n with
  | zero =>
    intro i r h
    rw [ByteArray.toList.loop]
    have h1 : s.size = s.data.toList.length := (Array.length_toList).symm
    rw [if_neg (by omega), List.drop_eq_nil_of_le (by omega), List.append_nil]
  | succ n ih =>
    intro i r h
    rw [ByteArray.toList.loop]
    have h1 : s.size = s.data.toList.length := (Array.length_toList).symm
    have h2 : i < s.data.toList.length := by omega
    rw [if_pos (by omega), ih (i + 1) _ (by omega), List.drop_eq_getElem_cons h2]
    have h3 : s.get! i = s.data.toList[i] := by
      have h4 : i < s.data.size := by simpa using h2
      rw [Array.getElem_toList]
      exact getElem!_pos s.data i h4
    simp [h3]
theorem ba_toListS (s : ByteArray) : s.toList = s.data.toList := by
  unfold ByteArray.toList
  rw [ba_loopS s _ 0 [] rfl]
  simp

def rep (b : UInt8) (n : Nat) : ByteArray := ⟨(List.replicate n b).toArray⟩
theorem ext_take (s : ByteArray) (n : Nat) : (s.extract 0 n).data.toList = s.data.toList.take n := by
  simp [ByteArray.data_extract]
theorem hasP_is (s t : ByteArray) (w : World) (b : Bool) (hs : s.size ≤ 1000000) (ht : t.size ≤ s.size) (h : (s.data.toList.take t.size == t.data.toList) = b) :
    Calls Tryz.prog 120 #[.string s, .string t] w fun e w' => e = .returned (.bool b) ∧ w' = w :=
  (hasP_any s t w hs ht).mono fun e w' h9 => ⟨by rw [h9.1, ba_toListS, ba_toListS, ext_take, h], h9.2⟩

set_option maxRecDepth 100000 in
set_option maxHeartbeats 2000000 in
theorem repeat_any (k : Nat) (w : World) (hk : 1 < k) (hk2 : k ≤ 20) : Calls Tryz.prog 73 #[.string ⟨#[48]⟩, .int .i64 k] w fun e w' => e = .returned (.string (zer64.extract 0 k)) ∧ w' = w := by
  have h0 : ((k : Int) == 0) = false := by simp; omega
  have h1 : ((k : Int) == 1) = false := by simp; omega
  have h2 : ¬ (k : Int) < 0 := by omega
  have h4 : (k : Int) ≤ 20 := by omega
  have h5 : decide (9223372036854775807 < (k : Int)) = false := by simp; omega
  go_enter Tryz.func73, Tryz.ntmps73
  go_wp2_with fail
  refine Calls.mono (mul_1 k _ hk2) ?_
  rintro e w1 ⟨rfl, rfl⟩
  go_wp2_with fail
  refine Calls.mono (hasP_is _ _ _ false (by decide) (by decide) (by decide)) ?_
  rintro e w2 ⟨rfl, rfl⟩
  go_wp2_with fail
  refine Calls.mono (hasP_is _ _ _ false (by decide) (by decide) (by decide)) ?_
  rintro e w2 ⟨rfl, rfl⟩
  go_wp2_with fail
  refine Calls.mono (hasP_is _ _ _ true (by decide) (by decide) (by decide)) ?_
  rintro e w2 ⟨rfl, rfl⟩
  go_wp2
  go_ret
  exact ⟨rfl, rfl⟩

set_option maxRecDepth 100000 in
set_option maxHeartbeats 2000000 in
theorem name7_any (w : World) : Calls Tryz.prog 35 #[.int .u64 7] w fun e w' => e = .returned (.string seg7) ∧ w' = w := by
  go_enter Tryz.func35, Tryz.ntmps35
  go_wp2_with fail
  refine Calls.mono (fmt7_any _) ?_
  rintro e w1 ⟨rfl, rfl⟩
  go_wp2_with fail
  refine Calls.mono (repeat_any 19 _ (by decide) (by decide)) ?_
  rintro e w1 ⟨rfl, rfl⟩
  go_wp2
  go_ret
  exact ⟨by rfl, rfl⟩
end Go.Proofs.YtejchncdimcdbaaGreatDoor
namespace Go.Proofs.YtejchncdimcdbaaGreatDoor
open Go.RowKit Go.BigFrame
set_option linter.unusedVariables false
set_option linter.unusedSimpArgs false

/-- The string that bytes make. -/
def strB (p : List Nat) : ByteArray := ⟨(p.map UInt8.ofNat).toArray⟩
theorem sbw_kept (w : World) (e : TypeId) (s : ByteArray) : Kept [] w (Lib.bytesWorld w e s) := ⟨rfl, rfl, rfl, by rw [Lib.bytesWorld_size]; omega, fun k hk _ => Lib.bytesWorld_at_old w e s k hk⟩
theorem strB_size (bs : List Nat) : (strB bs).size = bs.length := by simp [strB, ByteArray.size]
theorem sbw_rd (w : World) (bs : List Nat) (hb : ∀ x ∈ bs, x < 256) (hl : bs.length ≤ 1000000) : Rd (Lib.bytesWorld w 5 (strB bs)) (.slice (some ⟨w.heap.size, 0, none⟩) (strB bs).size (grownCap w (strB bs).size 0 5)) bs := by
  have h1 := grownCap_ge w (strB bs).size 0 5
  have h2 := grownCap_le_maxLen w (strB bs).size 0 5 (by rw [strB_size]; unfold maxLen; omega)
  rw [strB_size] at h1 h2 ⊢
  unfold maxLen at h2
  refine ⟨_, _, _, rfl, rfl, h1, ⟨by omega, by omega⟩, fun h => by simp at h, hb, fun hp => ⟨w.heap.size, 0, rfl, fun i hi => ?_⟩⟩
  rw [Nat.zero_add, Lib.bytesWorld_cell w 5 (strB bs) i (by rw [strB_size]; exact hi)]
  have hx := hb (bs[i]) (List.getElem_mem hi)
  simp [strB, List.getD_eq_getElem?_getD, hi, u8]
  omega
theorem sconv_str (w : World) (bs : List Nat) (n : Nat) (hn : bs.length = n) (hb : ∀ x ∈ bs, x < 256) (hl : n ≤ 1000000) : ∃ W c, (convert 9 72 (.string (strB bs))).run Tryz.prog w = .ok (.slice (some ⟨w.heap.size, 0, none⟩) n c) W ∧ Rd W (.slice (some ⟨w.heap.size, 0, none⟩) n c) bs ∧ Kept [] w W ∧ W.heap.size = w.heap.size + 1 := by
  have hu5 : Tryz.prog.underlying 5 = some (.int .u8) := by kernel_rfl
  have hu9 : Tryz.prog.underlying 9 = some .string := by kernel_rfl
  subst hn
  exact ⟨_, _, by rw [Lib.run_convert_string_bytes w 9 72 5 (strB bs) hu9 Tryz.underlying72 hu5, strB_size], by have := sbw_rd w bs hb hl; rwa [strB_size] at this, sbw_kept w 5 _, Lib.bytesWorld_size w 5 _⟩
/-- The number that digits make. -/
def dval (l : List Nat) : Nat := l.foldl (fun a d => a * 10 + (d - 48)) 0
theorem dval_snoc (l : List Nat) (d : Nat) : dval (l ++ [d]) = dval l * 10 + (d - 48) := by simp [dval]
theorem dval_app (l m : List Nat) : dval l ≤ dval (l ++ m) := by
  unfold dval
  rw [List.foldl_append]
  generalize List.foldl (fun a d => a * 10 + (d - 48)) 0 l = a
  induction m generalizing a with
  | nil => exact Nat.le_refl _
  | cons x r ih => simp only [List.foldl_cons]; exact Nat.le_trans (by omega) (ih _)
theorem dval_take (l : List Nat) (k : Nat) : dval (l.take k) ≤ dval l := by
  have := dval_app (l.take k) (l.drop k)
  rwa [List.take_append_drop] at this

set_option maxRecDepth 100000 in
set_option maxHeartbeats 4000000 in
theorem iparse_any (bs : List Nat) (w : World) (h0 : 0 < bs.length) (hl : bs.length ≤ 1000) (hd : ∀ x ∈ bs, 48 ≤ x ∧ x ≤ 57) (hv : dval bs < 18446744073709551616) :
    Calls Tryz.prog 177 #[.string (strB bs), .int .i64 10, .int .i64 64] w fun e w' => e = .returned (.tuple #[.int .u64 (dval bs), .nilIface]) ∧ Kept [] w w' := by
  obtain ⟨W, c, hrun, hrd, kW, hW⟩ := sconv_str w bs bs.length rfl (fun x hx => by have := hd x hx; omega) (by omega)
  obtain ⟨ao, n9, c9, he, _, hcap, ⟨hc1, hc2⟩, _, _, hcl⟩ := id hrd
  cases he
  obtain ⟨b9, o9, e9, hcell⟩ := hcl h0
  cases e9
  have HC := hide hcell
  have HD := hide hd
  have HV := hide (fun k => dval_take bs k)
  have HK := hide kW
  have hmax : IntKind.u64.wrap (IntKind.u64.wrap 18446744073709551616 - 1) = 18446744073709551615 := by decide
  have hne : (strB bs).toList.isEmpty = false := by
    rw [ba_toListS]
    cases bs with
    | nil => simp at h0
    | cons x r => simp [strB]
  have hdl : dval bs ≤ 18446744073709551615 := by omega
  clear hrd hcl hcell hd kW hW
  go_enter Tryz.func177, Tryz.ntmps177
  go_wp2_with fail
  go_loopw [12, 13, 101] (fun t12 t13 t101 wr => ∃ k : Nat, k ≤ bs.length ∧ t12 = .bool false ∧ t101 = .int .i64 k ∧ t13 = .int .u64 (dval (bs.take k)) ∧ wr = W) (fun _ _ t _ => bs.length - (intOf t).toNat)
  case atStart => exact ⟨0, by omega, rfl, rfl, rfl, rfl⟩
  case round =>
    obtain ⟨k, hk, rfl, rfl, rfl, rfl⟩ := hrel
    by_cases hkl : k < bs.length
    · have hkl' : (k : Int) < bs.length := by omega
      have ck := unhide HC k hkl
      have hdk := unhide HD bs[k] (List.getElem_mem hkl)
      rw [List.getD_eq_getElem?_getD, List.getElem?_eq_getElem hkl, Option.getD_some] at ck
      have hsn : dval (bs.take (k + 1)) = dval (bs.take k) * 10 + (bs[k] - 48) := by rw [List.take_succ_eq_append_getElem hkl, dval_snoc]
      have hle := unhide HV (k + 1)
      have HSN := hide hsn
      generalize bs[k] = d at ck hdk hsn HSN
      obtain ⟨m, hm⟩ : ∃ m, dval (bs.take (k + 1)) = m := ⟨_, rfl⟩
      rw [hm] at hsn hle HSN
      have HMM := hide hm
      clear hm
      generalize dval (bs.take k) = n at hsn HSN
      obtain ⟨e, rfl⟩ : ∃ e, d = e + 48 := ⟨d - 48, by omega⟩
      have he : e + 48 - 48 = e := by omega
      rw [he] at hsn HSN
      clear he
      have ck2 : wr.cell? ⟨w.heap.size, k, none⟩ = some (.int .u8 ((e : Int) + 48)) := by rw [Nat.zero_add] at ck; rw [ck]; simp [Go.Proofs.YtejchncdimcdbaaGreatDoor.u8]
      have b0 : (0 : Int) ≤ e := by omega
      have b2 : (e : Int) ≤ 9 := by omega
      have b3 : (0 : Int) ≤ n := by omega
      have b4 : ¬ (1844674407370955162 : Int) ≤ n := by omega
      have b5 : (n : Int) * 10 + e ≤ 18446744073709551615 := by omega
      have b8 : (n : Int) * 10 ≤ 18446744073709551615 := by omega
      have HM := hide (by rw [unhide HSN]; simp : (m : Int) = (n : Int) * 10 + e)
      clear hsn hdk ck hle HSN
      generalize (n : Int) = z at *
      generalize (e : Int) = y at *
      go_wp2
      go_roundw
      case rel => exact ⟨k + 1, by omega, rfl, by go_num, by rw [unhide HMM, unhide HM], trivial⟩
      case measure => simp [intOf]; omega
    · have hkl' : ¬ (k : Int) < bs.length := by omega
      obtain rfl : k = bs.length := by omega
      go_wp2
      go_ret2
      exact ⟨by simp, unhide HK⟩

set_option maxRecDepth 100000 in
set_option maxHeartbeats 1000000 in
theorem parse_any (bs : List Nat) (w : World) (h0 : 0 < bs.length) (hl : bs.length ≤ 1000) (hd : ∀ x ∈ bs, 48 ≤ x ∧ x ≤ 57) (hv : dval bs < 18446744073709551616) :
    Calls Tryz.prog 128 #[.string (strB bs), .int .i64 10, .int .i64 64] w fun e w' => e = .returned (.tuple #[.int .u64 (dval bs), .nilIface]) ∧ Kept [] w w' := by
  go_enter Tryz.func128, Tryz.ntmps128
  go_wp2_with fail
  refine Calls.mono (iparse_any bs _ h0 hl hd hv) ?_
  rintro e w1 ⟨rfl, k1⟩
  have HK1 := hide k1
  clear k1
  go_wp2
  go_ret2
  exact ⟨rfl, unhide HK1⟩

set_option maxRecDepth 100000 in
set_option maxHeartbeats 1000000 in
theorem itrim7_any (w : World) : Calls Tryz.prog 179 #[.string seg7, .string ⟨#[115, 101, 103, 45]⟩] w fun e w' => e = .returned (.string dig7) ∧ w' = w := by
  go_enter Tryz.func179, Tryz.ntmps179
  go_wp2_with fail
  refine Calls.mono (hasPre_any _ _ _ (by decide) (by decide)) ?_
  rintro e w1 ⟨rfl, rfl⟩
  rw [show ((seg7.extract 0 (⟨#[115, 101, 103, 45]⟩ : ByteArray).size).toList == (⟨#[115, 101, 103, 45]⟩ : ByteArray).toList) = true by rw [ba_toListS, ba_toListS, ext_take]; decide]
  unfold seg7
  go_wp2
  go_ret
  exact ⟨by rfl, rfl⟩

set_option maxRecDepth 100000 in
set_option maxHeartbeats 1000000 in
theorem trim7_any (w : World) : Calls Tryz.prog 129 #[.string seg7, .string ⟨#[115, 101, 103, 45]⟩] w fun e w' => e = .returned (.string dig7) ∧ w' = w := by
  go_enter Tryz.func129, Tryz.ntmps129
  go_wp2_with fail
  refine Calls.mono (itrim7_any _) ?_
  rintro e w1 ⟨rfl, rfl⟩
  go_wp2
  go_ret
  exact ⟨rfl, rfl⟩
theorem dig7_str : dig7 = strB [48, 48, 48, 48, 48, 48, 48, 48, 48, 48, 48, 48, 48, 48, 48, 48, 48, 48, 48, 55] := by rfl

set_option maxRecDepth 100000 in
set_option maxHeartbeats 1000000 in
theorem number7_any (w : World) : Calls Tryz.prog 83 #[.string seg7] w fun e w' => e = .returned (.tuple #[.int .u64 7, .int .i64 0]) ∧ Kept [] w w' := by
  have heq : (seg7.toList == seg7.toList) = true := by simp
  go_enter Tryz.func83, Tryz.ntmps83
  go_wp2_with fail
  refine Calls.mono (trim7_any _) ?_
  rintro e w1 ⟨rfl, rfl⟩
  rw [dig7_str]
  go_wp2_with fail
  refine Calls.mono (parse_any _ _ (by decide) (by decide) (by decide) (by decide)) ?_
  rintro e w2 ⟨rfl, k2⟩
  have HK2 := hide k2
  clear k2
  rw [show dval [48, 48, 48, 48, 48, 48, 48, 48, 48, 48, 48, 48, 48, 48, 48, 48, 48, 48, 48, 55] = 7 by decide]
  go_wp2_with fail
  refine Calls.mono (name7_any _) ?_
  rintro e w3 ⟨rfl, rfl⟩
  go_wp2
  go_ret2
  exact ⟨rfl, unhide HK2⟩
end Go.Proofs.YtejchncdimcdbaaGreatDoor
namespace Go.Proofs.YtejchncdimcdbaaGreatDoor
open Go.RowKit Go.BigFrame
set_option linter.unusedVariables false
set_option linter.unusedSimpArgs false

/-- The last k decimal digits of u. -/
def dgs (k u : Nat) : List Nat := (List.range k).map fun t => 48 + u / 10 ^ (k - 1 - t) % 10
theorem dgs_len (k u : Nat) : (dgs k u).length = k := by simp [dgs]
theorem dgs_dig (k u : Nat) : ∀ x ∈ dgs k u, 48 ≤ x ∧ x ≤ 57 := by
  intro x hx
  simp only [dgs, List.mem_map] at hx
  obtain ⟨t, _, rfl⟩ := hx
  omega
theorem dgs_byte (k u : Nat) : ∀ x ∈ dgs k u, x < 256 := fun x hx => by have := dgs_dig k u x hx; omega
theorem dgs_cons (k u : Nat) : dgs (k + 1) u = (48 + u / 10 ^ k % 10) :: dgs k u := by
  unfold dgs
  rw [List.range_succ_eq_map, List.map_cons, List.map_map]
  rw [List.cons.injEq]
  refine ⟨by simp, List.map_congr_left fun t ht => ?_⟩
  have : k + 1 - 1 - (t + 1) = k - 1 - t := by omega
  simp only [Function.comp, Nat.succ_eq_add_one, this]
theorem dgs_snoc (k u : Nat) : dgs (k + 1) u = dgs k (u / 10) ++ [48 + u % 10] := by
  unfold dgs
  rw [List.range_succ, List.map_append]
  have h1 : (List.range k).map (fun t => 48 + u / 10 ^ (k + 1 - 1 - t) % 10) = (List.range k).map (fun t => 48 + u / 10 / 10 ^ (k - 1 - t) % 10) := List.map_congr_left fun t ht => by
    have ht' : t < k := by simpa using ht
    rw [show k + 1 - 1 - t = (k - 1 - t) + 1 by omega, Nat.pow_succ', Nat.div_div_eq_div_mul]
  rw [h1]
  simp
theorem dval_dgs : ∀ (k u : Nat), dval (dgs k u) = u % 10 ^ k
  | 0, u => by simp [dgs, dval, Nat.mod_one]
  | k + 1, u => by
    rw [dgs_snoc, dval_snoc, dval_dgs k (u / 10), Nat.pow_succ', Nat.mod_mul]
    omega
theorem dgs_pad (k u : Nat) (h : u < 10 ^ k) : ∀ j, dgs (j + k) u = List.replicate j 48 ++ dgs k u
  | 0 => by simp
  | j + 1 => by
    rw [show j + 1 + k = (j + k) + 1 by omega, dgs_cons, dgs_pad k u h j]
    have h1 : u / 10 ^ (j + k) = 0 := Nat.div_eq_of_lt (Nat.lt_of_lt_of_le h (Nat.pow_le_pow_right (by omega) (by omega)))
    rw [h1, List.replicate_succ]
    rfl
theorem dgs_mod : ∀ (k u : Nat), dgs k (u % 10 ^ k) = dgs k u
  | 0, u => by simp [dgs]
  | k + 1, u => by
    rw [dgs_snoc, dgs_snoc k u, Nat.pow_succ', Nat.mod_mul_right_div_self, dgs_mod k (u / 10), Nat.mod_mul_right_mod]
theorem dgs_lt : ∀ (k a b : Nat), a < b → b < 10 ^ k → dgs k a < dgs k b
  | 0, a, b, h1, h2 => by simp at h2; omega
  | k + 1, a, b, h1, h2 => by
    rw [dgs_cons, dgs_cons]
    have hp : 0 < 10 ^ k := Nat.pow_pos (by omega)
    have ha : a / 10 ^ k < 10 := by rw [Nat.div_lt_iff_lt_mul hp]; rw [Nat.pow_succ'] at h2; omega
    have hb : b / 10 ^ k < 10 := by rw [Nat.div_lt_iff_lt_mul hp]; rw [Nat.pow_succ'] at h2; omega
    have hle : a / 10 ^ k ≤ b / 10 ^ k := Nat.div_le_div_right (by omega)
    rw [Nat.mod_eq_of_lt ha, Nat.mod_eq_of_lt hb]
    by_cases he : a / 10 ^ k = b / 10 ^ k
    · rw [he]
      have h3 : a % 10 ^ k < b % 10 ^ k := by
        have e1 := Nat.div_add_mod a (10 ^ k)
        have e2 := Nat.div_add_mod b (10 ^ k)
        rw [he] at e1
        omega
      have h4 := dgs_lt k (a % 10 ^ k) (b % 10 ^ k) h3 (Nat.mod_lt _ hp)
      rw [dgs_mod, dgs_mod] at h4
      exact List.cons_lt_cons_iff.2 (Or.inr ⟨rfl, h4⟩)
    · exact List.cons_lt_cons_iff.2 (Or.inl (by omega))
/-- The name of a segment. -/
def nmL (u : Nat) : List Nat := [115, 101, 103, 45] ++ dgs 20 u
theorem nmL_len (u : Nat) : (nmL u).length = 24 := by simp [nmL, dgs_len]
theorem nmL_byte (u : Nat) : ∀ x ∈ nmL u, x < 256 := by
  intro x hx
  rcases List.mem_append.1 hx with h | h
  · simp at h; omega
  · exact dgs_byte 20 u x h
theorem nmL_inj {a b : Nat} (ha : a < 18446744073709551616) (hb : b < 18446744073709551616) (h : nmL a = nmL b) : a = b := by
  have h1 := congrArg dval (List.append_cancel_left h)
  rw [dval_dgs, dval_dgs, Nat.mod_eq_of_lt (by omega), Nat.mod_eq_of_lt (by omega)] at h1
  exact h1
theorem nmL_lt {a b : Nat} (h : a < b) (hb : b < 18446744073709551616) : nmL a < nmL b := by
  have h1 := dgs_lt 20 a b h (by omega)
  unfold nmL
  simpa [List.cons_lt_cons_iff] using h1
theorem strB_app (p q : List Nat) : strB (p ++ q) = strB p ++ strB q := by
  apply ByteArray.ext
  rw [ByteArray.data_append]
  simp [strB]
theorem strB_dec (u : Nat) : (⟨(Lib.decDigits u).toArray⟩ : ByteArray) = strB (dgs (Lib.nDigits u) u) := by
  rw [Lib.decDigits_eq]
  unfold strB dgs
  rw [List.map_map]
  rfl
theorem zer_rep : ∀ k : Fin 21, zer64.extract 0 k.val = strB (List.replicate k.val 48) := by decide +kernel
theorem strB_inj {p q : List Nat} (hp : ∀ x ∈ p, x < 256) (hq : ∀ x ∈ q, x < 256) (h : strB p = strB q) : p = q := by
  have h1 : p.map UInt8.ofNat = q.map UInt8.ofNat := by
    have := congrArg (fun s => s.data.toList) h
    simpa [strB] using this
  have h2 := congrArg (List.map UInt8.toNat) h1
  rw [List.map_map, List.map_map] at h2
  have e : ∀ l : List Nat, (∀ x ∈ l, x < 256) → l.map (UInt8.toNat ∘ UInt8.ofNat) = l := by
    intro l hl
    conv => rhs; rw [← List.map_id l]
    refine List.map_congr_left fun x hx => ?_
    simp [Nat.mod_eq_of_lt (hl x hx)]
  rwa [e p hp, e q hq] at h2
end Go.Proofs.YtejchncdimcdbaaGreatDoor

namespace Go.Proofs.YtejchncdimcdbaaGreatDoor
open Go.RowKit
set_option linter.unusedVariables false
set_option linter.unusedSimpArgs false

/-- The string that bytes make. -/
def strOf (p : List Nat) : ByteArray := ⟨(p.map UInt8.ofNat).toArray⟩

theorem ba_loop (s : ByteArray) : ∀ n i r, s.size - i = n → ByteArray.toList.loop s i r = r.reverse ++ s.data.toList.drop i := by
  intro n
  induction n with
  | zero =>
    intro i r h
    rw [ByteArray.toList.loop]
    have h1 : s.size = s.data.toList.length := (Array.length_toList).symm
    rw [if_neg (by omega), List.drop_eq_nil_of_le (by omega), List.append_nil]
  | succ n ih =>
    intro i r h
    rw [ByteArray.toList.loop]
    have h1 : s.size = s.data.toList.length := (Array.length_toList).symm
    have h2 : i < s.data.toList.length := by omega
    rw [if_pos (by omega), ih (i + 1) _ (by omega), List.drop_eq_getElem_cons h2]
    have h3 : s.get! i = s.data.toList[i] := by
      have h4 : i < s.data.size := by simpa using h2
      rw [Array.getElem_toList]
      exact getElem!_pos s.data i h4
    simp [h3]
theorem ba_toList (s : ByteArray) : s.toList = s.data.toList := by
  unfold ByteArray.toList
  rw [ba_loop s _ 0 [] rfl]
  simp

theorem strOf_inj {p q : List Nat} (hp : ∀ x ∈ p, x < 256) (hq : ∀ x ∈ q, x < 256) (h : strOf p = strOf q) : p = q := by
  have h1 : p.map UInt8.ofNat = q.map UInt8.ofNat := by
    have := congrArg (fun b => b.data.toList) h
    simpa [strOf] using this
  have h2 := congrArg (List.map UInt8.toNat) h1
  simp only [List.map_map] at h2
  have e : ∀ l : List Nat, (∀ x ∈ l, x < 256) → l.map (UInt8.toNat ∘ UInt8.ofNat) = l := by
    intro l hl
    conv => rhs; rw [← List.map_id l]
    apply List.map_congr_left
    intro x hx
    have := hl x hx
    simp [UInt8.toNat_ofNat]; omega
  rw [e p hp, e q hq] at h2
  exact h2

theorem conv_any (v : Value) (p : List Nat) (w : World) (h : Rd w v p) (hu5 : Tryz.prog.underlying 5 = some (.int .u8)) (hu9 : Tryz.prog.underlying 9 = some .string) :
    (convert 72 9 v).run Tryz.prog w = .ok (.string (strOf p)) w := by
  obtain ⟨ao, len, cap, rfl, rfl, h2, h3, h4, h5, h6⟩ := h
  have hl : p.length = (p.map UInt8.ofNat).length := by simp
  cases ao with
  | none =>
    have hz := h4 rfl
    have hp0 : p = [] := List.eq_nil_of_length_eq_zero (by omega)
    subst hp0
    rw [run_convert_bytes_string w 72 9 5 none _ cap Tryz.underlying72 hu5 hu9]
    simp [Conv.bytesToString, strOf]
    rfl
  | some a =>
    rw [hl]
    refine run_convert_bytes_back w 72 9 5 a cap (p.map UInt8.ofNat) Tryz.underlying72 hu5 hu9 (fun j hj => ?_)
    simp at hj
    obtain ⟨b, off, he, hc⟩ := h6 (by omega)
    cases he
    have := hc j hj
    rw [Addr.add_mid, this]
    have hb := h5 (p[j]) (List.getElem_mem hj)
    simp [u8, List.getD_eq_getElem?_getD, List.getElem?_eq_getElem hj, UInt8.toNat_ofNat]
    omega

end Go.Proofs.YtejchncdimcdbaaGreatDoor
namespace Go.Proofs.YtejchncdimcdbaaGreatDoor
open Go.RowKit Go.BigFrame
set_option linter.unusedVariables false
set_option linter.unusedSimpArgs false

/-- What the library's variables hold. -/
def VarsS (w : World) : Prop := Lib.TabIs Tryz.prog w "internal/strconv.uint64pow10" .u64 Lib.pow10Tab ∧ (∃ tp p, w.var? Tryz.prog "strconv.ErrSyntax" = some #[.iface tp p]) ∧ ∃ tp p, w.var? Tryz.prog "strconv.ErrRange" = some #[.iface tp p]
theorem var_kept {P : Program} {w w' : World} {n : String} {cs : Array Value} (h : w.var? P n = some cs) (k : Kept [] w w') : w'.var? P n = some cs := by
  unfold World.var? at h ⊢
  cases hg : P.globalNamed n with
  | none => rw [hg] at h; simp at h
  | some g =>
    rw [hg] at h
    simp only [Option.bind_some] at h ⊢
    cases hb : w.heap[g]? with
    | none => rw [hb] at h; simp at h
    | some o => rw [k.heap hb (by simp)]; rw [hb] at h; exact h
theorem VarsS.old {w w' : World} (h : VarsS w) (k : Kept [] w w') : VarsS w' := by
  obtain ⟨h1, ⟨t1, p1, h2⟩, t2, p2, h3⟩ := h
  exact ⟨var_kept h1 k, ⟨t1, p1, var_kept h2 k⟩, t2, p2, var_kept h3 k⟩

theorem putRow_kept {α : Type} [Inhabited α] (enc : α → Value) (w : World) (blk off : Nat) (d : Array α) : Kept [blk] w (Go.Sort.putRow enc w blk off d) := by
  refine ⟨rfl, rfl, rfl, by simp [Go.Sort.putRow, Go.Sort.mapBlock], fun k hk hn => ?_⟩
  simp only [List.mem_singleton] at hn
  simp only [Go.Sort.putRow, Go.Sort.mapBlock, Array.getElem?_modify]
  rw [if_neg (fun h => hn h.symm)]

set_option maxRecDepth 100000 in
set_option maxHeartbeats 2000000 in
theorem ifmtU_any (u : Nat) (w : World) (hu : u < 18446744073709551616) (hv : VarsS w) :
    Calls Tryz.prog 118 #[.int .u64 u, .int .i64 10] w fun e w' => e = .returned (.string (strB (dgs (Lib.nDigits u) u))) ∧ Kept [] w w' := by
  have HV := hide hv
  have HD := hide (strB_dec u)
  clear hv
  by_cases hs : u < 100
  · have hw : IntKind.i64.wrap (u : Int) = (u : Int) := by simp [IntKind.wrap, IntKind.signed, IntKind.bits]; omega
    have hlt : (u : Int) < 100 := by omega
    go_enter Tryz.func118, Tryz.ntmps118
    go_wp2_with fail
    refine Calls.mono (Tryz.internal_strconv_small u hs _) ?_
    rintro e w1 ⟨rfl, rfl⟩
    go_wp2
    go_ret
    exact ⟨by rw [← unhide HD]; rfl, Kept.refl _ _⟩
  · have hlt : ¬ (u : Int) < 100 := by omega
    have HN := hide (by have := Lib.numDigits_eq u (by omega) hu; split at this <;> omega : Lib.nDigits u ≤ 20)
    have HP := hide (Lib.lt_pow_nDigits u)
    obtain ⟨nd, hnd⟩ : ∃ nd, Lib.nDigits u = nd := ⟨_, rfl⟩
    have HNum := hide (fun W (hW : VarsS W) => Tryz.internal_strconv_numDigits u (by omega) hu W hW.1)
    simp only [hnd] at HNum
    rw [hnd] at HN HP ⊢
    clear hnd HD
    have HK0 := hide ((Kept.refl [] w).alloc (.cells Lib.zeros24 260))
    have hn24 : (nd : Int) ≤ 24 := by have := unhide HN; omega
    go_enter Tryz.func118, Tryz.ntmps118
    go_wp2_with fail
    refine Calls.mono (unhide HNum _ ((unhide HV).old (unhide HK0))) ?_
    rintro e w1 ⟨rfl, rfl⟩
    have hH0 := Lib.holds_zero0 w 260 nd (by have := unhide HN; omega)
    have hfmt := Tryz.internal_strconv_formatBase10 w.heap.size 0 24 u (Array.replicate nd 0) (w.alloc (.cells Lib.zeros24 260)) hH0 (by rw [Array.size_replicate]; exact unhide HP) hu (by rw [Array.size_replicate]; have := unhide HN; omega)
    rw [Array.size_replicate] at hfmt
    have HH0 := hide hH0
    have HF := hide hfmt
    clear hH0 hfmt HNum
    go_wp2_with fail
    refine Calls.mono (unhide HF) ?_
    rintro e w2 ⟨rfl, n2, v2, dk, rfl, hinv⟩
    have HI := hide hinv
    clear hinv HF
    have hR : Rd ((Go.Sort.putRow (fun (b : UInt8) => Value.int .u8 (b.toNat : Int)) (w.alloc (.cells Lib.zeros24 260)) w.heap.size 0 dk).drewN n2) (.slice (some ⟨w.heap.size, 0, none⟩) nd 24) (dgs nd u) := by
      have hh := Go.Sort.holds_putRow (fun (b : UInt8) => Value.int .u8 (b.toNat : Int)) (w.alloc (.cells Lib.zeros24 260)) w.heap.size 0 (Array.replicate nd 0) dk (unhide HH0) (by rw [(unhide HI).size, Array.size_replicate])
      refine ⟨_, _, _, rfl, dgs_len nd u, by have := unhide HN; omega, ⟨by omega, by have := unhide HN; omega⟩, by simp, dgs_byte nd u, fun _ => ⟨w.heap.size, 0, rfl, fun i hi => ?_⟩⟩
      have h1 := (hh i (by rw [(unhide HI).size]; exact hi)).1
      have h2 := (unhide HI).done i (Nat.zero_le _) hi
      rw [h2] at h1
      refine (show _ = _ from h1).trans ?_
      have h3 : (dgs nd u).getD i 0 = 48 + u / 10 ^ (nd - 1 - i) % 10 := by simp [dgs, List.getD_eq_getElem?_getD, hi]
      rw [h3]
      have h4 : 48 + u / 10 ^ (nd - 1 - i) % 10 < 256 := by omega
      simp [Lib.dg, u8, Nat.mod_eq_of_lt h4]
    have hk : Kept [] w ((Go.Sort.putRow (fun (b : UInt8) => Value.int .u8 (b.toNat : Int)) (w.alloc (.cells Lib.zeros24 260)) w.heap.size 0 dk).drewN n2) := by
      refine ((unhide HK0).trans (M := [w.heap.size]) (c := Go.Sort.putRow (fun (b : UInt8) => Value.int .u8 (b.toNat : Int)) (w.alloc (.cells Lib.zeros24 260)) w.heap.size 0 dk) ?_ (by simp)).drewN n2
      exact putRow_kept _ _ _ _ _
    have HK2 := hide hk
    have hu5 : Tryz.prog.underlying 5 = some (.int .u8) := by kernel_rfl
    have hu9 : Tryz.prog.underlying 9 = some .string := by kernel_rfl
    have hc := conv_any _ _ _ hR hu5 hu9
    obtain ⟨W2, hW2⟩ : ∃ W2, (Go.Sort.putRow (fun (b : UInt8) => Value.int .u8 (b.toNat : Int)) (w.alloc (.cells Lib.zeros24 260)) w.heap.size 0 dk).drewN n2 = W2 := ⟨_, rfl⟩
    rw [hW2] at hc HK2 ⊢
    clear hW2 hR hk HH0 HI
    go_wp2
    go_ret
    exact ⟨rfl, unhide HK2⟩
end Go.Proofs.YtejchncdimcdbaaGreatDoor
namespace Go.Proofs.YtejchncdimcdbaaGreatDoor
open Go.RowKit
set_option linter.unusedVariables false
set_option linter.unusedSimpArgs false

theorem owns_base {w : World} {b b' e s n : Nat} {v : Value} {xs : List Value} (h : w.ownsRow b e s v n xs) (hb : b' ≤ b) : w.ownsRow b' e s v n xs := by
  refine ⟨h.1, ?_⟩
  rcases h.2 with h9 | ⟨g, cap, cur, h1, h2, h3⟩
  · exact .inl h9
  · exact .inr ⟨g, cap, cur, h1, Nat.le_trans hb h2, h3⟩
/-- A beginning of an owned row, with all its room, is owned. -/
theorem owns_take {w : World} {base : Nat} {a : Option Addr} {m c : Nat} {bs : List Nat} (h : w.ownsRow base 5 1 (.slice a m c) bs.length (bs.map u8)) (n : Nat) (hn : n ≤ bs.length) : w.ownsRow base 5 1 (.slice a n c) (bs.take n).length ((bs.take n).map u8) := by
  have hl : (bs.take n).length = n := by rw [List.length_take]; omega
  refine ⟨by simp, ?_⟩
  rcases h.2 with ⟨h9, h0⟩ | ⟨g, cap, cur, h1, h2, h3, h4, h5, h6, h7⟩
  · cases h9
    exact .inl ⟨by rw [show n = 0 by omega], by omega⟩
  · cases h1
    refine .inr ⟨g, c, cur, by rw [hl], h2, h3, by omega, h5, h6, ?_⟩
    rw [Nat.mul_one] at h7 ⊢
    rw [List.map_take, ← h7, List.take_take, hl, Nat.min_eq_left (by omega)]
/-- Where a row lies behind an append: where it lay, or in memory that is new. -/
def Went (w : World) (v v' : Value) : Prop := (∃ a n m c, v = .slice a n c ∧ v' = .slice a m c) ∨ ∃ g, v'.ownBlock = some g ∧ w.heap.size ≤ g
/-- All of a slice behind a row that is owned: both are owned then. -/
theorem appendTwo (w : World) (base : Nat) (v : Value) (bs p : List Nat) (ao : Option Addr) (n c : Nat) (h : w.ownsRow base 5 1 v bs.length (bs.map u8)) (hr : Rd w (.slice ao n c) p) (hl : bs.length + p.length ≤ 140737488355328) (hb : base ≤ w.heap.size) :
    ∃ ao' cap' w1, (Builtin.append_ #[72, 72] 72 #[v, .slice ao n c]).run Tryz.prog w = .ok (.slice ao' (bs.length + p.length) cap') w1 ∧
      w1.ownsRow base 5 1 (.slice ao' (bs.length + p.length) cap') (bs ++ p).length ((bs ++ p).map u8) ∧ w1.ownsRow base 5 1 v bs.length (bs.map u8) ∧ w.grownBy w1 v.ownBlock ∧ Went w v (.slice ao' (bs.length + p.length) cap') := by
  obtain ⟨i0, hi, hz0, hz1, hz2⟩ := info_parts Tryz.info5
  obtain ⟨ao1, n1, c1, he, hn, h2, ⟨h3, h3'⟩, h4, h5, h6⟩ := id hr
  cases he
  subst hn
  cases ao with
  | none =>
    have hc0 := h4 rfl
    have hp : p = [] := List.eq_nil_of_length_eq_zero (by omega)
    subst hp
    subst hc0
    have hrun := run_append_owned_none (P := Tryz.prog) (w := w) base 72 72 5 i0 1 Tryz.underlying72 hi v bs.length (bs.map u8) h
    obtain ⟨ao', cap', rfl⟩ := owns_shape h
    exact ⟨ao', cap', w, hrun, by simpa using h, h, World.grownBy.refl _ _, .inl ⟨_, _, _, _, rfl, rfl⟩⟩
  | some ad =>
    have hnews : ∀ j u, (p.map u8)[j]? = some u → w.cell? (ad.add j) = some u := by
      intro j u hj
      by_cases h0 : 0 < (p.map u8).length
      · obtain ⟨ad', e, hc⟩ := hr.src h0
        cases e
        exact hc j u hj
      · have : p.map u8 = [] := List.eq_nil_of_length_eq_zero (by omega)
        rw [this] at hj; simp at hj
    rcases h.2 with ⟨rfl, h0⟩ | ⟨g, cap, cur, rfl, _, hg, hc, hm, hs, ht⟩
    · obtain ⟨v', w1, hrun, hown, hgrow, _, hat⟩ := run_append_own_at (P := Tryz.prog) w base 72 72 5 i0 (.int .u8 0) 1 1 Tryz.underlying72 hi hz0 hz1 hz2 rfl (by decide)
        _ bs.length (bs.map u8) h ad p.length c (p.map u8) (by simp) hnews (u8_oneCell p) (by unfold maxLen; omega) (by omega) hb
      obtain ⟨ao', cap', rfl⟩ := owns_shape hown
      have hbs : bs = [] := List.eq_nil_of_length_eq_zero h0
      subst hbs
      refine ⟨ao', cap', w1, hrun, by simpa using hown, World.ownsRow_nil _ _ _ _, hgrow, ?_⟩
      rcases hown.2 with ⟨h9, _⟩ | ⟨g, cap, cur, h9, _⟩
      · injection h9 with e1 e2 e3; subst e1; subst e3; exact .inl ⟨_, _, _, _, rfl, rfl⟩
      · injection h9 with e1 e2 e3
        subst e1
        rcases hat with h8 | h8
        · simp [Value.ownBlock] at h8
        · exact .inr ⟨_, h8, Nat.le_refl _⟩
    · by_cases hroom : bs.length + p.length ≤ cap
      · obtain ⟨w1, hrun, hown, hgrow⟩ := run_append_own_spare (P := Tryz.prog) w base 72 72 5 i0 1 Tryz.underlying72 hi hz1 g bs.length cap (bs.map u8) h ad p.length c (p.map u8) (by simp) hnews (u8_oneCell p) hroom
        have hnew : w1.ownsRow base 5 1 (.slice (some ⟨g, 0, none⟩) (bs.length + p.length) cap) (bs ++ p).length ((bs ++ p).map u8) := by rw [List.length_append, List.map_append]; exact hown
        have h8 := owns_take hnew bs.length (by simp)
        rw [List.take_left] at h8
        exact ⟨_, _, w1, hrun, hnew, h8, hgrow, .inl ⟨_, _, _, _, rfl, rfl⟩⟩
      · obtain ⟨v', w1, hrun, hown, hgrow⟩ := run_append_arg_grows (P := Tryz.prog) w 72 72 5 i0 (.int .u8 0) 1 1 Tryz.underlying72 hi hz0 hz1 hz2 rfl (by decide)
          ⟨g, 0, none⟩ bs.length cap (bs.map u8) (by simp) (fun j u hj => h.cells (g := g) rfl j u hj) ad p.length c (p.map u8) (by simp) hnews (by omega) (by unfold maxLen; omega) (by omega)
        obtain ⟨ao', cap', rfl⟩ := owns_shape hown
        have hw : Went w (.slice (some ⟨g, 0, none⟩) bs.length cap) (.slice ao' (bs.length + p.length) cap') := by
          rcases hown.2 with ⟨h9, h8⟩ | ⟨g', cap2, cur2, h9, h8, _⟩
          · omega
          · cases h9; exact .inr ⟨_, rfl, h8⟩
        exact ⟨ao', cap', w1, hrun, by rw [List.length_append, List.map_append]; exact owns_base hown hb, ((Kept.refl [] w).grown hgrow (by simp)).owns h (by simp), ⟨hgrow.os, hgrow.tape, hgrow.output, hgrow.size, fun k hk _ => hgrow.block k hk (by simp)⟩, hw⟩
theorem wpList_appendTwo {ops : Array Oper} {rest : List Oper} {o : Oper} {a : Act} {Q : Exit → Act → World → Prop} (hgd : o.guard = none) (s x : Operand)
    (ho : o.op = .call { callee := .builtin .append, args := #[s, x], argTypes := #[72, 72] }) (hty : o.type = 72)
    (w : World) (base : Nat) (v : Value) (bs p : List Nat) (ao : Option Addr) (n c : Nat) (h : w.ownsRow base 5 1 v bs.length (bs.map u8)) (hr : Rd w (.slice ao n c) p) (hl : bs.length + p.length ≤ 140737488355328) (hb : base ≤ w.heap.size)
    (hs : a.eval s = v) (hx : a.eval x = .slice ao n c)
    (hK : ∀ ao' cap' w1, Hid (w1.ownsRow base 5 1 (.slice ao' (bs.length + p.length) cap') (bs ++ p).length ((bs ++ p).map u8)) → Hid (w1.ownsRow base 5 1 v bs.length (bs.map u8)) → Hid (w.grownBy w1 v.ownBlock) → Hid (Went w v (.slice ao' (bs.length + p.length) cap')) →
      wpList Tryz.prog ops Q rest (a.put o.dst (.slice ao' (bs.length + p.length) cap')) w1) :
    wpList Tryz.prog ops Q (o :: rest) a w := by
  obtain ⟨ao', cap', w1, hrun, h2, h3, h4, h5⟩ := appendTwo w base v bs p ao n c h hr hl hb
  refine wpList_plain hgd fun K hK' => ?_
  unfold Oper.wp execOp
  simp only [ho, hty, resolve, invoke, builtin, Sem.run_bind, Sem.run_pure, Result.andThen_ok, List.map_toArray, List.map_cons, List.map_nil, hs, hx, hrun]
  exact hK' _ _ (hK ao' cap' w1 h2 h3 h4 h5)
end Go.Proofs.YtejchncdimcdbaaGreatDoor
namespace Go.Proofs.YtejchncdimcdbaaGreatDoor
open Go.RowKit
set_option linter.unusedVariables false
set_option linter.unusedSimpArgs false
attribute [local go_sem ↓] Go.wp_at_zero Go.wp_at_succ

/-- What 'Wide' has laid so far. -/
def wideCells (v n j : Nat) : Array Value := (zeros j ++ (wide v (n - j)).map u8).toArray
theorem wideCells_size (v n j : Nat) (h : j ≤ n) : (wideCells v n j).size = n := by simp [wideCells, zeros, wide_len]; omega
theorem wideCells_set (v n m : Nat) (h : m < n) : (wideCells v n (m + 1)).setIfInBounds m (u8 (v / 256 ^ (n - (m + 1)) % 256)) = wideCells v n m := by
  apply Array.toList_inj.1
  rw [Array.toList_setIfInBounds]
  simp only [wideCells]
  have e : n - m = (n - (m + 1)) + 1 := by omega
  rw [e]
  simp only [wide, List.map_cons]
  have hz : zeros (m + 1) = zeros m ++ [.int .u8 0] := by simp [zeros, List.replicate_succ']
  rw [hz]
  have hl : (zeros m).length = m := by simp [zeros]
  simp [List.set_append, hl]

set_option maxRecDepth 100000 in
set_option maxHeartbeats 1000000 in
theorem refWide_any (v n : Nat) (w : World) (hv : v < 18446744073709551616) (hn : n ≤ 8) :
    Calls Tryz.prog 142 #[.int .u64 v, .int .i64 n] w fun e w' => e = .returned (.slice (some ⟨w.heap.size, 0, none⟩) n n) ∧ Kept [] w w' ∧ w'.heap[w.heap.size]? = some (.cells ((wide v n).map u8).toArray 5 (0, 0)) := by
  have hmk := run_make_row' (P := Tryz.prog) 72 5 (.int .u8 0) 1 Tryz.underlying72 Tryz.info5 rfl .i64 .i64 n (by omega) (by omega)
  simp only [madeZeros] at hmk
  have h0 : (zeros n).toArray = wideCells v n n := by simp [wideCells, wide]
  rw [h0] at hmk
  clear h0
  go_enter Tryz.func142, Tryz.ntmps142
  go_wp2_with fail
  go_loopw [0, 6] (fun t0 t6 wr => ∃ (j y : Nat), j ≤ n ∧ y ≤ v ∧ t6 = .int .i64 ((j : Int) - 1) ∧ t0 = .int .u64 y ∧ Hid (y = v / 256 ^ (n - j)) ∧ wr = w.alloc (.cells (wideCells v n j) 5)) (fun _ t _ => (intOf t + 1).toNat)
  case atStart => exact ⟨n, v, Nat.le_refl _, Nat.le_refl _, rfl, rfl, hide (by simp), rfl⟩
  case round =>
    obtain ⟨j, y, hj, hyv, rfl, rfl, Hy, rfl⟩ := hrel
    by_cases hj0 : j = 0
    · subst hj0
      go_wp2
      go_ret
      refine ⟨rfl, (Kept.refl [] w).alloc _, ?_⟩
      rw [heap_alloc_new]; simp [wideCells, zeros]
    · obtain ⟨m, rfl⟩ : ∃ m, j = m + 1 := ⟨j - 1, by omega⟩
      have e1 : (((m + 1 : Nat) : Int) - 1) = (m : Int) := by omega
      rw [e1]
      have hm0 : (0 : Int) ≤ m := by omega
      have hmn : (m : Int) < n := by omega
      have hsz := wideCells_size v n (m + 1) (by omega)
      have hset := wideCells_set v n m (by omega)
      rw [← unhide Hy] at hset
      have hcell : ∃ c, (wideCells v n (m + 1))[m]? = some c := ⟨_, Array.getElem?_eq_getElem (by rw [hsz]; omega)⟩
      obtain ⟨c, hc⟩ := hcell
      have hset' : (wideCells v n (m + 1)).setIfInBounds m (.int .u8 ((y : Int) % 256)) = wideCells v n m := by rw [← hset]; simp [u8]
      clear hset e1
      generalize hA : wideCells v n (m + 1) = A at *
      generalize hB : wideCells v n m = B at *
      have HB := hide hB
      clear hA hB hsz
      go_wp2
      go_roundw
      case rel => exact ⟨m, y / 256, by omega, by omega, rfl, by simp, hide (by rw [unhide Hy, Nat.div_div_eq_div_mul, ← Nat.pow_succ]; congr 2; omega), by rw [unhide HB]⟩
      case measure => simp [intOf]
end Go.Proofs.YtejchncdimcdbaaGreatDoor
namespace Go.Proofs.YtejchncdimcdbaaGreatDoor
open Go.RowKit
set_option linter.unusedVariables false
set_option linter.unusedSimpArgs false
attribute [local go_sem ↓] Go.wp_at_zero Go.wp_at_succ

set_option maxRecDepth 100000 in
set_option maxHeartbeats 1000000 in
theorem refUvar_any (x : Nat) (w : World) (hx : x < 18446744073709551616) :
    Calls Tryz.prog 155 #[.int .u64 x] w fun e w' => ∃ lv, e = .returned lv ∧ Rd w' lv (uv x) ∧ Kept [] w w' ∧ ∀ y ∈ blk lv, w.heap.size ≤ y := by
  go_enter Tryz.func155, Tryz.ntmps155
  go_wp2_with fail
  go_loopw [0, 3] (fun t0 t3 wr => ∃ (y : Nat) (cur : List Nat) (ao : Option Addr) (cap : Nat), t0 = .int .u64 y ∧ t3 = .slice ao cur.length cap ∧ y ≤ x ∧ Hid (cur ++ uv y = uv x) ∧ Hid (wr.ownsRow w.heap.size 5 1 (.slice ao cur.length cap) cur.length (cur.map u8)) ∧ Hid (Kept [] w wr)) (fun t _ _ => (intOf t).toNat)
  case atStart => exact ⟨x, [], none, 0, rfl, rfl, Nat.le_refl _, rfl, World.ownsRow_nil _ _ _ _, Kept.refl _ _⟩
  case round =>
    obtain ⟨y, cur, ao, cap, rfl, rfl, hy, Hp, HW, HK⟩ := hrel
    have hlen : cur.length + 1 ≤ 140737488355328 := by have h1 := congrArg List.length (unhide Hp); have h2 := uv_len x hx; have h3 := uv_pos y; simp at h1; omega
    have hcb : ∀ z ∈ cur, z < 256 := fun z hz => uv_byte x z (by rw [← unhide Hp]; simp [hz])
    have Hcb := hide hcb
    have hsz := (unhide HK).size
    clear hcb
    by_cases hlt : y < 128
    · have hlt' : (y : Int) < 128 := by omega
      have hrs : Rd (wr.alloc (.cells #[.int .u8 (y : Int)] 5)) (.slice (some ⟨wr.heap.size, 0, none⟩) 1 1) [y] := rd_lit (heap_alloc_new wr _) rfl (by simp; omega) 1 rfl (by omega)
      have HRs := hide hrs
      clear hrs
      go_wp2_with (at_builtin; go_must (refine wpList_appendAll rfl (.tmp 15) (.tmp 18) rfl rfl _ w.heap.size (.slice ao cur.length cap) cur [y] _ 1 1 (by exact (unhide HW).alloc _) (by exact unhide HRs) (by simpa using hlen) (by simp; omega) rfl rfl ?_; intro ao1 cap1 w1 HO1 HG1 HA1; simp only [List.length_cons, List.length_nil, Nat.zero_add] at HO1 HG1 HA1))
      go_ret
      have hk1 := ((unhide HK).alloc (.cells #[.int .u8 (y : Int)] 5)).grown (unhide HG1) (by intro k hk; right; exact ((unhide HW).lt k hk).1)
      refine ⟨_, rfl, ?_, hk1, ?_⟩
      · rw [← unhide Hp, uv_lt hlt]
        have h5 := unhide HO1
        rw [← List.length_singleton (a := y), ← List.length_append] at h5
        simpa using rd_owns h5 (by intro z hz; simp at hz; rcases hz with hz | rfl; exact unhide Hcb z hz; omega) (by simp; omega)
      · intro z hz
        cases ao1 with
        | none => simp [blk] at hz
        | some a => simp [blk] at hz; subst hz; exact ((unhide HO1).lt a.block rfl).1
    · have hge : 128 ≤ (y : Int) := by omega
      have hrs : Rd (wr.alloc (.cells #[.int .u8 ((y : Int) % 128 + 128)] 5)) (.slice (some ⟨wr.heap.size, 0, none⟩) 1 1) [y % 128 + 128] := rd_lit (heap_alloc_new wr _) (by simp) (by simp; omega) 1 rfl (by omega)
      have HRs := hide hrs
      clear hrs
      go_wp2_with (at_builtin; go_must (refine wpList_appendAll rfl (.tmp 6) (.tmp 11) rfl rfl _ w.heap.size (.slice ao cur.length cap) cur [y % 128 + 128] _ 1 1 (by exact (unhide HW).alloc _) (by exact unhide HRs) (by simpa using hlen) (by simp; omega) rfl rfl ?_; intro ao1 cap1 w1 HO1 HG1 HA1; simp only [List.length_cons, List.length_nil, Nat.zero_add] at HO1 HG1 HA1))
      have hk1 := ((unhide HK).alloc (.cells #[.int .u8 ((y : Int) % 128 + 128)] 5)).grown (unhide HG1) (by intro k hk; right; exact ((unhide HW).lt k hk).1)
      have HK1 := hide hk1
      clear hk1
      go_wp2
      go_roundw
      case rel => exact ⟨y / 128, cur ++ [y % 128 + 128], ao1, cap1, by simp, by simp, by omega, hide (by rw [← unhide Hp, uv_ge (v := y) (by omega)]; simp), hide (by have h5 := unhide HO1; simpa using h5), HK1⟩
      case measure => simp [intOf]; omega

set_option maxRecDepth 100000 in
set_option maxHeartbeats 1000000 in
theorem refBlob_any (v : Value) (p : List Nat) (w : World) (h : Rd w v p) (hp : p.length ≤ 70368744177664) :
    Calls Tryz.prog 196 #[v] w fun e w' => ∃ lv, e = .returned lv ∧ Rd w' lv (uv p.length ++ p) ∧ Kept [] w w' ∧ ∀ y ∈ blk lv, w.heap.size ≤ y := by
  have HR := hide h
  obtain ⟨ao, n, c, rfl, rfl, _⟩ := h
  have hul := uv_len p.length (by omega)
  go_enter Tryz.func196, Tryz.ntmps196
  go_wp2_with fail
  refine (refUvar_any p.length _ (by omega)).mono ?_
  rintro e w1 ⟨lv, rfl, hr1, k1, hb1⟩
  have HR1 := hide hr1
  have HK1 := hide k1
  clear hr1 k1 hb1
  go_wp2_with fail
  refine (join_any _ _ (uv p.length) p _ (unhide HR1) (by exact (unhide HR).old (unhide HK1) (by simp)) (by omega)).mono ?_
  rintro e w2 ⟨lv2, rfl, hr2, k2, hb2⟩
  have HR2 := hide hr2
  have HK2 := hide ((unhide HK1).trans k2 (by simp))
  have HB2 := hide (fun y (hy : y ∈ blk lv2) => (by have h1 := hb2 y hy; have h2 := (unhide HK1).size; omega : w.heap.size ≤ y))
  clear hr2 k2 hb2
  go_wp2
  go_ret
  exact ⟨_, rfl, unhide HR2, unhide HK2, unhide HB2⟩

set_option maxRecDepth 100000 in
set_option maxHeartbeats 1000000 in
/-- Join, and what it answers is new and owned. -/
theorem join_own (u v : Value) (p q : List Nat) (w : World) (hu : Rd w u p) (hv : Rd w v q) (hl : p.length + q.length ≤ 140737488355328) :
    Calls Tryz.prog 140 #[u, v] w fun e w' => ∃ lv, e = .returned lv ∧ w'.ownsRow w.heap.size 5 1 lv (p ++ q).length ((p ++ q).map u8) ∧ Kept [] w w' := by
  have HU := hide hu
  have HV := hide hv
  obtain ⟨a1, n1, c1, rfl, hn1, _⟩ := hu
  obtain ⟨a2, n2, c2, rfl, hn2, _⟩ := hv
  subst hn1
  subst hn2
  obtain ⟨i0, hi, hz0, hz1, hz2⟩ := info_parts Tryz.info5
  have hmk : ∀ W : World, (Instr.makeSlice 72 (.int .i64 0) (.int .i64 ((p.length : Int) + q.length))).run Tryz.prog W =
      .ok (.slice (some ⟨W.heap.size, 0, none⟩) 0 (p.length + q.length)) (W.alloc (.cells (zeros (p.length + q.length)).toArray 5)) := fun W => by
    have h := run_make (P := Tryz.prog) W 72 5 i0 (.int .u8 0) Tryz.underlying72 hi hz0 .i64 .i64 0 ((p.length : Int) + q.length) (by omega) (by omega) (by rw [hz2]; omega) (by omega)
    have e : ((p.length : Int) + q.length).toNat = p.length + q.length := by omega
    rw [e] at h
    simpa [hz1, Value.cells, madeZeros] using h
  clear hi hz0 hz1 hz2
  have HO := hide (World.ownsRow_made (base := w.heap.size) (e := 5) (size := 1) w (zeros (p.length + q.length)).toArray (p.length + q.length) (Nat.le_refl _) (by unfold maxLen; omega) (by simp [zeros]))
  have HU1 := hide ((unhide HU).old ((Kept.refl [] w).alloc (.cells (zeros (p.length + q.length)).toArray 5)) (by simp))
  go_enter Tryz.func140, Tryz.ntmps140
  go_wp2_with (at_builtin; first
    | (refine wpList_appendAll rfl (.tmp 12) (.tmp 13) rfl rfl _ w.heap.size (.slice (some ⟨w.heap.size, 0, none⟩) 0 (p.length + q.length)) [] p a1 p.length c1 (by exact unhide HO) (by exact unhide HU1) (by simp; omega) (by simp) rfl rfl ?_; intro ao1 cap1 w1 HO1 HG1 HA1; simp only [List.nil_append, List.length_nil, Nat.zero_add] at HO1 HA1; have HK1 := hide (((Kept.refl [] w).alloc _).grown (unhide HG1) (by intro k hk; right; simp [Value.ownBlock] at hk; omega)); have HA1' := hide (show ∀ g, (Value.slice ao1 p.length cap1).ownBlock = some g → w.heap.size ≤ g from fun g hg => ((unhide HO1).lt g hg).1); clear HG1 HA1)
    | (refine wpList_appendAll rfl (.tmp 15) (.tmp 16) rfl rfl _ w.heap.size (.slice ao1 p.length cap1) p q a2 q.length c2 (by exact unhide HO1) (by exact (unhide HV).old (unhide HK1) (by simp)) hl (by have := (unhide HK1).size; omega) (by simp [Act.eval]) (by simp [Act.eval]) ?_; intro ao2 cap2 w2 HO2 HG2 HA2; have HK2 := hide ((unhide HK1).grown (unhide HG2) (by intro k hk; right; exact unhide HA1' k hk)); clear HG2 HA2))
  go_ret
  refine ⟨_, rfl, ?_, unhide HK2⟩
  exact unhide HO2

end Go.Proofs.YtejchncdimcdbaaGreatDoor
namespace Go.Proofs.YtejchncdimcdbaaGreatDoor
open Go.RowKit
set_option linter.unusedVariables false
set_option linter.unusedSimpArgs false

/-- A cut p[:n] reads as the beginning. -/
theorem Rd.take {w : World} {ao : Option Addr} {cap n : Nat} {p : List Nat} (h : Rd w (.slice ao p.length cap) p) (hn : n ≤ p.length) : Rd w (.slice ao n cap) (p.take n) := by
  obtain ⟨ao', len', cap', he, _, h2, ⟨h3, h3'⟩, h4, h5, h6⟩ := h
  cases he
  refine ⟨_, _, _, rfl, by simp; omega, by omega, ⟨h3, by omega⟩, h4, fun x hx => h5 x (List.mem_of_mem_take hx), fun hp => ?_⟩
  obtain ⟨b, off, rfl, hc⟩ := h6 (by omega)
  refine ⟨b, off, rfl, fun i hi => ?_⟩
  rw [hc i (by omega)]
  simp [List.getD_eq_getElem?_getD, List.getElem?_take, hi]

/-- What Raw answers; the place and the fault behind it. -/
def rRaw (p : List Nat) (i e : Nat) (n : Int) : List Nat × Nat × Nat :=
  if e ≠ 0 then ([], i, e) else if n < 0 then ([], i, 1) else if (p.length : Int) - i < n then ([], i, 3) else ((p.drop i).take n.toNat, i + n.toNat, 0)

end Go.Proofs.YtejchncdimcdbaaGreatDoor
namespace Go.Proofs.YtejchncdimcdbaaGreatDoor
open Go.RowKit
set_option linter.unusedVariables false
set_option linter.unusedSimpArgs false

/-- What Blob answers; the place and the fault behind it. -/
def rBlob (p : List Nat) (i e : Nat) (m : Int) : List Nat × Nat × Nat :=
  if e ≠ 0 then ([], i, e) else if m < 0 then ([], i, 1) else if (fuv (p.drop i) 0 0).2 = 0 then ([], i, 3) else if m < (fuv (p.drop i) 0 0).1 then ([], i, 2)
  else if (p.drop i).length - (fuv (p.drop i) 0 0).2 < (fuv (p.drop i) 0 0).1 then ([], i, 3)
  else (((p.drop i).drop (fuv (p.drop i) 0 0).2).take (fuv (p.drop i) 0 0).1, i + ((fuv (p.drop i) 0 0).2 + (fuv (p.drop i) 0 0).1), 0)

theorem fuv_lt (q : List Nat) : ∀ k a, a < 128 ^ k → k ≤ 9 → (fuv q k a).1 < 18446744073709551616 := by
  induction q with
  | nil => intro k a _ _; simp [fuv]
  | cons c r ih =>
    intro k a ha hk
    have hn := group_next k c a ha
    rw [fuv]
    split
    · simp
    · rename_i h9
      split
      · rename_i hb
        exact ih (k + 1) _ hn (by omega)
      · split
        · simp
        · simp only
          rcases Nat.lt_or_ge k 9 with h | h
          · have h1 : 128 ^ (k + 1) ≤ 128 ^ 9 := Nat.pow_le_pow_right (by omega) (by omega)
            have h3 : (128 : Nat) ^ 9 = 9223372036854775808 := (by decide)
            omega
          · have hk9 : k = 9 := by omega
            subst hk9
            have hc : c = 1 := by omega
            subst hc
            have h3 : (128 : Nat) ^ 9 = 9223372036854775808 := (by decide)
            omega

theorem Rd.sub0 {w : World} {ao : Option Addr} {cap s x : Nat} {q : List Nat} (h : Rd w (.slice ao q.length cap) q) (hc : cap = s) (hs : s + x ≤ q.length) : Rd w (.slice ao x 0) ((q.drop s).take x) := by
  have h1 := h.drop0 hc (by omega)
  obtain ⟨_, _, _, he, _, h2, _⟩ := h
  cases he
  have hx : x = 0 := by omega
  subst hx
  have h3 : (q.drop s).length = q.length - s := by simp
  rw [← h3] at h1
  exact h1.take (by omega)
theorem Rd.sub {w : World} {ao : Option Addr} {cap s x : Nat} {q : List Nat} (h : Rd w (.slice ao q.length cap) q) (hs : s + x ≤ q.length) : Rd w (.slice (Option.map (fun x => x.add s) ao) x (cap - s)) ((q.drop s).take x) := by
  have h1 := h.drop (i := s) (by omega)
  have h3 : (q.drop s).length = q.length - s := by simp
  rw [← h3] at h1
  exact h1.take (by omega)

set_option maxRecDepth 100000 in
set_option maxHeartbeats 4000000 in
theorem rblob_any (b : Nat) (gv : Value) (p : List Nat) (i e : Nat) (n : Int) (w : World) (h : ReAt w b gv p i e) (hn : -9223372036854775808 ≤ n ∧ n ≤ 9223372036854775807) :
    Calls Tryz.prog 244 #[.pointer (some ⟨b, 0, none⟩), .int .i64 n] w fun r w' => ∃ rv, r = .returned rv ∧ Rd w' rv (rBlob p i e n).1 ∧ ReAt w' b gv p (rBlob p i e n).2.1 (rBlob p i e n).2.2 ∧ Kept [b] w w' ∧ ∀ x ∈ blk rv, w.heap.size ≤ x := by
  have HR := hide h
  have c1 := h.c1
  have c2 := h.c2
  have f1 := h.free 1
  have f2 := h.free 2
  have hl : p.length ≤ 140737488355328 := h.rd.len
  have hle := h.le
  have hne := hide h.ne
  have hblt := h.lt
  clear h
  by_cases he : e = 0
  · subst he
    obtain ⟨q, hq⟩ : ∃ q, p.drop i = q := ⟨_, rfl⟩
    have hql : q.length = p.length - i := by rw [← hq]; simp
    have HVdef := hide (by simp only [rBlob, hq, ne_eq, not_true_eq_false, if_false] : rBlob p i 0 n = if n < 0 then ([], i, 1) else if (fuv q 0 0).2 = 0 then ([], i, 3) else if n < (fuv q 0 0).1 then ([], i, 2) else if q.length - (fuv q 0 0).2 < (fuv q 0 0).1 then ([], i, 3) else ((q.drop (fuv q 0 0).2).take (fuv q 0 0).1, i + ((fuv q 0 0).2 + (fuv q 0 0).1), 0))
    have hfl := fuv_le q 0 0
    have hfx := fuv_lt q 0 0 (by decide) (by decide)
    have Hq := hide hq
    have hq47 : q.length ≤ 140737488355328 := by omega
    have hqp : i + q.length ≤ p.length := by omega
    clear hq hql
    obtain ⟨x, s, hx⟩ : ∃ x s, fuv q 0 0 = (x, s) := ⟨_, _, rfl⟩
    rw [hx] at HVdef hfl hfx
    simp only [Nat.zero_add] at HVdef hfl hfx
    have HX := hide hx
    clear hx
    have hx' : (x : Int) ≤ 18446744073709551615 := by omega
    by_cases hn0 : n < 0
    · have HV := hide (by rw [unhide HVdef, if_pos hn0] : rBlob p i 0 n = ([], i, 1))
      go_enter Tryz.func244, Tryz.ntmps244
      go_wp2_with (first
        | (go_at_call 215; go_must (refine (rerr_any b gv p i 0 _ (unhide HR)).mono ?_; rintro r w1 ⟨rfl, hw1⟩; subst w1))
        | (go_at_call 217; go_must (refine (rleft_any b gv p i 0 _ (unhide HR)).mono ?_; rintro r w1 ⟨lv, rfl, ⟨m, hw1⟩, hq, hb⟩; subst w1; rw [unhide Hq] at hq; have HQ := hide hq; have HB := hide hb; obtain ⟨ao, len, cap, rfl, rfl, h2, ⟨h3, h3'⟩, _⟩ := hq; clear hb))
        | (go_at_call 243; go_must (refine (fuv_any _ q _ (by exact (unhide HQ).drewN _)).mono ?_; rintro r w1 ⟨rfl, hw1⟩; subst w1; rw [unhide HX])))
      go_ret
      rw [unhide HV]
      exact ⟨_, rfl, Rd.nil _, ((unhide HR).drewN _).setFault 1, ((Kept.refl [b] w).drewN _).setCell (by simp) _, by simp [blk]⟩
    · obtain ⟨mo, rfl⟩ : ∃ mo : Nat, n = mo := ⟨n.toNat, by omega⟩
      have HV2 := hide (by rw [unhide HVdef, if_neg hn0] : rBlob p i 0 mo = if s = 0 then ([], i, 3) else if (mo : Int) < x then ([], i, 2) else if q.length - s < x then ([], i, 3) else ((q.drop s).take x, i + (s + x), 0))
      have hmo : (0 : Int) ≤ mo := by omega
      have hmo2 : (mo : Int) ≤ 9223372036854775807 := hn.2
      clear HVdef
      by_cases hs0 : s = 0
      · have HV := hide (by rw [unhide HV2, if_pos hs0] : rBlob p i 0 mo = ([], i, 3))
        subst hs0
        go_enter Tryz.func244, Tryz.ntmps244
        go_wp2_with (first
          | (go_at_call 215; go_must (refine (rerr_any b gv p i 0 _ (unhide HR)).mono ?_; rintro r w1 ⟨rfl, hw1⟩; subst w1))
          | (go_at_call 217; go_must (refine (rleft_any b gv p i 0 _ (unhide HR)).mono ?_; rintro r w1 ⟨lv, rfl, ⟨m, hw1⟩, hq, hb⟩; subst w1; rw [unhide Hq] at hq; have HQ := hide hq; have HB := hide hb; obtain ⟨ao, len, cap, rfl, rfl, h2, ⟨h3, h3'⟩, _⟩ := hq; clear hb))
          | (go_at_call 243; go_must (refine (fuv_any _ q _ (by exact (unhide HQ).drewN _)).mono ?_; rintro r w1 ⟨rfl, hw1⟩; subst w1; rw [unhide HX])))
        go_ret
        rw [unhide HV]
        exact ⟨_, rfl, Rd.nil _, ((unhide HR).drewN _).setFault 3, ((Kept.refl [b] w).drewN _).setCell (by simp) _, by simp [blk]⟩
      · have ts : ((s : Int) == 0) = false := by simp; omega
        by_cases hm : (mo : Int) < x
        · have HV := hide (by rw [unhide HV2, if_neg hs0, if_pos hm] : rBlob p i 0 mo = ([], i, 2))
          go_enter Tryz.func244, Tryz.ntmps244
          go_wp2_with (first
            | (go_at_call 215; go_must (refine (rerr_any b gv p i 0 _ (unhide HR)).mono ?_; rintro r w1 ⟨rfl, hw1⟩; subst w1))
            | (go_at_call 217; go_must (refine (rleft_any b gv p i 0 _ (unhide HR)).mono ?_; rintro r w1 ⟨lv, rfl, ⟨m, hw1⟩, hq, hb⟩; subst w1; rw [unhide Hq] at hq; have HQ := hide hq; have HB := hide hb; obtain ⟨ao, len, cap, rfl, rfl, h2, ⟨h3, h3'⟩, _⟩ := hq; clear hb))
            | (go_at_call 243; go_must (refine (fuv_any _ q _ (by exact (unhide HQ).drewN _)).mono ?_; rintro r w1 ⟨rfl, hw1⟩; subst w1; rw [unhide HX])))
          go_ret
          rw [unhide HV]
          exact ⟨_, rfl, Rd.nil _, ((unhide HR).drewN _).setFault 2, ((Kept.refl [b] w).drewN _).setCell (by simp) _, by simp [blk]⟩
        · by_cases hlt : q.length - s < x
          · have HV := hide (by rw [unhide HV2, if_neg hs0, if_neg hm, if_pos hlt] : rBlob p i 0 mo = ([], i, 3))
            have hlt' : (q.length : Int) - s < x := by omega
            go_enter Tryz.func244, Tryz.ntmps244
            go_wp2_with (first
              | (go_at_call 215; go_must (refine (rerr_any b gv p i 0 _ (unhide HR)).mono ?_; rintro r w1 ⟨rfl, hw1⟩; subst w1))
              | (go_at_call 217; go_must (refine (rleft_any b gv p i 0 _ (unhide HR)).mono ?_; rintro r w1 ⟨lv, rfl, ⟨m, hw1⟩, hq, hb⟩; subst w1; rw [unhide Hq] at hq; have HQ := hide hq; have HB := hide hb; obtain ⟨ao, len, cap, rfl, rfl, h2, ⟨h3, h3'⟩, _⟩ := hq; clear hb))
              | (go_at_call 243; go_must (refine (fuv_any _ q _ (by exact (unhide HQ).drewN _)).mono ?_; rintro r w1 ⟨rfl, hw1⟩; subst w1; rw [unhide HX])))
            go_ret
            rw [unhide HV]
            exact ⟨_, rfl, Rd.nil _, ((unhide HR).drewN _).setFault 3, ((Kept.refl [b] w).drewN _).setCell (by simp) _, by simp [blk]⟩
          · have HV := hide (by rw [unhide HV2, if_neg hs0, if_neg hm, if_neg hlt] : rBlob p i 0 mo = ((q.drop s).take x, i + (s + x), 0))
            have hlt' : ¬ (q.length : Int) - s < x := by omega
            have hxq : (s : Int) + x ≤ q.length := by omega
            have hx47 : (x : Int) ≤ 140737488355328 := by omega
            go_enter Tryz.func244, Tryz.ntmps244
            go_wp2_with (first
              | (go_at_call 215; go_must (refine (rerr_any b gv p i 0 _ (unhide HR)).mono ?_; rintro r w1 ⟨rfl, hw1⟩; subst w1))
              | (go_at_call 217; go_must (refine (rleft_any b gv p i 0 _ (unhide HR)).mono ?_; rintro r w1 ⟨lv, rfl, ⟨m, hw1⟩, hq, hb⟩; subst w1; rw [unhide Hq] at hq; have HQ := hide hq; have HB := hide hb; obtain ⟨ao, len, cap, rfl, rfl, h2, ⟨h3, h3'⟩, _⟩ := hq; clear hb))
              | (go_at_call 243; go_must (refine (fuv_any _ q _ (by exact (unhide HQ).drewN _)).mono ?_; rintro r w1 ⟨rfl, hw1⟩; subst w1; rw [unhide HX])))
            all_goals
              have hrd0 := (unhide HQ).kept (((Kept.refl [b] w).drewN m).setCell (p := ⟨b, 1, none⟩) (by simp) (.int .i64 ((i : Int) + ((s : Int) + x)))) (by intro y hy; simp; rintro rfl; exact unhide hne (unhide HB _ hy))
              have HFin := hide (((unhide HR).drewN m).setAt (i + (s + x)) (by omega))
              have HK := hide (((Kept.refl [b] w).drewN m).setCell (p := ⟨b, 1, none⟩) (by simp) (.int .i64 ((i : Int) + ((s : Int) + x))))
              rw [show (((i + (s + x) : Nat) : Int)) = (i : Int) + ((s : Int) + x) from by omega] at HFin
              have hsz : ((w.drewN m).setCell ⟨b, 1, none⟩ (.int .i64 ((i : Int) + ((s : Int) + x)))).heap.size = w.heap.size := by simp [World.setCell, World.drewN]
              obtain ⟨W, hW⟩ : ∃ W, (w.drewN m).setCell ⟨b, 1, none⟩ (.int .i64 ((i : Int) + ((s : Int) + x))) = W := ⟨_, rfl⟩
              rw [hW] at hrd0 HFin HK hsz ⊢
              have hlt2 : ((q.drop s).take x).length = x := by simp; omega
              have hby : ∀ y ∈ (q.drop s).take x, y < 256 := fun y hy => hrd0.byte y (List.mem_of_mem_drop (List.mem_of_mem_take hy))
              refine (cloned_any _ ((q.drop s).take x) _ (by first | exact hrd0.sub0 (by assumption) (by omega) | exact hrd0.sub (by omega))).mono ?_
              rintro r w2 ⟨rfl, hk2, hg2⟩
              have HG2 := hide hg2
              have HK2 := hide hk2
              have HB2 := hide hby
              clear hrd0 hg2 hk2 hW hby
              rw [hlt2, hsz]
              rw [hsz] at HG2
              have Hlt := hide hlt2
              have Hsz := hide hsz
              clear hlt2 hsz
              go_wp2
              go_ret
              rw [unhide HV]
              refine ⟨_, rfl, ?_, (unhide HFin).kept (unhide HK2) (by simp) (by simp), (unhide HK).trans (unhide HK2) (by simp), by simp [blk]⟩
              have hfin := rd_fresh (unhide HG2) (unhide HB2) (by rw [unhide Hlt]; omega)
              rw [unhide Hlt] at hfin; exact hfin
  · have he' : ((e : Int) != 0) = true := by rw [bne_iff_ne]; omega
    have HV := hide (by simp [rBlob, he] : rBlob p i e n = ([], i, e))
    clear he
    go_enter Tryz.func244, Tryz.ntmps244
    go_wp2_with (go_at_call 215; go_must (refine (rerr_any b gv p i e _ (unhide HR)).mono ?_; rintro r w1 ⟨rfl, hw1⟩; subst w1))
    go_ret
    rw [unhide HV]
    exact ⟨_, rfl, Rd.nil _, unhide HR, Kept.refl _ _, by simp [blk]⟩
end Go.Proofs.YtejchncdimcdbaaGreatDoor
namespace Go.Proofs.YtejchncdimcdbaaGreatDoor
open Go.RowKit Go.BigFrame
set_option linter.unusedVariables false
set_option linter.unusedSimpArgs false

/-- An entry: its kind, key, value. -/
structure En where
  k : Nat
  key : List Nat
  val : List Nat
deriving DecidableEq
def enC (e : En) (kv vv : Value) : Array Value := #[.int .u8 (e.k : Int), kv, vv]
structure OkE (w : World) (e : En) (kv vv : Value) : Prop where
  k : e.k < 256
  key : Rd w kv e.key
  val : Rd w vv e.val
theorem OkE.old {w w' : World} {e : En} {kv vv : Value} (h : OkE w e kv vv) (k : Kept [] w w') : OkE w' e kv vv := ⟨h.k, h.key.old k (by simp), h.val.old k (by simp)⟩
def chkE (e : En) : Nat := if 64 < e.key.length ∨ 256 < e.val.length then 2 else if (e.k ≠ 1 ∧ e.k ≠ 2) ∨ (e.k = 2 ∧ 0 < e.val.length) then 3 else 0
def enB (e : En) : List Nat := e.k :: (uv e.key.length ++ e.key ++ (if e.k = 1 then uv e.val.length ++ e.val else []))

set_option maxRecDepth 100000 in
set_option maxHeartbeats 1000000 in
theorem isKind_any (k : Nat) (w : World) :
    Calls Tryz.prog 232 #[.int .u8 k] w fun e w' => e = .returned (.bool (decide (k = 1 ∨ k = 2))) ∧ w' = w := by
  by_cases h1 : k = 1
  · have HD := hide (decide_eq_true (Or.inl h1 : k = 1 ∨ k = 2))
    have e1 : ((k : Int) == 1) = true := by rw [h1]; rfl
    clear h1
    go_enter Tryz.func232, Tryz.ntmps232
    go_wp2
    go_ret
    exact ⟨by rw [unhide HD]; rfl, rfl⟩
  · have e1 : ((k : Int) == 1) = false := by rw [beq_eq_false_iff_ne]; omega
    by_cases h2 : k = 2
    · have HD := hide (decide_eq_true (Or.inr h2 : k = 1 ∨ k = 2))
      have e2 : ((k : Int) == 2) = true := by rw [h2]; rfl
      clear h1 h2
      go_enter Tryz.func232, Tryz.ntmps232
      go_wp2
      go_ret
      exact ⟨by rw [unhide HD]; rfl, rfl⟩
    · have HD := hide (decide_eq_false (by omega : ¬ (k = 1 ∨ k = 2)))
      have e2 : ((k : Int) == 2) = false := by rw [beq_eq_false_iff_ne]; omega
      clear h1 h2
      go_enter Tryz.func232, Tryz.ntmps232
      go_wp2
      go_ret
      exact ⟨by rw [unhide HD]; rfl, rfl⟩

set_option maxRecDepth 100000 in
set_option maxHeartbeats 1000000 in
theorem check_any (e : En) (kv vv : Value) (w : World) (h : OkE w e kv vv) :
    Calls Tryz.prog 189 #[.agg (enC e kv vv)] w fun r w' => r = .returned (.int .i64 (chkE e)) ∧ Kept [] w w' := by
  obtain ⟨E, hE⟩ : ∃ E, chkE e = E := ⟨_, rfl⟩
  rw [hE]
  have HE := hide hE
  clear hE
  obtain ⟨a1, n1, c1, rfl, hn1, _⟩ := id h.key
  obtain ⟨a2, n2, c2, rfl, hn2, _⟩ := id h.val
  obtain ⟨k, key, val⟩ := e
  simp only at hn1 hn2
  subst hn1
  subst hn2
  unfold enC
  have HK0 := hide ((Kept.refl [] w).alloc (.cells #[.int .u8 (k : Int), .slice a1 key.length c1, .slice a2 val.length c2] 89))
  go_enter Tryz.func189, Tryz.ntmps189
  by_cases h1 : 64 < key.length
  · have h1' : (64 : Int) < key.length := by omega
    have HE2 := hide (by rw [← unhide HE]; simp [chkE, h1] : E = 2)
    go_wp2
    go_ret
    exact ⟨by rw [unhide HE2]; rfl, unhide HK0⟩
  · have h1' : ¬ (64 : Int) < key.length := by omega
    by_cases h2 : 256 < val.length
    · have h2' : (256 : Int) < val.length := by omega
      have HE2 := hide (by rw [← unhide HE]; simp [chkE, h2] : E = 2)
      go_wp2
      go_ret
      exact ⟨by rw [unhide HE2]; rfl, unhide HK0⟩
    · have h2' : ¬ (256 : Int) < val.length := by omega
      go_wp2_with fail
      refine Calls.mono (isKind_any k _) ?_
      rintro r w1 ⟨rfl, rfl⟩
      by_cases hk : k = 1 ∨ k = 2
      · rw [decide_eq_true hk]
        by_cases hk2 : k = 2
        · have e2 : ((k : Int) == 2) = true := by rw [hk2]; rfl
          by_cases hv : 0 < val.length
          · have hv' : (0 : Int) < val.length := by omega
            have HE2 := hide (by rw [← unhide HE]; simp [chkE, h1, h2, hk2, hv] : E = 3)
            clear hk hk2
            go_wp2
            go_ret
            exact ⟨by rw [unhide HE2]; rfl, unhide HK0⟩
          · have hv' : ¬ (0 : Int) < val.length := by omega
            have HE2 := hide (by rw [← unhide HE]; simp [chkE, h1, h2, hk2, hv] : E = 0)
            clear hk hk2
            go_wp2
            go_ret
            exact ⟨by rw [unhide HE2]; rfl, unhide HK0⟩
        · have e2 : ((k : Int) == 2) = false := by rw [beq_eq_false_iff_ne]; omega
          have HE2 := hide (by rw [← unhide HE]; have hk1 : k = 1 := by omega
                               simp [chkE, h1, h2, hk1] : E = 0)
          clear hk hk2
          go_wp2
          go_ret
          exact ⟨by rw [unhide HE2]; rfl, unhide HK0⟩
      · rw [decide_eq_false hk]
        have HE2 := hide (by rw [← unhide HE]; have hk1 : k ≠ 1 ∧ k ≠ 2 := by omega
                             simp [chkE, h1, h2, hk1] : E = 3)
        clear hk
        go_wp2
        go_ret
        exact ⟨by rw [unhide HE2]; rfl, unhide HK0⟩

set_option maxRecDepth 100000 in
set_option maxHeartbeats 1000000 in
theorem docCheck_any (e : En) (kv vv : Value) (w : World) (h : OkE w e kv vv) :
    Calls Tryz.prog 195 #[.agg (enC e kv vv)] w fun r w' => r = .returned (.int .i64 (chkE e)) ∧ Kept [] w w' := by
  obtain ⟨E, hE⟩ : ∃ E, chkE e = E := ⟨_, rfl⟩
  rw [hE]
  have HE := hide hE
  clear hE
  obtain ⟨a1, n1, c1, rfl, hn1, _⟩ := id h.key
  obtain ⟨a2, n2, c2, rfl, hn2, _⟩ := id h.val
  obtain ⟨k, key, val⟩ := e
  simp only at hn1 hn2
  subst hn1
  subst hn2
  unfold enC
  have HK0 := hide ((Kept.refl [] w).alloc (.cells #[.int .u8 (k : Int), .slice a1 key.length c1, .slice a2 val.length c2] 89))
  go_enter Tryz.func195, Tryz.ntmps195
  by_cases h1 : 64 < key.length
  · have h1' : (64 : Int) < key.length := by omega
    have HE2 := hide (by rw [← unhide HE]; simp [chkE, h1] : E = 2)
    go_wp2
    go_ret
    exact ⟨by rw [unhide HE2]; rfl, unhide HK0⟩
  · have h1' : ¬ (64 : Int) < key.length := by omega
    by_cases h2 : 256 < val.length
    · have h2' : (256 : Int) < val.length := by omega
      have HE2 := hide (by rw [← unhide HE]; simp [chkE, h2] : E = 2)
      go_wp2
      go_ret
      exact ⟨by rw [unhide HE2]; rfl, unhide HK0⟩
    · have h2' : ¬ (256 : Int) < val.length := by omega
      by_cases hk1 : k = 1
      · have e1 : ((k : Int) != 1) = false := by rw [hk1]; rfl
        have e2 : ((k : Int) == 2) = false := by rw [hk1]; rfl
        have HE2 := hide (by rw [← unhide HE]; simp [chkE, h1, h2, hk1] : E = 0)
        clear hk1
        go_wp2
        go_ret
        exact ⟨by rw [unhide HE2]; rfl, unhide HK0⟩
      · have e1 : ((k : Int) != 1) = true := by rw [bne_iff_ne]; omega
        by_cases hk2 : k = 2
        · have e2 : ((k : Int) == 2) = true := by rw [hk2]; rfl
          have e3 : ((k : Int) != 2) = false := by rw [hk2]; rfl
          by_cases hv : 0 < val.length
          · have hv' : (0 : Int) < val.length := by omega
            have HE2 := hide (by rw [← unhide HE]; simp [chkE, h1, h2, hk2, hv] : E = 3)
            clear hk1 hk2
            go_wp2
            go_ret
            exact ⟨by rw [unhide HE2]; rfl, unhide HK0⟩
          · have hv' : ¬ (0 : Int) < val.length := by omega
            have HE2 := hide (by rw [← unhide HE]; simp [chkE, h1, h2, hk2, hv] : E = 0)
            clear hk1 hk2
            go_wp2
            go_ret
            exact ⟨by rw [unhide HE2]; rfl, unhide HK0⟩
        · have e3 : ((k : Int) != 2) = true := by rw [bne_iff_ne]; omega
          have HE2 := hide (by rw [← unhide HE]; simp [chkE, h1, h2, hk1, hk2] : E = 3)
          clear hk1 hk2
          go_wp2
          go_ret
          exact ⟨by rw [unhide HE2]; rfl, unhide HK0⟩

end Go.Proofs.YtejchncdimcdbaaGreatDoor
namespace Go.Proofs.YtejchncdimcdbaaGreatDoor
open Go.RowKit Go.BigFrame
set_option linter.unusedVariables false
set_option linter.unusedSimpArgs false

theorem Wn.notNew {w0 w : World} {b : Nat} {v : Value} {bs : List Nat} (h : Wn w0 w b v bs) : w.heap.size ∉ b :: v.ownBlock.toList := by
  intro hx
  rcases List.mem_cons.1 hx with hx | hx
  · have := h.at_.lt; omega
  · have := h.at_.ownlt (g := w.heap.size) (by simpa [Option.mem_toList] using hx); omega
theorem alloc_at (w : World) (a : Obj) (b : Obj) : ((w.alloc a).alloc b).heap[w.heap.size + 1]? = some b := by
  have h9 := heap_alloc_new (w.alloc a) b
  have e : (w.alloc a).heap.size = w.heap.size + 1 := Array.size_push _
  rw [e] at h9
  exact h9

set_option maxRecDepth 100000 in
set_option maxHeartbeats 1000000 in
theorem layEntry_any {w0 w : World} {b : Nat} {v : Value} {bs : List Nat} (e : En) (kv vv : Value) (h : Wn w0 w b v bs) (he : OkE w0 e kv vv) (hl : bs.length + e.key.length + e.val.length ≤ 1000000000000) :
    Calls Tryz.prog 146 #[.pointer (some ⟨b, 0, none⟩), .agg (enC e kv vv)] w fun r w' => r = .returned (.tuple #[]) ∧ ∃ v', Wn w0 w' b v' (bs ++ enB e) := by
  have HW := hide h
  have HE := hide he
  have hk := he.k
  obtain ⟨a1, n1, c1, rfl, hn1, _⟩ := id he.key
  obtain ⟨a2, n2, c2, rfl, hn2, _⟩ := id he.val
  obtain ⟨k, key, val⟩ := e
  simp only at hn1 hn2 hk hl
  subst hn1
  subst hn2
  clear h he
  unfold enC
  have HG := hide (heap_alloc_new w (.cells #[.int .u8 (k : Int), .slice a1 key.length c1, .slice a2 val.length c2] 89))
  have HWW := hide ((unhide HW).pass ((Kept.refl [] w).alloc (.cells #[.int .u8 (k : Int), .slice a1 key.length c1, .slice a2 val.length c2] 89)))
  have HNN := hide (unhide HW).notNew
  go_enter Tryz.func146, Tryz.ntmps146
  go_wp2_with fail
  obtain ⟨W, hW⟩ : ∃ W, w.alloc (.cells #[.int .u8 (k : Int), .slice a1 key.length c1, .slice a2 val.length c2] 89) = W := ⟨_, rfl⟩
  rw [hW] at HG HWW ⊢
  clear hW
  have HC0 := hide (by rw [cell_of_row _ _ _ _ _ _ (unhide HG)]; rfl : W.cell? ⟨w.heap.size, 0, none⟩ = some (.int .u8 (k : Int)))
  have HC1 := hide (by rw [cell_of_row _ _ _ _ _ _ (unhide HG)]; rfl : W.cell? ⟨w.heap.size, 1, none⟩ = some (.slice a1 key.length c1))
  have HC2 := hide (by rw [cell_of_row _ _ _ _ _ _ (unhide HG)]; rfl : W.cell? ⟨w.heap.size, 2, none⟩ = some (.slice a2 val.length c2))
  refine Calls.mono (wu8_any b v bs k W (unhide HWW).at_ hk (by omega)) ?_
  rintro r w1 ⟨rfl, v1, h1, g1⟩
  have d0 := g1.kept.cell (unhide HC0) (unhide HNN)
  have d1 := g1.kept.cell (unhide HC1) (unhide HNN)
  have HW1 := hide ((unhide HWW).grew h1 g1)
  have HG1 := hide g1
  rw [show bs ++ wide k 1 = bs ++ [k] by simp [wide, Nat.mod_eq_of_lt hk]] at HW1
  clear h1 g1
  have HU1 := hide (uv_len key.length (by omega))
  have HU2 := hide (uv_len val.length (by omega))
  go_wp2_with fail
  refine Calls.mono (wblob_any b v1 _ (bs ++ [k]) key w1 (unhide HW1).at_ (fun w' kk => (unhide HW1).rd (unhide HE).key kk) (by simp only [List.length_append, List.length_cons, List.length_nil]; omega)) ?_
  rintro r w2 ⟨rfl, v2, h2, g2⟩
  have g12 := (unhide HG1).trans g2
  have q0 := g12.kept.cell (unhide HC0) (unhide HNN)
  have q2 := g12.kept.cell (unhide HC2) (unhide HNN)
  have HW2 := hide ((unhide HW1).grew h2 g2)
  clear h2 g2 g12 d0 d1
  by_cases hk1 : k = 1
  · have e1 : ((k : Int) == 1) = true := by rw [hk1]; rfl
    have HB := hide (by simp [enB, hk1] : enB ⟨k, key, val⟩ = k :: (uv key.length ++ key ++ (uv val.length ++ val)))
    clear hk1
    go_wp2_with fail
    refine Calls.mono (wn_blob (unhide HW2) (unhide HE).val (by have := unhide HU1; have := unhide HU2; simp only [List.length_append, List.length_cons, List.length_nil]; omega)) ?_
    rintro r w3 ⟨rfl, v3, h3⟩
    have HW3 := hide h3
    clear h3
    go_wp2
    go_end0
    refine ⟨rfl, v3, ?_⟩
    rw [unhide HB]
    have h9 := unhide HW3
    simpa only [List.append_assoc, List.cons_append, List.nil_append] using h9
  · have e1 : ((k : Int) == 1) = false := by rw [beq_eq_false_iff_ne]; omega
    have HB := hide (by simp [enB, hk1] : enB ⟨k, key, val⟩ = k :: (uv key.length ++ key))
    clear hk1
    go_wp2
    go_end0
    refine ⟨rfl, v2, ?_⟩
    rw [unhide HB]
    have h9 := unhide HW2
    simpa only [List.append_assoc, List.cons_append, List.nil_append] using h9

end Go.Proofs.YtejchncdimcdbaaGreatDoor
namespace Go.Proofs.YtejchncdimcdbaaGreatDoor
open Go.RowKit Go.BigFrame
set_option linter.unusedVariables false
set_option linter.unusedSimpArgs false

theorem rd_one {w : World} {g k : Nat} (h : w.heap[g]? = some (.cells #[.int .u8 (k : Int)] 5 (0, 0))) (hk : k < 256) : Rd w (.slice (some ⟨g, 0, none⟩) 1 1) [k] :=
  rd_lit h rfl (by intro x hx; simp at hx; omega) 1 rfl (by omega)

set_option maxRecDepth 100000 in
set_option maxHeartbeats 1000000 in
theorem refBytes_any (e : En) (kv vv : Value) (w : World) (h : OkE w e kv vv) (hl : e.key.length + e.val.length ≤ 1000000000) :
    Calls Tryz.prog 156 #[.agg (enC e kv vv)] w fun r w' => ∃ v', r = .returned v' ∧ Rd w' v' (enB e) ∧ Kept [] w w' := by
  have hk := h.k
  have HKV := hide h.key
  have HVV := hide h.val
  obtain ⟨a1, n1, c1, rfl, hn1, _⟩ := id h.key
  obtain ⟨a2, n2, c2, rfl, hn2, _⟩ := id h.val
  obtain ⟨k, key, val⟩ := e
  simp only at hn1 hn2 hk hl HKV HVV
  subst hn1
  subst hn2
  clear h
  unfold enC
  have HG := hide (heap_alloc_new w (.cells #[.int .u8 (k : Int), .slice a1 key.length c1, .slice a2 val.length c2] 89))
  have HK0 := hide ((Kept.refl [] w).alloc (.cells #[.int .u8 (k : Int), .slice a1 key.length c1, .slice a2 val.length c2] 89))
  go_enter Tryz.func156, Tryz.ntmps156
  go_wp2_with fail
  obtain ⟨W, hW⟩ : ∃ W, w.alloc (.cells #[.int .u8 (k : Int), .slice a1 key.length c1, .slice a2 val.length c2] 89) = W := ⟨_, rfl⟩
  rw [hW] at HG HK0 ⊢
  clear hW
  have x0 : W.cell? ⟨w.heap.size, 0, none⟩ = some (.int .u8 (k : Int)) := by rw [cell_of_row _ _ _ _ _ _ (unhide HG)]; rfl
  have x1 : W.cell? ⟨w.heap.size, 1, none⟩ = some (.slice a1 key.length c1) := by rw [cell_of_row _ _ _ _ _ _ (unhide HG)]; rfl
  have HX0 := hide x0
  have HX1 := hide x1
  have HX2 := hide (by rw [cell_of_row _ _ _ _ _ _ (unhide HG)]; rfl : W.cell? ⟨w.heap.size, 2, none⟩ = some (.slice a2 val.length c2))
  have HKW := hide ((unhide HKV).old (unhide HK0) (by simp))
  have HVW := hide ((unhide HVV).old (unhide HK0) (by simp))
  have HU1 := hide (uv_len key.length (by omega))
  have HU2 := hide (uv_len val.length (by omega))
  go_region_held3 (fun w' => w'.cell? ⟨w.heap.size, 0, none⟩ = some (.int .u8 (k : Int)) ∧ w'.cell? ⟨w.heap.size, 1, none⟩ = some (.slice a1 key.length c1)) (go_keep) (first
    | (go_at_call 196; refine (refBlob_any _ key _ (by first | exact (unhide HKW).old ((Kept.refl [] W).alloc (.cells #[.int .u8 (k : Int)] 5)).drew (by simp) | exact (unhide HKW).old (Kept.refl [] W).drew (by simp)) (by omega)).mono ?_; rintro e w3 ⟨v3, rfl, r3, k3, _⟩; have HR3 := hide r3; (try (have HL1 := hide ((rd_one (show (W.alloc (.cells #[.int .u8 (k : Int)] 5)).drew.heap[W.heap.size]? = _ from heap_alloc_new W _) hk).old k3 (by simp)))); first | (have K3 := ((Kept.refl [] W).alloc (.cells #[.int .u8 (k : Int)] 5)).drew.trans k3 (by simp); have HK3 := hide K3; have y0 := K3.cell (unhide HX0) (by simp); have y1 := K3.cell (unhide HX1) (by simp); clear K3 k3 r3) | (have K3 := (Kept.refl [] W).drew.trans k3 (by simp); have HK3 := hide K3; have y0 := K3.cell (unhide HX0) (by simp); have y1 := K3.cell (unhide HX1) (by simp); clear K3 k3 r3))
    | (go_at_call 140; refine (join_any _ _ [k] (uv key.length ++ key) _ (by exact unhide HL1) (by exact unhide HR3) (by have := unhide HU1; simp only [List.length_append, List.length_cons, List.length_nil]; omega)).mono ?_; rintro e w4 ⟨v4, rfl, r4, k4, _⟩; have HR4 := hide r4; have HK4 := hide ((unhide HK3).trans k4 (by simp)); have z0 := k4.cell y0 (by simp); have z1 := k4.cell y1 (by simp); clear r4 k4)
    | (go_at_call 140; refine (join_any _ _ [k] (uv key.length ++ key) _ (by exact rd_one (heap_alloc_new w3 _) hk) (by exact (unhide HR3).old ((Kept.refl [] w3).alloc _) (by simp)) (by have := unhide HU1; simp only [List.length_append, List.length_cons, List.length_nil]; omega)).mono ?_; rintro e w4 ⟨v4, rfl, r4, k4', _⟩; have k4 := ((Kept.refl [] w3).alloc _).trans k4' (by simp); have HR4 := hide r4; have HK4 := hide ((unhide HK3).trans k4 (by simp)); have z0 := k4.cell y0 (by simp); have z1 := k4.cell y1 (by simp); clear r4 k4 k4'))
  all_goals
    have q0 := (unhide HK4).cell (unhide HX0) (by simp)
    have q2 := (unhide HK4).cell (unhide HX2) (by simp)
    have HV4 := hide ((unhide HVW).old (unhide HK4) (by simp))
    by_cases hk1 : k = 1
    · have e1 : ((k : Int) == 1) = true := by rw [hk1]; rfl
      have HB := hide (by simp [enB, hk1] : enB ⟨k, key, val⟩ = [k] ++ (uv key.length ++ key) ++ (uv val.length ++ val))
      clear hk1
      go_wp2_with fail
      refine Calls.mono (refBlob_any _ val _ (unhide HV4) (by omega)) ?_
      rintro r w5 ⟨v5, rfl, r5, k5, _⟩
      have HR5 := hide r5
      have HJ5 := hide ((unhide HR4).old k5 (by simp))
      have HK5 := hide ((unhide HK4).trans k5 (by simp))
      clear r5 k5
      go_wp2_with fail
      refine Calls.mono (join_any _ _ _ _ _ (unhide HJ5) (unhide HR5) (by have := unhide HU1; have := unhide HU2; simp only [List.length_append, List.length_cons, List.length_nil]; omega)) ?_
      rintro r w6 ⟨v6, rfl, r6, k6, _⟩
      have HR6 := hide r6
      have HK6 := hide ((unhide HK0).trans ((unhide HK5).trans k6 (by simp)) (by simp))
      clear r6 k6
      go_wp2
      go_ret
      exact ⟨_, rfl, by rw [unhide HB]; exact unhide HR6, unhide HK6⟩
    · have e1 : ((k : Int) == 1) = false := by rw [beq_eq_false_iff_ne]; omega
      have HB := hide (by simp [enB, hk1] : enB ⟨k, key, val⟩ = [k] ++ (uv key.length ++ key))
      clear hk1
      go_wp2
      go_ret
      exact ⟨_, rfl, by rw [unhide HB]; exact unhide HR4, (unhide HK0).trans (unhide HK4) (by simp)⟩

end Go.Proofs.YtejchncdimcdbaaGreatDoor
namespace Go.Proofs.YtejchncdimcdbaaGreatDoor
open Go.RowKit Go.BigFrame
set_option linter.unusedVariables false
set_option linter.unusedSimpArgs false

theorem en_eq (a b : En) : decide (a = b) = (decide (a.k = b.k) && (decide (a.key = b.key) && decide (a.val = b.val))) := by
  cases a; cases b; simp

set_option maxRecDepth 100000 in
set_option maxHeartbeats 1000000 in
theorem sameEntry_any (a b : En) (ka va kb vb : Value) (w : World) (ha : OkE w a ka va) (hb : OkE w b kb vb) :
    Calls Tryz.prog 143 #[.agg (enC a ka va), .agg (enC b kb vb)] w fun r w' => r = .returned (.bool (decide (a = b))) ∧ Kept [] w w' := by
  rw [en_eq]
  obtain ⟨k, key, val⟩ := a
  obtain ⟨k', key', val'⟩ := b
  have HA := hide ha
  have HB := hide hb
  clear ha hb
  simp only
  obtain ⟨X, hX⟩ : ∃ X, decide (key = key') = X := ⟨_, rfl⟩
  obtain ⟨Y, hY⟩ : ∃ X, decide (val = val') = X := ⟨_, rfl⟩
  rw [hX, hY]
  have HX := hide hX
  have HY := hide hY
  clear hX hY
  unfold enC
  simp only
  have HG := hide (((Kept.refl [] (w.alloc (.cells #[.int .u8 (k : Int), ka, va] 89))).alloc (.cells #[.int .u8 (k' : Int), kb, vb] 89)).heap (heap_alloc_new w (.cells #[.int .u8 (k : Int), ka, va] 89)) (by simp))
  have HH := hide (alloc_at w (.cells #[.int .u8 (k : Int), ka, va] 89) (.cells #[.int .u8 (k' : Int), kb, vb] 89))
  have HK0 := hide (((Kept.refl [] w).alloc (.cells #[.int .u8 (k : Int), ka, va] 89)).alloc (.cells #[.int .u8 (k' : Int), kb, vb] 89))
  go_enter Tryz.func143, Tryz.ntmps143
  by_cases hk : k = k'
  · have e1 : ((k : Int) == (k' : Int)) = true := by rw [hk]; simp
    rw [decide_eq_true hk]
    have HKE := hide hk
    clear hk
    go_wp2_with fail
    refine Calls.mono (same_any _ _ key key' _ ((unhide HA).key.old (unhide HK0) (by simp)) ((unhide HB).key.old (unhide HK0) (by simp))) ?_
    rintro r w1 ⟨rfl, n1, rfl⟩
    rw [unhide HX]
    clear HX
    have HK1 := hide ((unhide HK0).drewN n1)
    have HA1 := hide ((unhide HA).val.old (unhide HK1) (by simp))
    have HB1 := hide ((unhide HB).val.old (unhide HK1) (by simp))
    cases X with
    | true =>
      go_wp2_with fail
      refine Calls.mono (same_any _ _ val val' _ (unhide HA1) (unhide HB1)) ?_
      rintro r w2 ⟨rfl, n2, rfl⟩
      rw [unhide HY]
      clear HY
      go_wp2
      go_ret
      exact ⟨by simp, (unhide HK0).drewN _⟩
    | false =>
      go_wp2
      go_ret
      exact ⟨by simp, unhide HK1⟩
  · have e1 : ((k : Int) == (k' : Int)) = false := by rw [beq_eq_false_iff_ne]; omega
    rw [decide_eq_false hk]
    clear hk
    go_wp2
    go_ret
    exact ⟨by simp, unhide HK0⟩

theorem eput3_heap {w : World} {g : Nat} {a b c : Value} {t : TypeId} (h : w.heap[g]? = some (.cells #[a, b, c] t (0, 0))) (x y z : Value) : (((w.setCell ⟨g, 0, none⟩ x).setCell ⟨g, 1, none⟩ y).setCell ⟨g, 2, none⟩ z).heap[g]? = some (.cells #[x, y, z] t (0, 0)) := by
  rw [heap_setCell_same _ g 2 _ t _ (heap_setCell_same _ g 1 _ t _ (heap_setCell_same w g 0 _ t _ h))]; rfl
theorem eput3_kept {L : List Nat} {w0 w : World} (k : Kept L w0 w) (g : Nat) (hg : g ∈ L ∨ w0.heap.size ≤ g) (x y z : Value) : Kept L w0 (((w.setCell ⟨g, 0, none⟩ x).setCell ⟨g, 1, none⟩ y).setCell ⟨g, 2, none⟩ z) := ((k.setCell hg x).setCell hg y).setCell hg z
theorem Tryz.size_entry : (Tryz.prog.info? 89).map (·.size) = some 3 := by kernel_rfl

theorem twin_ex (v : Value) (bs : List Nat) (w : World) (h : Rd w v bs) :
    Calls Tryz.prog 82 #[v] w fun e w' => ∃ v', e = .returned v' ∧ Rd w' v' bs ∧ (∀ x ∈ blk v', w.heap.size ≤ x) ∧ Kept [] w w' :=
  (twin_any v bs w h).mono fun e w' ⟨h1, h2, h3⟩ => ⟨_, h1, rd_fresh h3 h.byte h.len, by simp [blk], h2⟩
theorem Rd.one {w : World} {v : Value} {bs : List Nat} (h : Rd w v bs) : v.oneCell' = true := by obtain ⟨_, _, _, rfl, _⟩ := h; rfl

set_option maxRecDepth 100000 in
set_option maxHeartbeats 1000000 in
theorem twinEntry_any (e : En) (kv vv : Value) (w : World) (h : OkE w e kv vv) :
    Calls Tryz.prog 111 #[.agg (enC e kv vv)] w fun r w' => ∃ kv' vv', r = .returned (.agg (enC e kv' vv')) ∧ OkE w' e kv' vv' ∧ Kept [] w w' ∧ ∀ y, y ∈ blk kv' ∨ y ∈ blk vv' → w.heap.size ≤ y := by
  have H := hide h
  obtain ⟨k, key, val⟩ := e
  clear h
  unfold enC
  simp only
  have HG := hide (((Kept.refl [] (w.alloc (.cells #[.int .u8 (k : Int), kv, vv] 89))).alloc (.cells #[.int .u8 0, .slice none 0 0, .slice none 0 0] 89)).heap (heap_alloc_new w (.cells #[.int .u8 (k : Int), kv, vv] 89)) (by simp))
  have HZ := hide (alloc_at w (.cells #[.int .u8 (k : Int), kv, vv] 89) (.cells #[.int .u8 0, .slice none 0 0, .slice none 0 0] 89))
  have HK0 := hide (((Kept.refl [] w).alloc (.cells #[.int .u8 (k : Int), kv, vv] 89)).alloc (.cells #[.int .u8 0, .slice none 0 0, .slice none 0 0] 89))
  have HSZ := hide (show ((w.alloc (.cells #[.int .u8 (k : Int), kv, vv] 89)).alloc (.cells #[.int .u8 0, .slice none 0 0, .slice none 0 0] 89)).heap.size = w.heap.size + 2 by simp)
  go_enter Tryz.func111, Tryz.ntmps111
  go_wp2_with fail
  obtain ⟨W, hW⟩ : ∃ W, (w.alloc (.cells #[.int .u8 (k : Int), kv, vv] 89)).alloc (.cells #[.int .u8 0, .slice none 0 0, .slice none 0 0] 89) = W := ⟨_, rfl⟩
  rw [hW] at HG HZ HK0 HSZ ⊢
  clear hW
  have x0 : W.cell? ⟨w.heap.size, 0, none⟩ = some (.int .u8 (k : Int)) := by rw [cell_of_row _ _ _ _ _ _ (unhide HG)]; rfl
  have x1 : W.cell? ⟨w.heap.size, 1, none⟩ = some kv := by rw [cell_of_row _ _ _ _ _ _ (unhide HG)]; rfl
  have x2 : W.cell? ⟨w.heap.size, 2, none⟩ = some vv := by rw [cell_of_row _ _ _ _ _ _ (unhide HG)]; rfl
  have HX0 := hide x0
  have HX1 := hide x1
  have HX2 := hide x2
  have HKW := hide (((unhide H).key.old (unhide HK0) (by simp)).old (Kept.refl [] W).drew (by simp))
  have HVW := hide ((unhide H).val.old (unhide HK0) (by simp))
  have hne : w.heap.size ≠ w.heap.size + 1 := by omega
  go_region_held3 (fun w' => w'.cell? ⟨w.heap.size, 0, none⟩ = some (.int .u8 (k : Int)) ∧ w'.cell? ⟨w.heap.size, 1, none⟩ = some kv ∧ w'.cell? ⟨w.heap.size, 2, none⟩ = some vv) (go_keep) (first
    | (go_at_call 82; refine (twin_ex _ key _ (by exact unhide HKW)).mono ?_; rintro e w3 ⟨v3, rfl, r3, n3, k3⟩; obtain ⟨a3, m3, c3, hu3, _⟩ := id r3; subst hu3; have HR3 := hide r3; have HN3 := hide (show ∀ x ∈ blk (.slice a3 m3 c3), W.heap.size ≤ x from n3); have K3 := (Kept.refl [] W).drew.trans k3 (by simp); have HK3 := hide K3; have HV3 := hide ((unhide HVW).old K3 (by simp)); have y0 := K3.cell (unhide HX0) (by simp); have y1 := K3.cell (unhide HX1) (by simp); have y2 := K3.cell (unhide HX2) (by simp); clear K3 k3 r3 n3)
    | (go_at_call 82; refine (twin_ex _ val _ (by exact unhide HV3)).mono ?_; rintro e w4 ⟨v4, rfl, r4, n4, k4⟩; obtain ⟨a4, m4, c4, hu4, _⟩ := id r4; subst hu4; have HR4 := hide r4; have HN4 := hide n4; have HS4 := hide (unhide HK3).size; have HQ4 := hide ((unhide HR3).old k4 (by simp)); have K4 := (unhide HK3).trans k4 (by simp); have HK4 := hide K4; have z0 := K4.cell (unhide HX0) (by simp); have z1 := K4.cell (unhide HX1) (by simp); have z2 := K4.cell (unhide HX2) (by simp); have HZ4 := hide (K4.heap (unhide HZ) (by simp)); have t0 := cell_of_row _ _ 0 _ _ _ (unhide HZ4); have t1 := cell_of_row _ _ 1 _ _ _ (unhide HZ4); have t2 := cell_of_row _ _ 2 _ _ _ (unhide HZ4); have f0 := frozen_of_row _ _ 0 _ _ (unhide HZ4); have f1 := frozen_of_row _ _ 1 _ _ (unhide HZ4); have f2 := frozen_of_row _ _ 2 _ _ (unhide HZ4); clear K4 k4 r4 n4))
  all_goals go_wp2
  all_goals
    refine bodyPost_ret (v := .agg #[.int .u8 (k : Int), .slice a3 m3 c3, .slice a4 m4 c4]) ?_ rfl ⟨.slice a3 m3 c3, .slice a4 m4 c4, rfl, ⟨(unhide H).k, ?_, ?_⟩, ?_, ?_⟩
    · exact results_cell_row rfl _ _ (w.heap.size + 1) _ #[.int .u8 (k : Int), .slice a3 m3 c3, .slice a4 m4 c4] (0, 0) _ rfl (by exact eput3_heap (unhide HZ4) _ _ _) Tryz.underlying89 rfl Tryz.size_entry
    · refine (unhide HQ4).kept (eput3_kept (Kept.refl [w.heap.size + 1] w4) (w.heap.size + 1) (Or.inl (by simp)) _ _ _) ?_
      intro x hx hm
      have h9 := unhide HN3 x hx
      have h8 : x = w.heap.size + 1 := by simpa using hm
      have h7 := unhide HSZ
      omega
    · refine (unhide HR4).kept (eput3_kept (Kept.refl [w.heap.size + 1] w4) (w.heap.size + 1) (Or.inl (by simp)) _ _ _) ?_
      intro x hx hm
      have h9 := unhide HN4 x hx
      have h8 : x = w.heap.size + 1 := by simpa using hm
      have h7 := unhide HSZ
      have h6 := unhide HS4
      omega
    · exact eput3_kept ((unhide HK0).trans (unhide HK4) (by simp)) (w.heap.size + 1) (Or.inr (by omega)) _ _ _
    · intro y hy
      have h7 := unhide HSZ
      have h6 := unhide HS4
      rcases hy with hy | hy
      · have h9 := unhide HN3 y hy; omega
      · have h9 := unhide HN4 y hy; omega
end Go.Proofs.YtejchncdimcdbaaGreatDoor
namespace Go.Proofs.YtejchncdimcdbaaGreatDoor
open Go.RowKit Go.BigFrame
set_option linter.unusedVariables false
set_option linter.unusedSimpArgs false

theorem Kept.setRowE {L : List Nat} {a w : World} (h : Kept L a w) {g : Nat} (hg : g ∈ L ∨ a.heap.size ≤ g) (cs : Array Value) : Kept L a (w.setRow g cs) :=
  h.trans (M := [g]) ⟨rfl, rfl, rfl, by simp [World.setRow], fun k _ hn => setRow_other w g k _ (by simpa using hn)⟩ (by simpa using hg)
theorem row3_one {a b c : Value} (ha : a.oneCell' = true) (hb : b.oneCell' = true) (hc : c.oneCell' = true) : (#[a, b, c] : Array Value).all (·.oneCell') = true := by simp [ha, hb, hc]
/-- What a decoder throws. -/
def gave (f : Nat) : List PanicEntry := [{ v := .iface 300 (.agg #[.int .i64 (f : Int)]), recovered := false }]

set_option maxRecDepth 100000 in
set_option maxHeartbeats 1000000 in
theorem demand_ok (w : World) : Calls Tryz.prog 166 #[.int .i64 0] w fun r w' => r = .returned (.tuple #[]) ∧ w' = w := by
  go_enter Tryz.func166, Tryz.ntmps166
  go_wp2
  go_end0
  exact ⟨rfl, rfl⟩

set_option maxRecDepth 100000 in
set_option maxHeartbeats 1000000 in
theorem demand_bad (f : Nat) (w : World) (hf : f ≠ 0) : Calls Tryz.prog 166 #[.int .i64 f] w fun r w' => r = .panicked (gave f) ∧ w' = w := by
  have hb : ((f : Int) != 0) = true := by rw [bne_iff_ne]; omega
  go_enter Tryz.func166, Tryz.ntmps166
  go_wp2
  exact ⟨rfl, rfl, rfl⟩

/-- An entry off a reader: what is told, the place behind it, the fault (thrown where it is not 0). -/
def takeE (p : List Nat) (i : Nat) : En × Nat × Nat :=
  if (rNum p i 0 1).1 % 256 = 1 ∨ (rNum p i 0 1).1 % 256 = 2 then
    if (rNum p i 0 1).1 % 256 = 1 then
      (⟨1, (rBlob p (rNum p i 0 1).2.1 (rNum p i 0 1).2.2 64).1, (rBlob p (rBlob p (rNum p i 0 1).2.1 (rNum p i 0 1).2.2 64).2.1 (rBlob p (rNum p i 0 1).2.1 (rNum p i 0 1).2.2 64).2.2 256).1⟩,
        (rBlob p (rBlob p (rNum p i 0 1).2.1 (rNum p i 0 1).2.2 64).2.1 (rBlob p (rNum p i 0 1).2.1 (rNum p i 0 1).2.2 64).2.2 256).2)
    else (⟨2, (rBlob p (rNum p i 0 1).2.1 (rNum p i 0 1).2.2 64).1, []⟩, (rBlob p (rNum p i 0 1).2.1 (rNum p i 0 1).2.2 64).2)
  else (⟨0, [], []⟩, (rNum p i 0 1).2.1, 3)
def TookE (w w' : World) (b : Nat) (gv : Value) (p : List Nat) (x : En × Nat × Nat) (r : Ending) : Prop :=
  (x.2.2 = 0 → ∃ kv vv, r = .returned (.agg (enC x.1 kv vv)) ∧ OkE w' x.1 kv vv ∧ ReAt w' b gv p x.2.1 0 ∧ ∀ y, y ∈ blk kv ∨ y ∈ blk vv → w.heap.size ≤ y) ∧ (x.2.2 ≠ 0 → r = .panicked (gave x.2.2)) ∧ Kept [b] w w'

set_option maxRecDepth 100000 in
set_option maxHeartbeats 2000000 in
theorem takeEntry_any (b : Nat) (gv : Value) (p : List Nat) (i : Nat) (w : World) (h : ReAt w b gv p i 0) (hgv : ∀ x ∈ blk gv, x < w.heap.size) :
    Calls Tryz.prog 216 #[.pointer (some ⟨b, 0, none⟩)] w fun r w' => TookE w w' b gv p (takeE p i) r := by
  have H := hide h
  have hlt := h.lt
  obtain ⟨T, hT⟩ : ∃ T, takeE p i = T := ⟨_, rfl⟩
  rw [hT]
  have HT := hide hT
  unfold takeE at HT
  clear hT h
  have HZ := hide (heap_alloc_new w (.cells #[.int .u8 0, .slice none 0 0, .slice none 0 0] 89))
  have HK0 := hide ((Kept.refl [b] w).alloc (.cells #[.int .u8 0, .slice none 0 0, .slice none 0 0] 89))
  have HR0 := hide ((unhide H).kept ((Kept.refl [] w).alloc (.cells #[.int .u8 0, .slice none 0 0, .slice none 0 0] 89)) (by simp) (by simp))
  go_enter Tryz.func216, Tryz.ntmps216
  go_wp2_with fail
  refine Calls.mono (ru8_any b gv p i 0 _ (unhide HR0)) ?_
  rintro r w1 ⟨rfl, r1, k1⟩
  have hne0 : w.heap.size ≠ b := by omega
  have HZ1 := hide (k1.heap (unhide HZ) (by simpa using hne0))
  have HK1 := hide ((unhide HK0).trans k1 (by simp))
  obtain ⟨x, hx⟩ : ∃ x, rNum p i 0 1 = x := ⟨_, rfl⟩
  rw [hx] at HT r1 ⊢
  clear hx
  obtain ⟨x, i1, e1⟩ := x
  simp only at HT r1 ⊢
  have HR1 := hide r1
  clear r1 k1
  obtain ⟨k, hk⟩ : ∃ k, x % 256 = k := ⟨_, rfl⟩
  have hkl : k < 256 := by rw [← hk]; exact Nat.mod_lt _ (by decide)
  rw [hk] at HT ⊢
  clear hk
  have hs1 := (unhide HK1).size
  have hs1' : w.heap.size < w1.heap.size := by have := (unhide HK1).size; have h9 := lt_of_block (unhide HZ1); exact h9
  have HG1 := hide (heap_alloc_new w1 (.cells #[.int .u8 (k : Int), .slice none 0 0, .slice none 0 0] 89))
  go_wp2_with fail
  refine Calls.mono (isKind_any k _) ?_
  rintro r w2 ⟨rfl, rfl⟩
  have HK1a := hide ((unhide HK1).alloc (.cells #[.int .u8 (k : Int), .slice none 0 0, .slice none 0 0] 89))
  have HRW := hide ((unhide HR1).kept ((Kept.refl [] w1).alloc (.cells #[.int .u8 (k : Int), .slice none 0 0, .slice none 0 0] 89)) (by simp) (by simp))
  by_cases hk12 : ¬ (k = 1 ∨ k = 2)
  · rw [decide_eq_false hk12]
    have HT2 := hide (by rw [← unhide HT, if_neg hk12] : T = (⟨0, [], []⟩, i1, 3))
    clear hk12
    go_wp2_with fail
    refine Calls.mono (demand_bad 3 _ (by decide)) ?_
    rintro r w3 ⟨rfl, rfl⟩
    exact ⟨rfl, fun h => absurd h (by rw [unhide HT2]; simp), fun _ => by rw [unhide HT2], unhide HK1a⟩
  replace hk12 := Decidable.not_not.1 hk12
  rw [decide_eq_true hk12]
  have HT1 := hide (by have h9 := unhide HT; rw [if_pos hk12] at h9; exact h9)
  have HK12 := hide hk12
  clear hk12 HT
  go_wp2_with fail
  refine Calls.mono (rblob_any b gv p i1 e1 64 _ (unhide HRW) (by decide)) ?_
  rintro r w3 ⟨kv, rfl, rd3, r3, k3, n3⟩
  obtain ⟨y, hy⟩ : ∃ y, rBlob p i1 e1 64 = y := ⟨_, rfl⟩
  rw [hy] at HT1 rd3 r3
  clear hy
  obtain ⟨key, i2, e2⟩ := y
  simp only at HT1 rd3 r3
  have hneg : w1.heap.size ≠ b := by omega
  have HG3 := hide (k3.heap (unhide HG1) (by simpa using hneg))
  have HZ3 := hide (k3.heap ((Kept.refl [] w1).alloc (.cells #[.int .u8 (k : Int), .slice none 0 0, .slice none 0 0] 89) |>.heap (unhide HZ1) (by simp)) (by simpa using hne0))
  have HK3 := hide ((unhide HK1a).trans k3 (by simp))
  have HN3 := hide (show ∀ x ∈ blk kv, w1.heap.size + 1 ≤ x from fun x hx => by have h9 := n3 x hx; rw [show (w1.alloc (.cells #[.int .u8 (k : Int), .slice none 0 0, .slice none 0 0] 89)).heap.size = w1.heap.size + 1 from Array.size_push _] at h9; exact h9)
  obtain ⟨a3, m3, c3, hu3, _⟩ := id rd3
  subst hu3
  have HD3 := hide rd3
  have HR3 := hide r3
  clear rd3 r3 k3 n3
  have s0 := cell_of_row _ _ 0 _ _ _ (unhide HG3)
  have s1 := cell_of_row _ _ 1 _ _ _ (unhide HG3)
  have f1 := frozen_of_row _ _ 1 _ _ (unhide HG3)
  have HG4 := hide (by have h9 := heap_setCell_same _ w1.heap.size 1 _ 89 (.slice a3 m3 c3) (unhide HG3); exact h9 : (w3.setCell ⟨w1.heap.size, 1, none⟩ (.slice a3 m3 c3)).heap[w1.heap.size]? = some (.cells #[.int .u8 (k : Int), .slice a3 m3 c3, .slice none 0 0] 89 (0, 0)))
  have kst := (Kept.refl [w1.heap.size] w3).setCell (p := ⟨w1.heap.size, 1, none⟩) (Or.inl (by simp)) (.slice a3 m3 c3)
  have HZ4 := hide (kst.heap (unhide HZ3) (by simp; omega))
  have HK4 := hide ((unhide HK3).setCell (p := ⟨w1.heap.size, 1, none⟩) (Or.inr (by show w.heap.size ≤ w1.heap.size; omega)) (.slice a3 m3 c3))
  have HR4 := hide ((unhide HR3).kept kst (by simp; omega) (fun x hx => by simp; have h9 := hgv x hx; omega))
  have HD4 := hide ((unhide HD3).kept kst (fun x hx => by simp; have h9 := unhide HN3 x hx; omega))
  clear kst
  have t0 := cell_of_row _ _ 0 _ _ _ (unhide HG4)
  by_cases hk1 : k = 1
  · have hb1 : ((k : Int) == 1) = true := by rw [hk1]; rfl
    have HT2 := hide (by have h9 := unhide HT1; rw [if_pos hk1] at h9; exact h9.symm)
    have HKK := hide hk1
    clear hk1 HT1
    go_wp2_with fail
    obtain ⟨W4, hW4⟩ : ∃ W, w3.setCell ⟨w1.heap.size, 1, none⟩ (.slice a3 m3 c3) = W := ⟨_, rfl⟩
    rw [hW4] at HG4 HZ4 HK4 HR4 HD4 t0 ⊢
    clear hW4 s0 s1 f1 HG3 HR3 HD3
    refine Calls.mono (rblob_any b gv p i2 e2 256 W4 (unhide HR4) (by decide)) ?_
    rintro r w5 ⟨vv, rfl, rd5, r5, k5, n5⟩
    obtain ⟨y, hy⟩ : ∃ y, rBlob p i2 e2 256 = y := ⟨_, rfl⟩
    rw [hy] at HT2 rd5 r5
    clear hy
    obtain ⟨val, iF, eF⟩ := y
    simp only at HT2 rd5 r5
    have HG5 := hide (k5.heap (unhide HG4) (by simpa using hneg))
    have HZ5 := hide (k5.heap (unhide HZ4) (by simpa using hne0))
    have HK5 := hide ((unhide HK4).trans k5 (by simp))
    have hsz4 : w1.heap.size < W4.heap.size := lt_of_block (unhide HG4)
    have HN5 := hide (show ∀ x ∈ blk vv, w1.heap.size + 1 ≤ x from fun x hx => by have h9 := n5 x hx; omega)
    have HD5 := hide ((unhide HD4).kept k5 (fun x hx => by simp; have h9 := unhide HN3 x hx; omega))
    obtain ⟨a5, m5, c5, hu5, _⟩ := id rd5
    subst hu5
    have HV5 := hide rd5
    have HR5 := hide r5
    clear rd5 r5 k5 n5
    have s2 := cell_of_row _ _ 2 _ _ _ (unhide HG5)
    have f2 := frozen_of_row _ _ 2 _ _ (unhide HG5)
    have kst := (Kept.refl [w1.heap.size] w5).setCell (p := ⟨w1.heap.size, 2, none⟩) (Or.inl (by simp)) (.slice a5 m5 c5)
    have HGF := hide (by have h9 := heap_setCell_same _ w1.heap.size 2 _ 89 (.slice a5 m5 c5) (unhide HG5); exact h9 : (w5.setCell ⟨w1.heap.size, 2, none⟩ (.slice a5 m5 c5)).heap[w1.heap.size]? = some (.cells #[.int .u8 (k : Int), .slice a3 m3 c3, .slice a5 m5 c5] 89 (0, 0)))
    have HZF := hide (kst.heap (unhide HZ5) (by simp; omega))
    have HKF := hide ((unhide HK5).setCell (p := ⟨w1.heap.size, 2, none⟩) (Or.inr (by show w.heap.size ≤ w1.heap.size; omega)) (.slice a5 m5 c5))
    have HRF := hide ((unhide HR5).kept kst (by simp; omega) (fun x hx => by simp; have h9 := hgv x hx; omega))
    have HDF := hide ((unhide HD5).kept kst (fun x hx => by simp; have h9 := unhide HN3 x hx; omega))
    have HVF := hide ((unhide HV5).kept kst (fun x hx => by simp; have h9 := unhide HN5 x hx; omega))
    clear kst
    go_wp2_with fail
    obtain ⟨WF, hWF⟩ : ∃ W, w5.setCell ⟨w1.heap.size, 2, none⟩ (.slice a5 m5 c5) = W := ⟨_, rfl⟩
    rw [hWF] at HGF HZF HKF HRF HDF HVF ⊢
    clear hWF s2 f2
    have krow := (Kept.refl [w.heap.size] WF).setRowE (g := w.heap.size) (Or.inl (by simp)) #[.int .u8 (k : Int), .slice a3 m3 c3, .slice a5 m5 c5]
    have HRR := hide ((unhide HRF).kept krow (by simp; omega) (fun x hx => by simp; have h9 := hgv x hx; omega))
    have HOKF := hide (⟨by show (1 : Nat) < 256; omega, (unhide HDF).kept krow (fun x hx => by simp; have h9 := unhide HN3 x hx; omega), (unhide HVF).kept krow (fun x hx => by simp; have h9 := unhide HN5 x hx; omega)⟩ : OkE (WF.setRow w.heap.size #[.int .u8 (k : Int), .slice a3 m3 c3, .slice a5 m5 c5]) ⟨1, key, val⟩ (.slice a3 m3 c3) (.slice a5 m5 c5))
    have HNEW := hide (show ∀ y, y ∈ blk (.slice a3 m3 c3) ∨ y ∈ blk (.slice a5 m5 c5) → w.heap.size ≤ y from fun y hy => by rcases hy with h | h; have h9 := unhide HN3 y h; omega; have h9 := unhide HN5 y h; omega)
    clear krow
    go_wp2_with fail
    refine Calls.mono (rerr_any b gv p iF eF WF (unhide HRF)) ?_
    rintro r w5 ⟨rfl, rfl⟩
    by_cases hE : eF = 0
    · subst hE
      go_wp2_with fail
      refine Calls.mono (demand_ok _) ?_
      rintro r w6 ⟨rfl, rfl⟩
      go_wp2_with (first
        | (refine wpList_load_row rfl 89 _ rfl w1.heap.size rfl _ #[.int .u8 (k : Int), .slice a3 m3 c3, .slice a5 m5 c5] (0, 0) _ (unhide HGF) Tryz.underlying89 rfl Tryz.size_entry ?_)
        | (refine wpList_store_row rfl 89 _ _ rfl w.heap.size #[.int .u8 (k : Int), .slice a3 m3 c3, .slice a5 m5 c5] rfl rfl _ #[.int .u8 0, .slice none 0 0, .slice none 0 0] (unhide HZF) Tryz.size_entry rfl (row3_one rfl rfl rfl) ?_))
      refine bodyPost_ret (v := .agg #[.int .u8 (k : Int), .slice a3 m3 c3, .slice a5 m5 c5]) ?_ rfl ⟨fun _ => ⟨.slice a3 m3 c3, .slice a5 m5 c5, by rw [unhide HT2, unhide HKK]; rfl, ?_, ?_, ?_⟩, fun h => absurd (by rw [unhide HT2]) h, (unhide HKF).setRowE (Or.inr (Nat.le_refl _)) _⟩
      · exact results_cell_row rfl _ _ w.heap.size _ #[.int .u8 (k : Int), .slice a3 m3 c3, .slice a5 m5 c5] (0, 0) _ rfl (setRow_heap _ _ _ _ _ _ (unhide HZF)) Tryz.underlying89 rfl Tryz.size_entry
      · rw [unhide HT2]; exact unhide HOKF
      · rw [unhide HT2]; exact unhide HRR
      · exact unhide HNEW
    · have HT3 := hide (by rw [unhide HT2]; exact hE : T.2.2 ≠ 0)
      have HE := hide hE
      go_wp2_with fail
      refine Calls.mono (demand_bad eF _ hE) ?_
      rintro r w6 ⟨rfl, rfl⟩
      exact ⟨rfl, fun h => absurd h (unhide HT3), fun _ => by rw [unhide HT2], unhide HKF⟩
  · have hb1 : ((k : Int) == 1) = false := by rw [beq_eq_false_iff_ne]; omega
    have hk2 : k = 2 := by have h9 := unhide HK12; omega
    have HT2 := hide (by have h9 := unhide HT1; rw [if_neg hk1] at h9; exact h9.symm)
    have HKK := hide hk2
    clear hk1 hk2 HT1
    go_wp2_with fail
    obtain ⟨WF, hWF⟩ : ∃ W, w3.setCell ⟨w1.heap.size, 1, none⟩ (.slice a3 m3 c3) = W := ⟨_, rfl⟩
    rw [hWF] at HG4 HZ4 HK4 HR4 HD4 t0 ⊢
    clear hWF s0 s1 f1 HG3 HR3 HD3
    have HGF := HG4
    have HZF := HZ4
    have HKF := HK4
    have HRF := HR4
    have krow := (Kept.refl [w.heap.size] WF).setRowE (g := w.heap.size) (Or.inl (by simp)) #[.int .u8 (k : Int), .slice a3 m3 c3, .slice none 0 0]
    have HRR := hide ((unhide HRF).kept krow (by simp; omega) (fun x hx => by simp; have h9 := hgv x hx; omega))
    have HOKF := hide (⟨by show (2 : Nat) < 256; omega, (unhide HD4).kept krow (fun x hx => by simp; have h9 := unhide HN3 x hx; omega), Rd.nil _⟩ : OkE (WF.setRow w.heap.size #[.int .u8 (k : Int), .slice a3 m3 c3, .slice none 0 0]) ⟨2, key, []⟩ (.slice a3 m3 c3) (.slice none 0 0))
    have HNEW := hide (show ∀ y, y ∈ blk (.slice a3 m3 c3) ∨ y ∈ blk (.slice none 0 0) → w.heap.size ≤ y from fun y hy => by rcases hy with h | h; have h9 := unhide HN3 y h; omega; simp [blk] at h)
    clear krow
    go_wp2_with fail
    refine Calls.mono (rerr_any b gv p i2 e2 WF (unhide HRF)) ?_
    rintro r w5 ⟨rfl, rfl⟩
    by_cases hE : e2 = 0
    · subst hE
      go_wp2_with fail
      refine Calls.mono (demand_ok _) ?_
      rintro r w6 ⟨rfl, rfl⟩
      go_wp2_with (first
        | (refine wpList_load_row rfl 89 _ rfl w1.heap.size rfl _ #[.int .u8 (k : Int), .slice a3 m3 c3, .slice none 0 0] (0, 0) _ (unhide HGF) Tryz.underlying89 rfl Tryz.size_entry ?_)
        | (refine wpList_store_row rfl 89 _ _ rfl w.heap.size #[.int .u8 (k : Int), .slice a3 m3 c3, .slice none 0 0] rfl rfl _ #[.int .u8 0, .slice none 0 0, .slice none 0 0] (unhide HZF) Tryz.size_entry rfl (row3_one rfl rfl rfl) ?_))
      refine bodyPost_ret (v := .agg #[.int .u8 (k : Int), .slice a3 m3 c3, .slice none 0 0]) ?_ rfl ⟨fun _ => ⟨.slice a3 m3 c3, .slice none 0 0, by rw [unhide HT2, unhide HKK]; rfl, ?_, ?_, ?_⟩, fun h => absurd (by rw [unhide HT2]) h, (unhide HKF).setRowE (Or.inr (Nat.le_refl _)) _⟩
      · exact results_cell_row rfl _ _ w.heap.size _ #[.int .u8 (k : Int), .slice a3 m3 c3, .slice none 0 0] (0, 0) _ rfl (setRow_heap _ _ _ _ _ _ (unhide HZF)) Tryz.underlying89 rfl Tryz.size_entry
      · rw [unhide HT2]; exact unhide HOKF
      · rw [unhide HT2]; exact unhide HRR
      · exact unhide HNEW
    · have HT3 := hide (by rw [unhide HT2]; exact hE : T.2.2 ≠ 0)
      have HE := hide hE
      go_wp2_with fail
      refine Calls.mono (demand_bad e2 _ hE) ?_
      rintro r w6 ⟨rfl, rfl⟩
      exact ⟨rfl, fun h => absurd h (unhide HT3), fun _ => by rw [unhide HT2], unhide HKF⟩
end Go.Proofs.YtejchncdimcdbaaGreatDoor
namespace Go.Proofs.YtejchncdimcdbaaGreatDoor
open Go.RowKit Go.BigFrame
set_option linter.unusedVariables false
set_option linter.unusedSimpArgs false

theorem assert_gave (t : TypeId) (v : Value) (w : World) : (Instr.typeAssert (.iface 300 v) t 300 true).run Tryz.prog w = .ok (.tuple #[v, .bool true]) w := by
  unfold Instr.typeAssert
  simp [run_underlying Tryz.underlying300]

set_option maxRecDepth 100000 in
set_option maxHeartbeats 1000000 in
theorem reason_any (f : Nat) (w : World) : Calls Tryz.prog 163 #[.iface 300 (.agg #[.int .i64 (f : Int)])] w fun r w' => r = .returned (.int .i64 f) ∧ Kept [] w w' := by
  have HK := hide ((Kept.refl [] w).alloc (.cells #[.int .i64 (f : Int)] 300))
  have HK2 := hide (((Kept.refl [] w).alloc (.cells #[.int .i64 0] 300)).setCell (p := ⟨w.heap.size, 0, none⟩) (by simp) (.int .i64 (f : Int)))
  have ha := assert_gave
  go_enter Tryz.func163, Tryz.ntmps163
  go_wp2
  go_ret
  first | exact ⟨rfl, unhide HK⟩ | exact ⟨rfl, unhide HK2⟩

end Go.Proofs.YtejchncdimcdbaaGreatDoor
namespace Go.Proofs.YtejchncdimcdbaaGreatDoor
open Go.RowKit Go.BigFrame
set_option linter.unusedVariables false
set_option linter.unusedSimpArgs false

theorem results_cell_cell {P : Program} {fn : Func} {p q : Tmp} {ty ty2 : TypeId} (h : fn.results = #[.cell p ty, .cell q ty2]) (tmps : Array Value) (w : World) (g g2 : Nat) (t t2 : TypeId) (cs : Array Value) (fr fr2 : Nat × Nat) (d : TypeDesc) (k : IntKind) (x : Value)
    (hp : tmps.getD p undef = .pointer (some ⟨g, 0, none⟩)) (hg : w.heap[g]? = some (.cells cs t fr)) (hq : tmps.getD q undef = .pointer (some ⟨g2, 0, none⟩)) (hg2 : w.heap[g2]? = some (.cells #[x] t2 fr2))
    (hu : P.underlying ty = some d) (hd : (match d with | .struct _ | .array _ _ => true | _ => false) = true) (hi : (P.info? ty).map (·.size) = some cs.size) (hu2 : P.underlying ty2 = some (.int k)) :
    (results fn tmps).run P w = .ok (.tuple #[.agg cs, x]) w := by
  have hp' : tmps[p]?.getD undef = .pointer (some ⟨g, 0, none⟩) := by simpa using hp
  have hq' : tmps[q]?.getD undef = .pointer (some ⟨g2, 0, none⟩) := by simpa using hq
  have hc : w.cell? ⟨g2, 0, none⟩ = some x := by rw [cell_of_row _ _ _ _ _ _ hg2]; rfl
  have h2 : (isAgg ty2).run P w = .ok false w := by
    unfold isAgg
    rw [Sem.run_bind, run_underlying hu2 w]; simp
  have h3 : (loadVar ty2 ⟨g2, 0, none⟩).run P w = .ok x w := by
    unfold loadVar
    simp only [Sem.run_bind, h2, Result.andThen_ok]
    simp [go_sem, hc]
  simp [results, h, hp', hq', asAddr, run_loadVar_row w g t ty cs fr d hg hu hd hi, h3]

theorem enC_size (e : En) (kv vv : Value) : (enC e kv vv).size = 3 := rfl
theorem enC_one (e : En) {kv vv : Value} (h1 : kv.oneCell' = true) (h2 : vv.oneCell' = true) : (enC e kv vv).all (·.oneCell') = true := row3_one rfl h1 h2

def decE (p : List Nat) : En × Nat :=
  if (takeE p 0).2.2 ≠ 0 then (⟨0, [], []⟩, (takeE p 0).2.2) else if doneE p (takeE p 0).2.1 0 ≠ 0 then (⟨0, [], []⟩, doneE p (takeE p 0).2.1 0) else ((takeE p 0).1, 0)

end Go.Proofs.YtejchncdimcdbaaGreatDoor
namespace Go.Proofs.YtejchncdimcdbaaGreatDoor
open Go.RowKit Go.BigFrame
set_option linter.unusedVariables false
set_option linter.unusedSimpArgs false

def cntE (f n : Nat) : Nat := if 64 < n then 2 else if n = 0 ∨ 18446744073709551615 - f < n then 3 else 0
def leastE (a b : Nat) : Nat := if a = 0 ∨ (b ≠ 0 ∧ b < a) then b else a
def chkB (f : Nat) (es : List En) : Nat := es.foldl (fun a e => leastE a (chkE e)) (cntE f es.length)
def entB (es : List En) : List Nat := (es.map enB).flatten
def batB (f : Nat) (es : List En) : List Nat := uv f ++ (uv es.length ++ entB es)

/-- The slice value v reads as these entries. -/
def RdN (w : World) (v : Value) (es : List En) : Prop :=
  ∃ (ao : Option Addr) (len cap : Nat) (kv vv : Nat → Value), v = .slice ao len cap ∧ es.length = len ∧ len ≤ cap ∧ cap ≤ 9223372036854775807 ∧ (∀ i (h : i < es.length), OkE w es[i] (kv i) (vv i)) ∧
    (0 < len → ∃ b off, ao = some ⟨b, off, none⟩ ∧ ∀ i (h : i < es.length), w.rangeAt b (off + i * 3) (enC es[i] (kv i) (vv i)).toList)
theorem rangeE_kept {L : List Nat} {w w' : World} {b o : Nat} {cs : List Value} (h : w.rangeAt b o cs) (k : Kept L w w') (hb : b ∉ L) : w'.rangeAt b o cs := fun j v hv => k.cell (h j v hv) hb
theorem RdN.old {w w' : World} {v : Value} {es : List En} (h : RdN w v es) (k : Kept [] w w') : RdN w' v es := by
  obtain ⟨ao, len, cap, kv, vv, h1, h2, h3, h4, h5, h6⟩ := h
  refine ⟨ao, len, cap, kv, vv, h1, h2, h3, h4, fun i hi => (h5 i hi).old k, fun hp => ?_⟩
  obtain ⟨b, off, e, hc⟩ := h6 hp
  exact ⟨b, off, e, fun i hi => rangeE_kept (hc i hi) k (by simp)⟩
theorem RdN.nil (w : World) : RdN w (.slice none 0 0) [] := ⟨none, 0, 0, fun _ => undef, fun _ => undef, rfl, rfl, Nat.le_refl _, by omega, fun i h => by simp at h, fun h => by omega⟩

set_option maxRecDepth 100000 in
set_option maxHeartbeats 1000000 in
theorem checkCount_any (f n : Nat) (w : World) (hf : f < 18446744073709551616) (hn : n < 18446744073709551616) :
    Calls Tryz.prog 187 #[.int .u64 f, .int .u64 n] w fun r w' => r = .returned (.int .i64 (cntE f n)) ∧ w' = w := by
  obtain ⟨E, hE⟩ : ∃ E, cntE f n = E := ⟨_, rfl⟩
  rw [hE]
  have HE := hide hE
  clear hE
  have hw : IntKind.u64.wrap (18446744073709551615 - (f : Int)) = 18446744073709551615 - (f : Int) := by
    simp [IntKind.wrap, IntKind.signed, IntKind.bits]; omega
  have hw' : (18446744073709551615 - (f : Int)) % 18446744073709551616 = 18446744073709551615 - (f : Int) := by omega
  go_enter Tryz.func187, Tryz.ntmps187
  by_cases h1 : 64 < n
  · have h1' : (64 : Int) < n := by omega
    have HE2 := hide (by rw [← unhide HE]; simp [cntE, h1] : E = 2)
    go_wp2
    go_ret
    exact ⟨by rw [unhide HE2]; rfl, rfl⟩
  · have h1' : ¬ (64 : Int) < n := by omega
    by_cases h2 : n = 0
    · have h2' : ((n : Int) == 0) = true := by rw [h2]; rfl
      have HE2 := hide (by rw [← unhide HE]; simp [cntE, h2] : E = 3)
      clear h2
      go_wp2
      go_ret
      exact ⟨by rw [unhide HE2]; rfl, rfl⟩
    · have h2' : ((n : Int) == 0) = false := by rw [beq_eq_false_iff_ne]; omega
      by_cases h3 : 18446744073709551615 - f < n
      · have h3' : 18446744073709551615 - (f : Int) < n := by omega
        have HE2 := hide (by rw [← unhide HE]; simp [cntE, h1, h2, h3] : E = 3)
        go_wp2
        go_ret
        exact ⟨by rw [unhide HE2]; rfl, rfl⟩
      · have h3' : ¬ 18446744073709551615 - (f : Int) < n := by omega
        have HE2 := hide (by rw [← unhide HE]; simp [cntE, h1, h2, h3] : E = 0)
        go_wp2
        go_ret
        exact ⟨by rw [unhide HE2]; rfl, rfl⟩

set_option maxRecDepth 100000 in
set_option maxHeartbeats 1000000 in
theorem least_any (a b : Nat) (w : World) :
    Calls Tryz.prog 188 #[.int .i64 a, .int .i64 b] w fun r w' => r = .returned (.int .i64 (leastE a b)) ∧ w' = w := by
  obtain ⟨E, hE⟩ : ∃ E, leastE a b = E := ⟨_, rfl⟩
  rw [hE]
  have HE := hide hE
  clear hE
  go_enter Tryz.func188, Tryz.ntmps188
  by_cases h1 : a = 0
  · have h1' : ((a : Int) == 0) = true := by rw [h1]; rfl
    have HE2 := hide (by rw [← unhide HE]; simp [leastE, h1] : E = b)
    clear h1
    go_wp2
    go_ret
    exact ⟨by rw [unhide HE2]; rfl, rfl⟩
  · have h1' : ((a : Int) == 0) = false := by rw [beq_eq_false_iff_ne]; omega
    by_cases h2 : b = 0
    · have h2' : ((b : Int) != 0) = false := by rw [h2]; rfl
      have HE2 := hide (by rw [← unhide HE]; simp [leastE, h1, h2] : E = a)
      clear h1 h2
      go_wp2
      go_ret
      exact ⟨by rw [unhide HE2]; rfl, rfl⟩
    · have h2' : ((b : Int) != 0) = true := by rw [bne_iff_ne]; omega
      by_cases h3 : b < a
      · have h3' : (b : Int) < a := by omega
        have HE2 := hide (by rw [← unhide HE]; simp [leastE, h1, h2, h3] : E = b)
        clear h1 h2
        go_wp2
        go_ret
        exact ⟨by rw [unhide HE2]; rfl, rfl⟩
      · have h3' : ¬ (b : Int) < a := by omega
        have HE2 := hide (by rw [← unhide HE]; simp [leastE, h1, h2, h3] : E = a)
        clear h1 h2
        go_wp2
        go_ret
        exact ⟨by rw [unhide HE2]; rfl, rfl⟩

theorem foldl_snoc {α β : Type} (g : β → α → β) (z : β) (l : List α) (i : Nat) (h : i < l.length) : (l.take (i + 1)).foldl g z = g ((l.take i).foldl g z) l[i] := by
  rw [List.take_succ_eq_append_getElem h, List.foldl_append]; rfl

set_option maxRecDepth 100000 in
set_option maxHeartbeats 1000000 in
theorem checkBatch_any (f : Nat) (v : Value) (es : List En) (w : World) (hf : f < 18446744073709551616) (h : RdN w v es) :
    Calls Tryz.prog 144 #[.agg #[.int .u64 f, v]] w fun r w' => r = .returned (.int .i64 (chkB f es)) ∧ Kept [] w w' := by
  obtain ⟨ao, len, cap, kv, vv, rfl, h1, h2, h3, h4, h5⟩ := h
  have H4 := hide h4
  have H5 := hide h5
  clear h4 h5
  subst h1
  have HK0 := hide ((Kept.refl [] w).alloc (.cells #[.int .u64 (f : Int), .slice ao es.length cap] 129))
  go_enter Tryz.func144, Tryz.ntmps144
  go_wp2_with fail
  refine Calls.mono (checkCount_any f es.length _ hf (by omega)) ?_
  rintro r w1 ⟨rfl, rfl⟩
  go_wp2_with fail
  go_loopw [16, 3] (fun t12 t4 wr => ∃ (i : Nat), i ≤ es.length ∧ t12 = .int .i64 i ∧ t4 = .int .i64 ((es.take i).foldl (fun a e => leastE a (chkE e)) (cntE f es.length) : Nat) ∧ Hid (Kept [] w wr)) (fun t _ _ => es.length - (intOf t).toNat)
  case atStart => exact ⟨0, Nat.zero_le _, rfl, rfl, HK0⟩
  case round =>
    obtain ⟨i, hi, rfl, rfl, HK⟩ := hrel
    by_cases hlt : i < es.length
    · have hlt' : (i : Int) < es.length := by omega
      obtain ⟨b, off, rfl, hcc⟩ := unhide H5 (by omega)
      have hr := hcc i hlt
      have q0 := (unhide HK).cell (hr 0 _ rfl) (by simp)
      have q1 := (unhide HK).cell (hr 1 _ rfl) (by simp)
      have q2 := (unhide HK).cell (hr 2 _ rfl) (by simp)
      rw [Nat.add_zero] at q0
      have HO := hide ((unhide H4 i hlt).old (unhide HK))
      have HSN := hide (foldl_snoc (fun a e => leastE a (chkE e)) (cntE f es.length) es i hlt)
      clear hcc hr
      generalize kv i = kvi at q1 HO
      generalize vv i = vvi at q2 HO
      generalize es[i] = e at q0 HO HSN
      obtain ⟨a8, m8, c8, rfl, _⟩ := id (unhide HO).key
      obtain ⟨a9, m9, c9, rfl, _⟩ := id (unhide HO).val
      generalize (es.take i).foldl (fun a e => leastE a (chkE e)) (cntE f es.length) = acc at HSN
      go_wp2_with fail
      have HK1 := hide ((unhide HK).alloc (.cells #[.int .u8 (e.k : Int), .slice a8 m8 c8, .slice a9 m9 c9] 89))
      refine Calls.mono (check_any e _ _ _ ((unhide HO).old ((Kept.refl [] wr).alloc _))) ?_
      rintro r w2 ⟨rfl, k2⟩
      have HK2 := hide ((unhide HK1).trans k2 (by simp))
      clear k2
      go_wp2_with fail
      refine Calls.mono (least_any acc (chkE e) _) ?_
      rintro r w3 ⟨rfl, rfl⟩
      rw [← unhide HSN]
      go_wp2
      refine ⟨⟨i + 1, by omega, by go_num, rfl, HK2⟩, ?_⟩
      simp [intOf]; omega
    · have hlt' : ¬ (i : Int) < es.length := by omega
      have hie : i = es.length := by omega
      subst hie
      rw [List.take_length]
      go_wp2
      go_ret
      exact ⟨rfl, unhide HK⟩
end Go.Proofs.YtejchncdimcdbaaGreatDoor
namespace Go.Proofs.YtejchncdimcdbaaGreatDoor
open Go.RowKit Go.BigFrame
set_option linter.unusedVariables false
set_option linter.unusedSimpArgs false

theorem leastE_zero {a b : Nat} (h : leastE a b = 0) : a = 0 ∧ b = 0 := by
  unfold leastE at h
  split at h
  · rename_i h1; rcases h1 with h1 | h1
    · exact ⟨h1, h⟩
    · omega
  · rename_i h1; omega
theorem foldl_zero (es : List En) : ∀ z, es.foldl (fun a e => leastE a (chkE e)) z = 0 → z = 0 ∧ ∀ e ∈ es, chkE e = 0 := by
  induction es with
  | nil => intro z h; exact ⟨h, by simp⟩
  | cons x xs ih =>
    intro z h
    obtain ⟨h1, h2⟩ := ih _ h
    obtain ⟨h3, h4⟩ := leastE_zero h1
    refine ⟨h3, fun e he => ?_⟩
    rcases List.mem_cons.1 he with rfl | he
    · exact h4
    · exact h2 e he
theorem chkB_zero {f : Nat} {es : List En} (h : chkB f es = 0) : es.length ≤ 64 ∧ 0 < es.length ∧ f + es.length ≤ 18446744073709551615 ∧ ∀ e ∈ es, chkE e = 0 := by
  obtain ⟨h1, h2⟩ := foldl_zero es _ h
  unfold cntE at h1
  split at h1
  · omega
  · split at h1
    · omega
    · rename_i h3 h4; exact ⟨by omega, by omega, by omega, h2⟩
theorem chkE_zero {e : En} (h : chkE e = 0) : e.key.length ≤ 64 ∧ e.val.length ≤ 256 ∧ (e.k = 1 ∨ e.k = 2) ∧ (e.k = 2 → e.val = []) := by
  unfold chkE at h
  split at h
  · omega
  · split at h
    · omega
    · rename_i h1 h2
      refine ⟨by omega, by omega, by omega, fun h3 => List.eq_nil_of_length_eq_zero (by omega)⟩
theorem enB_len {e : En} (h : chkE e = 0) : (enB e).length ≤ 400 := by
  obtain ⟨h1, h2, _⟩ := chkE_zero h
  have := uv_len e.key.length (by omega)
  have := uv_len e.val.length (by omega)
  unfold enB
  split <;> simp only [List.length_append, List.length_cons, List.length_nil] <;> omega
theorem entB_snoc (es : List En) (i : Nat) (h : i < es.length) : entB (es.take (i + 1)) = entB (es.take i) ++ enB es[i] := by
  unfold entB
  rw [List.take_succ_eq_append_getElem h, List.map_append, List.flatten_append]; simp
theorem entB_len (es : List En) (h : ∀ e ∈ es, chkE e = 0) : (entB es).length ≤ 400 * es.length := by
  induction es with
  | nil => simp [entB]
  | cons x xs ih =>
    have h1 := enB_len (h x (by simp))
    have h2 := ih (fun e he => h e (by simp [he]))
    have e : entB (x :: xs) = enB x ++ entB xs := by simp [entB]
    rw [e, List.length_append, List.length_cons]; omega

set_option maxRecDepth 100000 in
set_option maxHeartbeats 2000000 in
theorem encodeBatch_any (f : Nat) (v : Value) (es : List En) (w : World) (hf : f < 18446744073709551616) (h : RdN w v es) :
    Calls Tryz.prog 104 #[.agg #[.int .u64 f, v]] w fun r w' => ∃ v', r = .returned (.tuple #[v', .int .i64 (chkB f es)]) ∧ NewB w w' v' (if chkB f es = 0 then batB f es else []) ∧ Kept [] w w' := by
  have H := hide h
  have HLE := hide (fun h0 : chkB f es = 0 => chkB_zero h0)
  obtain ⟨E, hE⟩ : ∃ E, chkB f es = E := ⟨_, rfl⟩
  rw [hE] at HLE ⊢
  have HE := hide hE
  clear hE
  obtain ⟨B, hB⟩ : ∃ B, (if E = 0 then batB f es else []) = B := ⟨_, rfl⟩
  rw [hB]
  have HB := hide hB
  clear hB
  obtain ⟨ao, len, cap, kv, vv, rfl, h1, h2, h3, h4, h5⟩ := h
  have H4 := hide h4
  have H5 := hide h5
  clear h4 h5
  subst h1
  have HK0 := hide ((Kept.refl [] w).alloc (.cells #[.int .u64 (f : Int), .slice ao es.length cap] 129))
  have HG0 := hide (heap_alloc_new w (.cells #[.int .u64 (f : Int), .slice ao es.length cap] 129))
  go_enter Tryz.func104, Tryz.ntmps104
  go_wp2_with fail
  have hc := checkBatch_any f (.slice ao es.length cap) es _ hf ((unhide H).old (unhide HK0))
  rw [unhide HE] at hc
  refine Calls.mono hc ?_
  clear hc
  rintro r w1 ⟨rfl, k1⟩
  have HG1 := hide (k1.heap (unhide HG0) (by simp))
  have HK1 := hide ((unhide HK0).trans k1 (by simp))
  clear k1
  by_cases h0 : E = 0
  · have hb0 : ((E : Int) != 0) = false := by rw [h0]; rfl
    obtain ⟨hl1, hl2, hl3, hl4⟩ := unhide HLE h0
    have HL4 := hide hl4
    have HB2 := hide (by rw [← unhide HB, if_pos h0] : B = batB f es)
    have H0 := hide h0
    clear h0 hl4
    have HW0 := hide (Wn.start (Kept.refl [] w1))
    have q0 : ∀ ob, (w1.alloc ob).cell? ⟨w.heap.size, 0, none⟩ = some (.int .u64 (f : Int)) := fun ob => ((Kept.refl [] w1).alloc ob).cell (by rw [cell_of_row _ _ _ _ _ _ (unhide HG1)]; rfl) (by simp)
    go_wp2_with fail
    refine Calls.mono (wn_uvar f (unhide HW0) hf (by simp)) ?_
    rintro r w2 ⟨rfl, v2, h2'⟩
    rw [List.nil_append] at h2'
    have q1 := h2'.kept.cell (by rw [cell_of_row _ _ _ _ _ _ (unhide HG1)]; rfl : w1.cell? ⟨w.heap.size, 1, none⟩ = some (.slice ao es.length cap)) (by simp)
    have HW2 := hide h2'
    clear h2' HW0 q0
    have HU1 := hide (uv_len f hf)
    have HU2 := hide (uv_len es.length (by omega))
    go_wp2_with fail
    refine Calls.mono (wn_uvar es.length (unhide HW2) (by omega) (by have := unhide HU1; omega)) ?_
    rintro r w3 ⟨rfl, v3, h3'⟩
    have q2 := h3'.kept.cell (by rw [cell_of_row _ _ _ _ _ _ (unhide HG1)]; rfl : w1.cell? ⟨w.heap.size, 1, none⟩ = some (.slice ao es.length cap)) (by simp)
    have HW3 := hide h3'
    clear h3' HW2 q1
    go_wp2_with fail
    go_loopw [24] (fun t12 wr => ∃ (i : Nat) (vw : Value), i ≤ es.length ∧ t12 = .int .i64 i ∧ Hid (Wn w1 wr w1.heap.size vw (uv f ++ uv es.length ++ entB (es.take i)))) (fun t _ => es.length - (intOf t).toNat)
    case atStart => exact ⟨0, v3, Nat.zero_le _, rfl, by simpa [entB] using HW3⟩
    case round =>
      obtain ⟨i, vw, hi, rfl, HW⟩ := hrel
      have HLI := hide (by have h9 := entB_len (es.take i) (fun e he => unhide HL4 e (List.mem_of_mem_take he)); rw [List.length_take] at h9; omega : (entB (es.take i)).length ≤ 25600)
      by_cases hlt : i < es.length
      · have hlt' : (i : Int) < es.length := by omega
        obtain ⟨b, off, rfl, hcc⟩ := unhide H5 (by omega)
        have hr := hcc i hlt
        have kw := (unhide HK1).trans (unhide HW).kept (by simp)
        have p0 := kw.cell (hr 0 _ rfl) (by simp)
        have p1 := kw.cell (hr 1 _ rfl) (by simp)
        have p2 := kw.cell (hr 2 _ rfl) (by simp)
        rw [Nat.add_zero] at p0
        have HO := hide ((unhide H4 i hlt).old (unhide HK1))
        have HSN := hide (entB_snoc es i hlt)
        have HCE := hide (chkE_zero (unhide HL4 es[i] (List.getElem_mem hlt)))
        clear hcc hr kw
        generalize kv i = kvi at p1 HO
        generalize vv i = vvi at p2 HO
        generalize es[i] = e at p0 HO HSN HCE
        obtain ⟨a8, m8, c8, rfl, _⟩ := id (unhide HO).key
        obtain ⟨a9, m9, c9, rfl, _⟩ := id (unhide HO).val
        go_wp2_with fail
        refine Calls.mono (layEntry_any e _ _ ((unhide HW).pass ((Kept.refl [] wr).alloc _)) (unhide HO) (by have := unhide HLI; have := unhide HU1; have := unhide HU2; have := unhide HCE; simp only [List.length_append]; omega)) ?_
        rintro r w4 ⟨rfl, v4, h4'⟩
        rw [List.append_assoc, ← unhide HSN] at h4'
        have HW4 := hide h4'
        clear h4'
        go_wp2
        refine ⟨⟨i + 1, v4, by omega, by go_num, HW4⟩, ?_⟩
        simp [intOf]; omega
      · have hlt' : ¬ (i : Int) < es.length := by omega
        have hie : i = es.length := by omega
        subst hie
        rw [List.take_length] at HW HLI
        go_wp2_with fail
        refine Calls.mono (wn_bytes (unhide HW) (by have := unhide HLI; have := unhide HU1; have := unhide HU2; simp only [List.length_append]; omega)) ?_
        rintro r w6 ⟨v6, rfl, h6, k6⟩
        have H6 := hide h6
        have HK6 := hide ((unhide HK1).trans k6 (by simp))
        clear h6 k6
        go_wp2
        go_ret2
        refine ⟨_, by rw [unhide H0]; rfl, ?_, unhide HK6⟩
        rw [unhide HB2]
        have h9 := (unhide H6).weak (unhide HK1).size
        rw [List.append_assoc] at h9
        exact h9
  · have hb0 : ((E : Int) != 0) = true := by rw [bne_iff_ne]; omega
    have HB2 := hide (by rw [← unhide HB, if_neg h0] : B = [])
    clear h0
    go_wp2
    go_ret2
    exact ⟨_, rfl, by rw [unhide HB2]; exact NewB.nil _ _, unhide HK1⟩
end Go.Proofs.YtejchncdimcdbaaGreatDoor
namespace Go.Proofs.YtejchncdimcdbaaGreatDoor
open Go.RowKit Go.BigFrame
set_option linter.unusedVariables false
set_option linter.unusedSimpArgs false

/-- The cells of entries. -/
def cellsN (ts : List (En × Value × Value)) : List Value := ts.flatMap fun t => [.int .u8 (t.1.k : Int), t.2.1, t.2.2]
theorem cellsN_len (ts : List (En × Value × Value)) : (cellsN ts).length = ts.length * 3 := by
  induction ts with
  | nil => rfl
  | cons t r ih => simp only [cellsN, List.flatMap_cons, List.length_append, List.length_cons, List.length_nil] at ih ⊢; omega
theorem cellsN_app (ts : List (En × Value × Value)) (t : En × Value × Value) : cellsN (ts ++ [t]) = cellsN ts ++ [.int .u8 (t.1.k : Int), t.2.1, t.2.2] := by simp [cellsN]
theorem cellsN_get : ∀ (ts : List (En × Value × Value)) (i : Nat) (h : i < ts.length), (cellsN ts)[3 * i]? = some (.int .u8 (ts[i].1.k : Int)) ∧ (cellsN ts)[3 * i + 1]? = some ts[i].2.1 ∧ (cellsN ts)[3 * i + 2]? = some ts[i].2.2
  | t :: r, 0, _ => by simp [cellsN]
  | t :: r, i + 1, h => by
    have h' : i < r.length := by simpa using h
    have := cellsN_get r i h'
    have e : cellsN (t :: r) = (.int .u8 (t.1.k : Int)) :: t.2.1 :: t.2.2 :: cellsN r := by simp [cellsN]
    rw [e, show 3 * (i + 1) = 3 * i + 1 + 1 + 1 by omega]
    simpa using this
theorem Tryz.infoN : (Tryz.prog.info? 89).map (fun i => (i.zero, i.size, i.bytes)) = some (some (.agg #[.int .u8 0, .slice none 0 0, .slice none 0 0]), 3, 56) := by kernel_rfl

/-- The blocks that a list of bytes lies in; of an empty one none. -/
def nblk (v : Value) (bs : List Nat) : List Nat := if bs = [] then [] else blk v
theorem mem_nblk {v : Value} {bs : List Nat} {x : Nat} (h : x ∈ nblk v bs) : x ∈ blk v ∧ bs ≠ [] := by
  unfold nblk at h
  split at h
  · simp at h
  · rename_i h1; exact ⟨h, h1⟩
theorem Rd.keptN {L : List Nat} {w w' : World} {v : Value} {bs : List Nat} (h : Rd w v bs) (k : Kept L w w') (hn : ∀ x ∈ nblk v bs, x ∉ L) : Rd w' v bs := by
  by_cases he : bs = []
  · subst he
    obtain ⟨ao, len, cap, rfl, h1, h2, h3, h4, h5, h6⟩ := h
    exact ⟨ao, len, cap, rfl, h1, h2, h3, h4, h5, fun hp => by simp at h1; omega⟩
  · exact h.kept k (by unfold nblk at hn; rw [if_neg he] at hn; exact hn)
theorem Rd.ltN {w : World} {v : Value} {bs : List Nat} (h : Rd w v bs) : ∀ x ∈ nblk v bs, x < w.heap.size := by
  intro x hx
  obtain ⟨h1, h2⟩ := mem_nblk hx
  obtain ⟨ao, len, cap, rfl, h3, _, _, _, _, h6⟩ := h
  obtain ⟨b, off, rfl, hc⟩ := h6 (by rw [← h3]; exact List.length_pos_iff.2 h2)
  have h9 := block_lt_of_cell (hc 0 (by rw [← h3]; exact List.length_pos_iff.2 h2))
  simp only [blk, List.mem_singleton] at h1
  subst h1
  exact h9
/-- Entries that are owned, each list in memory of its own; of what was there at w0 the blocks of L alone may have turned. -/
structure OwnN (L : List Nat) (w0 w : World) (v : Value) (ts : List (En × Value × Value)) : Prop where
  own : w.ownsRow w0.heap.size 89 3 v ts.length (cellsN ts)
  ok : ∀ t ∈ ts, OkE w t.1 t.2.1 t.2.2
  apart : ∀ t ∈ ts, ∀ b, b ∈ nblk t.2.1 t.1.key ∨ b ∈ nblk t.2.2 t.1.val → v.ownBlock ≠ some b ∧ w0.heap.size ≤ b
  kept : Kept L w0 w
theorem OwnN.rdN {L : List Nat} {w0 w : World} {v : Value} {ts : List (En × Value × Value)} (h : OwnN L w0 w v ts) : RdN w v (ts.map (·.1)) := by
  rcases h.own.2 with ⟨rfl, h0⟩ | ⟨g, cap, cur, rfl, _, hg, hc, hm', hs, ht⟩
  · have : ts = [] := List.eq_nil_of_length_eq_zero h0
    subst this
    exact RdN.nil w
  · refine ⟨some ⟨g, 0, none⟩, ts.length, cap, fun i => (ts.getD i (⟨0, [], []⟩, undef, undef)).2.1, fun i => (ts.getD i (⟨0, [], []⟩, undef, undef)).2.2, rfl, by simp, hc, by unfold maxLen at hm'; omega, fun i hi => ?_, fun _ => ⟨g, 0, rfl, fun i hi => ?_⟩⟩
    · have hi' : i < ts.length := by simpa using hi
      have h9 := h.ok ts[i] (List.getElem_mem hi')
      rw [List.getElem_map]
      simp only [List.getD_eq_getElem?_getD, List.getElem?_eq_getElem hi', Option.getD_some]
      exact h9
    · have hi' : i < ts.length := by simpa using hi
      have hx := cellsN_get ts i hi'
      have c0 := h.own.cells (g := g) rfl (3 * i) _ hx.1
      have c1 := h.own.cells (g := g) rfl (3 * i + 1) _ hx.2.1
      have c2 := h.own.cells (g := g) rfl (3 * i + 2) _ hx.2.2
      rw [Addr.add_mid] at c0 c1 c2
      rw [List.getElem_map]
      simp only [List.getD_eq_getElem?_getD, List.getElem?_eq_getElem hi', Option.getD_some]
      intro j v hv
      have hj : j < 3 := (List.getElem?_eq_some_iff.1 hv).1
      rcases (by omega : j = 0 ∨ j = 1 ∨ j = 2) with rfl | rfl | rfl
      · rw [show 0 + i * 3 + 0 = 0 + 3 * i by omega, c0]; exact hv
      · rw [show 0 + i * 3 + 1 = 0 + (3 * i + 1) by omega, c1]; exact hv
      · rw [show 0 + i * 3 + 2 = 0 + (3 * i + 2) by omega, c2]; exact hv
/-- One entry more. -/
theorem pushN (w : World) (base : Nat) (v : Value) (ts : List (En × Value × Value)) (e : En) (x y : Value) (H : Nat) (h : w.ownsRow base 89 3 v ts.length (cellsN ts)) (hnew : w.heap[H]? = some (.cells #[.int .u8 (e.k : Int), x, y] 89 (0, 0))) (hx : x.oneCell' = true) (hy : y.oneCell' = true) (hl : ts.length + 1 ≤ 1000000000) (hb : base ≤ w.heap.size) :
    ∃ g cap w1, (Builtin.append_ #[55, 55] 55 #[v, .slice (some ⟨H, 0, none⟩) 1 1]).run Tryz.prog w = .ok (.slice (some ⟨g, 0, none⟩) (ts.length + 1) cap) w1 ∧
      w1.ownsRow base 89 3 (.slice (some ⟨g, 0, none⟩) (ts.length + 1) cap) (ts.length + 1) (cellsN ts ++ [.int .u8 (e.k : Int), x, y]) ∧ w.grownBy w1 v.ownBlock ∧ (v.ownBlock = some g ∨ g = w.heap.size) := by
  obtain ⟨i0, hi, hz0, hz1, hz2⟩ := info_parts Tryz.infoN
  obtain ⟨g, cap, w1, hr, hown, hgrow, hat, hlt⟩ := run_append_lies (P := Tryz.prog) w 55 55 base 89 i0 (.agg #[.int .u8 0, .slice none 0 0, .slice none 0 0]) 3 56 Tryz.underlying55 hi hz0 hz1 hz2 rfl (by decide)
    v ts.length (cellsN ts) h ⟨H, 0, none⟩ 1 1 [.int .u8 (e.k : Int), x, y] rfl (World.news_of_block hnew) (by intro u hu; simp at hu; rcases hu with rfl | rfl | rfl; rfl; exact hx; exact hy) (by decide) (by unfold maxLen; omega) (by omega) hb _ rfl
  exact ⟨g, cap, w1, hr, hown, hgrow, hat⟩
theorem wpList_pushN {ops : Array Oper} {rest : List Oper} {o : Oper} {a : Act} {Q : Exit → Act → World → Prop} (hgd : o.guard = none) (s x : Operand)
    (ho : o.op = .call { callee := .builtin .append, args := #[s, x], argTypes := #[55, 55] }) (hty : o.type = 55)
    (w : World) (base : Nat) (v : Value) (ts : List (En × Value × Value)) (e : En) (y z : Value) (H : Nat) (h : w.ownsRow base 89 3 v ts.length (cellsN ts)) (hnew : w.heap[H]? = some (.cells #[.int .u8 (e.k : Int), y, z] 89 (0, 0))) (hy : y.oneCell' = true) (hz : z.oneCell' = true) (hl : ts.length + 1 ≤ 1000000000) (hb : base ≤ w.heap.size)
    (hs : a.eval s = v) (hx : a.eval x = .slice (some ⟨H, 0, none⟩) 1 1)
    (hK : ∀ g cap w1, Hid (w1.ownsRow base 89 3 (.slice (some ⟨g, 0, none⟩) (ts.length + 1) cap) (ts.length + 1) (cellsN ts ++ [.int .u8 (e.k : Int), y, z])) → Hid (w.grownBy w1 v.ownBlock) → Hid (v.ownBlock = some g ∨ g = w.heap.size) →
      wpList Tryz.prog ops Q rest (a.put o.dst (.slice (some ⟨g, 0, none⟩) (ts.length + 1) cap)) w1) :
    wpList Tryz.prog ops Q (o :: rest) a w := by
  obtain ⟨g, cap, w1, hrun, h2, h3, h4⟩ := pushN w base v ts e y z H h hnew hy hz hl hb
  refine wpList_plain hgd fun K hK' => ?_
  unfold Oper.wp execOp
  simp only [ho, hty, resolve, invoke, builtin, Sem.run_bind, Sem.run_pure, Result.andThen_ok, List.map_toArray, List.map_cons, List.map_nil, hs, hx, hrun]
  exact hK' _ _ (hK g cap w1 h2 h3 h4)
theorem OwnN.start {L : List Nat} {w0 w : World} (k : Kept L w0 w) : OwnN L w0 w (.slice none 0 0) [] := ⟨World.ownsRow_nil _ _ _ _, by simp, by simp, k⟩
theorem OwnN.mono {L M : List Nat} {w0 w : World} {v : Value} {ts : List (En × Value × Value)} (h : OwnN L w0 w v ts) (hM : ∀ x ∈ L, x ∈ M) : OwnN M w0 w v ts := ⟨h.own, h.ok, h.apart, h.kept.mono hM⟩
theorem OwnN.pass {L M : List Nat} {w0 w w' : World} {v : Value} {ts : List (En × Value × Value)} (h : OwnN L w0 w v ts) (k : Kept M w w') (hM : ∀ x ∈ M, x ∈ L ∨ w0.heap.size ≤ x) (ho : ∀ x ∈ M, v.ownBlock ≠ some x) (he : ∀ x ∈ M, ∀ t ∈ ts, x ∉ nblk t.2.1 t.1.key ∧ x ∉ nblk t.2.2 t.1.val) : OwnN L w0 w' v ts :=
  ⟨k.owns h.own (fun g hg hm => ho g hm hg), fun t ht => ⟨(h.ok t ht).k, (h.ok t ht).key.keptN k (fun x hx hm => (he x hm t ht).1 hx), (h.ok t ht).val.keptN k (fun x hx hm => (he x hm t ht).2 hx)⟩, h.apart, h.kept.trans k hM⟩
/-- A block that was there at w0 may turn. -/
theorem OwnN.old {L M : List Nat} {w0 w w' : World} {v : Value} {ts : List (En × Value × Value)} (h : OwnN L w0 w v ts) (k : Kept M w w') (hM : ∀ x ∈ M, x ∈ L ∧ x < w0.heap.size) : OwnN L w0 w' v ts :=
  h.pass k (fun x hx => Or.inl (hM x hx).1) (fun x hx e => by have := (h.own.lt x e).1; have := (hM x hx).2; omega)
    (fun x hx t ht => ⟨fun hb => by have := (h.apart t ht x (Or.inl hb)).2; have := (hM x hx).2; omega, fun hb => by have := (h.apart t ht x (Or.inr hb)).2; have := (hM x hx).2; omega⟩)
theorem OwnN.push {L : List Nat} {w0 w W : World} {v : Value} {ts : List (En × Value × Value)} (h : OwnN L w0 w v ts) {e : En} {y z : Value} (hy : OkE w e y z) (hn : ∀ b, b ∈ nblk y e.key ∨ b ∈ nblk z e.val → v.ownBlock ≠ some b ∧ w0.heap.size ≤ b) {g cap : Nat}
    (o : W.ownsRow w0.heap.size 89 3 (.slice (some ⟨g, 0, none⟩) (ts.length + 1) cap) (ts.length + 1) (cellsN ts ++ [.int .u8 (e.k : Int), y, z])) (gr : w.grownBy W v.ownBlock) (hg : v.ownBlock = some g ∨ g = w.heap.size) :
    OwnN L w0 W (.slice (some ⟨g, 0, none⟩) (ts.length + 1) cap) (ts ++ [(e, y, z)]) := by
  have kW : Kept v.ownBlock.toList w W := ((Kept.refl _ w)).grown gr (by intro k hk; left; simp [hk])
  have kW0 : Kept L w0 W := h.kept.grown gr (by intro k hk; right; exact (h.own.lt k hk).1)
  have key : ∀ t ∈ ts ++ [(e, y, z)], OkE w t.1 t.2.1 t.2.2 ∧ ∀ b, b ∈ nblk t.2.1 t.1.key ∨ b ∈ nblk t.2.2 t.1.val → v.ownBlock ≠ some b ∧ w0.heap.size ≤ b := by
    intro t ht
    rcases List.mem_append.1 ht with ht | ht
    · exact ⟨h.ok t ht, h.apart t ht⟩
    · rw [List.mem_singleton] at ht; subst ht; exact ⟨hy, hn⟩
  refine ⟨?_, fun t ht => ?_, fun t ht b hb => ⟨fun e' => ?_, ((key t ht).2 b hb).2⟩, kW0⟩
  · rw [cellsN_app, List.length_append]; exact o
  · exact ⟨(key t ht).1.k, (key t ht).1.key.keptN kW (fun b hb hm => ((key t ht).2 b (Or.inl hb)).1 (by simpa using hm)), (key t ht).1.val.keptN kW (fun b hb hm => ((key t ht).2 b (Or.inr hb)).1 (by simpa using hm))⟩
  · simp only [Value.ownBlock, Option.some.injEq] at e'
    subst e'
    rcases hg with hg | hg
    · exact ((key t ht).2 _ hb).1 hg
    · have h9 : g < w.heap.size := by
        rcases hb with hb | hb
        · exact (key t ht).1.key.ltN g hb
        · exact (key t ht).1.val.ltN g hb
      omega

/-- Entries in memory that is new from block B on. -/
def NewN (B : Nat) (w : World) (v : Value) (es : List En) : Prop := ∃ (L : List Nat) (w0 : World) (ts : List (En × Value × Value)), es = ts.map (·.1) ∧ OwnN L w0 w v ts ∧ B ≤ w0.heap.size
theorem NewN.rdN {B : Nat} {w : World} {v : Value} {es : List En} (h : NewN B w v es) : RdN w v es := by
  obtain ⟨L, w0, ts, rfl, h1, _⟩ := h; exact h1.rdN
theorem NewN.nil (B : Nat) (w : World) (h : B ≤ w.heap.size) : NewN B w (.slice none 0 0) [] := ⟨[], w, [], rfl, OwnN.start (Kept.refl [] w), h⟩
theorem NewN.weak {B C : Nat} {w : World} {v : Value} {es : List En} (h : NewN B w v es) (hc : C ≤ B) : NewN C w v es := by
  obtain ⟨L, w0, ts, h1, h2, h3⟩ := h; exact ⟨L, w0, ts, h1, h2, Nat.le_trans hc h3⟩
theorem NewN.kept {B : Nat} {M : List Nat} {w w' : World} {v : Value} {es : List En} (h : NewN B w v es) (k : Kept M w w') (hM : ∀ x ∈ M, x < B) : NewN B w' v es := by
  obtain ⟨L, w0, ts, h1, h2, h3⟩ := h
  refine ⟨L ++ M, w0, ts, h1, (h2.mono (M := L ++ M) (fun x hx => by simp [hx])).old k (fun x hx => ⟨by simp [hx], by have := hM x hx; omega⟩), h3⟩
/-- So many entries off a reader. -/
def takeN (p : List Nat) : Nat → Nat → List En × Nat × Nat
  | i, 0 => ([], i, 0)
  | i, n + 1 => if (takeE p i).2.2 ≠ 0 then ([], 0, (takeE p i).2.2) else ((takeE p i).1 :: (takeN p (takeE p i).2.1 n).1, (takeN p (takeE p i).2.1 n).2)
/-- A batch off a reader: the first index, the entries, the place behind it, the fault (thrown where it is not 0). -/
def takeB (p : List Nat) (i : Nat) : Nat × List En × Nat × Nat :=
  if (rUvar p (rUvar p i 0).2.1 (rUvar p i 0).2.2).2.2 ≠ 0 then (0, [], 0, (rUvar p (rUvar p i 0).2.1 (rUvar p i 0).2.2).2.2)
  else if cntE (rUvar p i 0).1 (rUvar p (rUvar p i 0).2.1 (rUvar p i 0).2.2).1 ≠ 0 then (0, [], 0, cntE (rUvar p i 0).1 (rUvar p (rUvar p i 0).2.1 (rUvar p i 0).2.2).1)
  else ((rUvar p i 0).1, takeN p (rUvar p (rUvar p i 0).2.1 (rUvar p i 0).2.2).2.1 (rUvar p (rUvar p i 0).2.1 (rUvar p i 0).2.2).1)
end Go.Proofs.YtejchncdimcdbaaGreatDoor
namespace Go.Proofs.YtejchncdimcdbaaGreatDoor
open Go.RowKit Go.BigFrame
set_option linter.unusedVariables false
set_option linter.unusedSimpArgs false

theorem rUvar_lt (p : List Nat) (i e : Nat) : (rUvar p i e).1 < 18446744073709551616 := by
  unfold rUvar
  split
  · show (0 : Nat) < _; omega
  · split
    · show (0 : Nat) < _; omega
    · exact fuv_lt _ 0 0 (by decide) (by decide)
theorem step_pushN {ops : Array Oper} {o : Oper} {a : Act} {K : Act → World → Prop} {Q : Exit → Act → World → Prop} {F : Prop} (hgd : o.guard = none) (s x : Operand)
    (ho : o.op = .call { callee := .builtin .append, args := #[s, x], argTypes := #[55, 55] }) (hty : o.type = 55)
    (w : World) (base : Nat) (v : Value) (ts : List (En × Value × Value)) (e : En) (y z : Value) (H : Nat) (h : w.ownsRow base 89 3 v ts.length (cellsN ts)) (hnew : w.heap[H]? = some (.cells #[.int .u8 (e.k : Int), y, z] 89 (0, 0))) (hy : y.oneCell' = true) (hz : z.oneCell' = true) (hl : ts.length + 1 ≤ 1000000000) (hb : base ≤ w.heap.size)
    (hs : a.eval s = v) (hx : a.eval x = .slice (some ⟨H, 0, none⟩) 1 1)
    (hK : ∀ g cap w1, Hid (w1.ownsRow base 89 3 (.slice (some ⟨g, 0, none⟩) (ts.length + 1) cap) (ts.length + 1) (cellsN ts ++ [.int .u8 (e.k : Int), y, z])) → Hid (w.grownBy w1 v.ownBlock) → Hid (v.ownBlock = some g ∨ g = w.heap.size) →
      K (a.put o.dst (.slice (some ⟨g, 0, none⟩) (ts.length + 1) cap)) w1) :
    if Region.wanted o (yielded ops a.tmps) = true then Oper.wp Tryz.prog o a w K Q else F := by
  obtain ⟨g, cap, w1, hrun, h2, h3, h4⟩ := pushN w base v ts e y z H h hnew hy hz hl hb
  have hw : Region.wanted o (yielded ops a.tmps) = true := by simp [Region.wanted, hgd]
  rw [if_pos hw]
  unfold Oper.wp execOp
  simp only [ho, hty, resolve, invoke, builtin, Sem.run_bind, Sem.run_pure, Result.andThen_ok, List.map_toArray, List.map_cons, List.map_nil, hs, hx, hrun]
  exact hK g cap w1 h2 h3 h4
def TookB (w w' : World) (b : Nat) (gv : Value) (p : List Nat) (x : Nat × List En × Nat × Nat) (r : Ending) : Prop :=
  (x.2.2.2 = 0 → ∃ v, r = .returned (.agg #[.int .u64 (x.1 : Int), v]) ∧ NewN w.heap.size w' v x.2.1 ∧ ReAt w' b gv p x.2.2.1 0) ∧ (x.2.2.2 ≠ 0 → r = .panicked (gave x.2.2.2)) ∧ Kept [b] w w'
theorem Tryz.size_batch : (Tryz.prog.info? 129).map (·.size) = some 2 := by kernel_rfl

set_option maxRecDepth 100000 in
set_option maxHeartbeats 2000000 in
theorem takeBatch_any (b : Nat) (gv : Value) (p : List Nat) (i : Nat) (w : World) (h : ReAt w b gv p i 0) (hgv : ∀ x ∈ blk gv, x < w.heap.size) :
    Calls Tryz.prog 165 #[.pointer (some ⟨b, 0, none⟩)] w fun r w' => TookB w w' b gv p (takeB p i) r := by
  have H := hide h
  have hblt := h.lt
  obtain ⟨T, hT⟩ : ∃ T, takeB p i = T := ⟨_, rfl⟩
  rw [hT]
  have HT := hide hT
  unfold takeB at HT
  clear hT h
  have HZ := hide (heap_alloc_new w (.cells #[.int .u64 0, .slice none 0 0] 129))
  have HK0 := hide ((Kept.refl [b] w).alloc (.cells #[.int .u64 0, .slice none 0 0] 129))
  have HR0 := hide ((unhide H).kept ((Kept.refl [] w).alloc (.cells #[.int .u64 0, .slice none 0 0] 129)) (by simp) (by simp))
  have hfl := rUvar_lt p i 0
  go_enter Tryz.func165, Tryz.ntmps165
  go_wp2_with fail
  refine Calls.mono (ruvar_any b gv p i 0 _ (unhide HR0)) ?_
  rintro r w1 ⟨rfl, r1, k1⟩
  have hne0 : w.heap.size ≠ b := by omega
  have HZ1 := hide (k1.heap (unhide HZ) (by simpa using hne0))
  have HK1 := hide ((unhide HK0).trans k1 (by simp))
  obtain ⟨x, hx⟩ : ∃ x, rUvar p i 0 = x := ⟨_, rfl⟩
  rw [hx] at HT r1 hfl ⊢
  clear hx
  obtain ⟨f, i1, e1⟩ := x
  simp only at HT r1 hfl ⊢
  have HR1 := hide r1
  clear r1 k1
  have hs1' : w.heap.size < w1.heap.size := lt_of_block (unhide HZ1)
  have hcl := rUvar_lt p i1 e1
  have HKA := hide ((unhide HK1).alloc (.cells #[.int .u64 (f : Int), .slice none 0 0] 129))
  have HRA := hide ((unhide HR1).kept ((Kept.refl [] w1).alloc (.cells #[.int .u64 (f : Int), .slice none 0 0] 129)) (by simp) (by simp))
  have HGA := hide (heap_alloc_new w1 (.cells #[.int .u64 (f : Int), .slice none 0 0] 129))
  have HZA := hide (((Kept.refl [] w1).alloc (.cells #[.int .u64 (f : Int), .slice none 0 0] 129)).heap (unhide HZ1) (by simp))
  have HSA := hide (show (w1.alloc (.cells #[.int .u64 (f : Int), .slice none 0 0] 129)).heap.size = w1.heap.size + 1 by simp)
  go_wp2_with fail
  obtain ⟨WA, hWA⟩ : ∃ W, w1.alloc (.cells #[.int .u64 (f : Int), .slice none 0 0] 129) = W := ⟨_, rfl⟩
  rw [hWA] at HKA HRA HGA HZA HSA ⊢
  clear hWA
  have hneg : w1.heap.size ≠ b := by omega
  refine Calls.mono (ruvar_any b gv p i1 e1 WA (unhide HRA)) ?_
  rintro r w2 ⟨rfl, r2, k2⟩
  obtain ⟨x, hx⟩ : ∃ x, rUvar p i1 e1 = x := ⟨_, rfl⟩
  rw [hx] at HT r2 hcl ⊢
  clear hx
  obtain ⟨n, i2, e2⟩ := x
  simp only at HT r2 hcl ⊢
  have HR2 := hide r2
  have HG2 := hide (k2.heap (unhide HGA) (by simpa using hneg))
  have HZ2 := hide (k2.heap (unhide HZA) (by simpa using hne0))
  have HK2 := hide ((unhide HKA).trans k2 (by simp))
  have HKW2 := hide k2
  clear r2 k2
  go_wp2_with fail
  refine Calls.mono (rerr_any b gv p i2 e2 w2 (unhide HR2)) ?_
  rintro r w3 ⟨rfl, rfl⟩
  by_cases hE : e2 ≠ 0
  · have HT2 := hide (by rw [← unhide HT, if_pos hE] : T = (0, [], 0, e2))
    go_wp2_with fail
    refine Calls.mono (demand_bad e2 _ hE) ?_
    rintro r w6 ⟨rfl, rfl⟩
    exact ⟨rfl, fun h => absurd h (by rw [unhide HT2]; exact hE), fun _ => by rw [unhide HT2], unhide HK2⟩
  have HT1 := hide (by have h9 := unhide HT; rw [if_neg hE] at h9; exact h9)
  replace hE : e2 = 0 := Decidable.not_not.1 hE
  subst hE
  clear HT
  go_wp2_with fail
  refine Calls.mono (demand_ok _) ?_
  rintro r w4 ⟨rfl, rfl⟩
  have q0 := cell_of_row _ _ 0 _ _ _ (unhide HG2)
  go_wp2_with fail
  refine Calls.mono (checkCount_any f n _ hfl hcl) ?_
  rintro r w5 ⟨rfl, rfl⟩
  by_cases hE : cntE f n ≠ 0
  · have HT2 := hide (by rw [← unhide HT1, if_pos hE] : T = (0, [], 0, cntE f n))
    go_wp2_with fail
    refine Calls.mono (demand_bad (cntE f n) _ hE) ?_
    rintro r w6 ⟨rfl, rfl⟩
    exact ⟨rfl, fun h => absurd h (by rw [unhide HT2]; exact hE), fun _ => by rw [unhide HT2], unhide HK2⟩
  have HT2 := hide (by have h9 := unhide HT1; rw [if_neg hE] at h9; exact h9.symm)
  replace hE : cntE f n = 0 := Decidable.not_not.1 hE
  have hn64 : n ≤ 64 := by
    unfold cntE at hE
    split at hE
    · omega
    · omega
  rw [hE]
  clear HT1 hE
  go_wp2_with fail
  refine Calls.mono (demand_ok _) ?_
  rintro r w6 ⟨rfl, rfl⟩
  go_wp2_with fail
  have HW6 := hide (Kept.refl [b, w1.heap.size] w6)
  have hgb6 : w1.heap.size < w6.heap.size := lt_of_block (unhide HG2)
  have hb6 : b < w6.heap.size := by omega
  go_loopw [19] (fun t19 wr => ∃ (j ij : Nat) (vE : Value) (ts : List (En × Value × Value)), j ≤ n ∧ t19 = .int .u64 j ∧ Hid (ts.length = j) ∧ Hid (takeN p i2 n = (ts.map (·.1) ++ (takeN p ij (n - j)).1, (takeN p ij (n - j)).2)) ∧ Hid (ReAt wr b gv p ij 0) ∧ Hid (wr.heap[w1.heap.size]? = some (.cells #[.int .u64 (f : Int), vE] 129 (0, 0))) ∧
    Hid (wr.heap[w.heap.size]? = some (.cells #[.int .u64 0, .slice none 0 0] 129 (0, 0))) ∧ Hid (OwnN [b, w1.heap.size] w6 wr vE ts)) (fun t _ => n - (intOf t).toNat)
  case atStart => exact ⟨0, i2, .slice none 0 0, [], Nat.zero_le _, rfl, hide rfl, hide (by simp), HR2, HG2, HZ2, hide (OwnN.start (unhide HW6))⟩
  case round =>
    obtain ⟨j, ij, vE, ts, hj, rfl, HJ, HTN, HR, HG, HZR, HO⟩ := hrel
    by_cases hlt : j < n
    · have hlt' : (j : Int) < n := by omega
      obtain ⟨m, hm⟩ : ∃ m, n - j = m + 1 := ⟨n - j - 1, by omega⟩
      have hmm : n - (j + 1) = m := by omega
      rw [hm] at HTN
      have HHS := hide (by have h9 := lt_of_block (unhide HZR); have h8 := (unhide HO).kept.size; omega : w6.heap.size ≤ wr.heap.size)
      have HRD := hide ((unhide HR).kept (Kept.refl [] wr).drew (by simp) (by simp))
      have HGV := hide (fun x hx => by have h9 := hgv x hx; have h8 := unhide HHS; show x < wr.heap.size; omega : ∀ x ∈ blk gv, x < wr.drew.heap.size)
      have HCT := hide (takeEntry_any b gv p ij wr.drew (unhide HRD) (unhide HGV))
      have HTU := hide (show takeN p ij (m + 1) = if (takeE p ij).2.2 ≠ 0 then ([], 0, (takeE p ij).2.2) else ((takeE p ij).1 :: (takeN p (takeE p ij).2.1 m).1, (takeN p (takeE p ij).2.1 m).2) from rfl)
      obtain ⟨X, hX⟩ : ∃ X, takeE p ij = X := ⟨_, rfl⟩
      rw [hX] at HCT HTU
      clear hX
      obtain ⟨en, i3, e3⟩ := X
      simp only at HTU
      have c1 : wr.cell? ⟨w1.heap.size, 1, none⟩ = some vE := by rw [cell_of_row _ _ _ _ _ _ (unhide HG)]; rfl
      have HC1 := hide c1
      have HTB := hide (fun he : e3 ≠ 0 => by rw [unhide HT2]; show (takeN p i2 n).2.2 = e3; rw [unhide HTN, unhide HTU, if_pos he] : e3 ≠ 0 → T.2.2.2 = e3)
      have HKR := hide ((unhide HK2).trans (unhide HO).kept (by intro x hx; simp at hx; rcases hx with rfl | rfl; left; simp; right; omega))
      go_wp2_with fail
      go_region_law (first
        | (refine step_pushN rfl _ _ rfl rfl _ w6.heap.size vE ts en (.slice a8 m8 c8) (.slice a9 m9 c9) w3.heap.size (by exact (unhide HO3).own) (by exact heap_alloc_new w3 _) rfl rfl (by have := unhide HJ; omega) (by exact unhide HB3) rfl rfl ?_; intro g cap w5 HO5 HG5 HA5; have hrow5 := (unhide HK45 w5 HG5).heap (unhide HGR4) (unhide HNG4); have s5 := cell_of_row _ _ 1 _ _ _ hrow5; have z5 := frozen_of_row _ _ 1 _ _ hrow5; have HGR5 := hide hrow5; clear hrow5)
        | (go_simp; go_at_call 216; refine (unhide HCT).mono ?_; rintro r w3 ⟨t1, t2, t3⟩; by_cases he3 : e3 ≠ 0; exact (by have hr := t2 he3; subst hr; exact ⟨rfl, fun h => absurd ((unhide HTB he3).symm.trans h) he3, fun _ => by rw [unhide HTB he3], (unhide HKR).trans ((Kept.refl [b] wr).drew.trans t3 (by simp)) (by simp)⟩); replace he3 : e3 = 0 := Decidable.not_not.1 he3; subst he3; obtain ⟨kv, vv, hr, ok3, re3, nw3⟩ := t1 rfl; subst hr; obtain ⟨a8, m8, c8, hu8, _⟩ := id ok3.key; subst hu8; obtain ⟨a9, m9, c9, hu9, _⟩ := id ok3.val; subst hu9; have HT3 := hide t3; have HOK3 := hide ok3; have HRE3 := hide re3; have HNW3 := hide nw3; have HO3 := hide (((unhide HO).old ((Kept.refl [b] wr).drew.trans t3 (by simp) : Kept [b] wr w3) (by intro x hx; rw [List.mem_singleton] at hx; subst hx; exact ⟨by simp, hb6⟩)).pass (M := []) ((Kept.refl [] w3).alloc (.cells #[.int .u8 (en.k : Int), .slice a8 m8 c8, .slice a9 m9 c9] 89)) (by simp) (by simp) (by simp)); have HB3 := hide (unhide HO3).kept.size; have HGR4 := hide (((Kept.refl [] w3).alloc (.cells #[.int .u8 (en.k : Int), .slice a8 m8 c8, .slice a9 m9 c9] 89)).heap (t3.heap (show wr.drew.heap[w1.heap.size]? = _ from unhide HG) (by simpa using hneg)) (by simp)); have HNG4 := hide (by intro hm9; have h9 := (unhide HO3).own.lt w1.heap.size (by simpa using hm9); omega : w1.heap.size ∉ vE.ownBlock.toList); have HK45 := hide (fun w5 (hg : Hid ((w3.alloc (.cells #[.int .u8 (en.k : Int), .slice a8 m8 c8, .slice a9 m9 c9] 89)).grownBy w5 vE.ownBlock)) => (Kept.refl vE.ownBlock.toList _).grown (unhide hg) (by intro k hk; left; simp [hk])); have d1 := t3.cell (unhide HC1) (by simpa using hneg); have d2 : ∀ ob, (w3.alloc ob).cell? ⟨w1.heap.size, 1, none⟩ = some vE := fun ob => ((Kept.refl [] w3).alloc ob).cell d1 (by simp); clear t1 t2 t3 ok3 re3 nw3; simp only [enC]))
      all_goals
        go_wp2
        refine ⟨⟨j + 1, i3, .slice (some ⟨g, 0, none⟩) (ts.length + 1) cap, ts ++ [(en, .slice a8 m8 c8, .slice a9 m9 c9)], by omega, by go_num, hide (by rw [List.length_append, unhide HJ]; rfl), hide ?_, hide ?_, hide ?_, hide ?_, hide ?_⟩, ?_⟩
        · rw [hmm, unhide HTN, unhide HTU, if_neg (by simp)]; simp
        · have k1 := ((Kept.refl [] w3).alloc (.cells #[.int .u8 (en.k : Int), .slice a8 m8 c8, .slice a9 m9 c9] 89))
          have k2 := unhide HK45 w5 HG5
          have r1 := (unhide HRE3).kept k1 (by simp) (by simp)
          have r2 := r1.kept k2 (fun hm9 => by have h9 := (unhide HO3).own.lt b (by simpa using hm9); omega) (fun x hx hm9 => by have h9 := (unhide HO3).own.lt x (by simpa using hm9); have h8 := hgv x hx; omega)
          exact r2.kept ((Kept.refl [w1.heap.size] w5).setCell (p := ⟨w1.heap.size, 1, none⟩) (Or.inl (by simp)) _) (by simp; omega) (fun x hx => by simp; have h8 := hgv x hx; omega)
        · exact heap_setCell_same w5 w1.heap.size 1 _ 129 _ (unhide HGR5)
        · have k1 := ((Kept.refl [] w3).alloc (.cells #[.int .u8 (en.k : Int), .slice a8 m8 c8, .slice a9 m9 c9] 89))
          have z1 := (unhide HT3).heap (show wr.drew.heap[w.heap.size]? = _ from unhide HZR) (by simpa using hne0)
          have z2 := k1.heap z1 (by simp)
          have z3 := (unhide HK45 w5 HG5).heap z2 (fun hm9 => by have h9 := (unhide HO3).own.lt w.heap.size (by simpa using hm9); omega)
          exact ((Kept.refl [w1.heap.size] w5).setCell (p := ⟨w1.heap.size, 1, none⟩) (Or.inl (by simp)) _).heap z3 (by simp; omega)
        · have o5 := (unhide HO3).push ((unhide HOK3).old ((Kept.refl [] w3).alloc _)) (fun b' hb' => by
            have h9 : wr.heap.size ≤ b' := by
              rcases hb' with hb' | hb'
              · exact unhide HNW3 b' (Or.inl (mem_nblk hb').1)
              · exact unhide HNW3 b' (Or.inr (mem_nblk hb').1)
            have h8 := unhide HHS
            exact ⟨fun e => by have h7 := ((unhide HO).own.lt b' e).2; omega, by omega⟩) (unhide HO5) (unhide HG5) (unhide HA5)
          refine o5.pass ((Kept.refl [w1.heap.size] w5).setCell (p := ⟨w1.heap.size, 1, none⟩) (Or.inl (by simp)) _) (by simp) (fun x hx e => ?_) (fun x hx t ht => ⟨fun hb' => ?_, fun hb' => ?_⟩)
          · have h9 := (o5.own.lt x e).1; rw [List.mem_singleton] at hx; omega
          · have h9 := (o5.apart t ht x (Or.inl hb')).2; rw [List.mem_singleton] at hx; omega
          · have h9 := (o5.apart t ht x (Or.inr hb')).2; rw [List.mem_singleton] at hx; omega
        · simp [intOf]; omega
    · have hlt' : ¬ (j : Int) < n := by omega
      have hjn : j = n := by omega
      subst hjn
      rw [Nat.sub_self] at HTN
      have HT3 := hide (by rw [unhide HT2, unhide HTN]; simp [takeN] : T = (f, ts.map (·.1), ij, 0))
      have HK9 := hide ((unhide HK2).trans (unhide HO).kept (by intro x hx; simp at hx; rcases hx with rfl | rfl; left; simp; right; omega))
      obtain ⟨aE, mE, cE, hvE⟩ : ∃ aE mE cE, vE = .slice aE mE cE := by
        rcases (unhide HO).own.2 with ⟨rfl, _⟩ | ⟨g, cap, cur, rfl, _⟩
        · exact ⟨_, _, _, rfl⟩
        · exact ⟨_, _, _, rfl⟩
      subst hvE
      have krow := (Kept.refl [w.heap.size] wr).setRowE (g := w.heap.size) (Or.inl (by simp)) #[.int .u64 (f : Int), .slice aE mE cE]
      have HOR := hide (((unhide HO).mono (M := [b, w1.heap.size, w.heap.size]) (by intro x hx; simp at hx; rcases hx with rfl | rfl <;> simp)).pass krow (by simp) (fun x hx e => by have h9 := ((unhide HO).own.lt x e).1; rw [List.mem_singleton] at hx; omega) (fun x hx t ht => ⟨fun hb' => by have h9 := ((unhide HO).apart t ht x (Or.inl hb')).2; rw [List.mem_singleton] at hx; omega, fun hb' => by have h9 := ((unhide HO).apart t ht x (Or.inr hb')).2; rw [List.mem_singleton] at hx; omega⟩))
      have HRR := hide ((unhide HR).kept krow (by simp; omega) (fun x hx => by simp; have h9 := hgv x hx; omega))
      clear krow
      go_wp2_with (first
        | (refine wpList_load_row rfl 129 _ rfl w1.heap.size rfl _ #[.int .u64 (f : Int), .slice aE mE cE] (0, 0) _ (unhide HG) Tryz.underlying129 rfl Tryz.size_batch ?_)
        | (refine wpList_store_row rfl 129 _ _ rfl w.heap.size #[.int .u64 (f : Int), .slice aE mE cE] rfl rfl _ #[.int .u64 0, .slice none 0 0] (unhide HZR) Tryz.size_batch rfl (by simp [Value.oneCell']) ?_))
      refine bodyPost_ret (v := .agg #[.int .u64 (f : Int), .slice aE mE cE]) ?_ rfl ⟨fun _ => ⟨.slice aE mE cE, by rw [unhide HT3], ?_, ?_⟩, fun h => absurd (by rw [unhide HT3]) h, (unhide HK9).setRowE (Or.inr (Nat.le_refl _)) _⟩
      · exact results_cell_row rfl _ _ w.heap.size _ #[.int .u64 (f : Int), .slice aE mE cE] (0, 0) _ rfl (setRow_heap _ _ _ _ _ _ (unhide HZR)) Tryz.underlying129 rfl Tryz.size_batch
      · rw [unhide HT3]; exact ⟨_, w6, ts, rfl, unhide HOR, by omega⟩
      · rw [unhide HT3]; exact unhide HRR
end Go.Proofs.YtejchncdimcdbaaGreatDoor
namespace Go.Proofs.YtejchncdimcdbaaGreatDoor
open Go.RowKit Go.BigFrame
set_option linter.unusedVariables false
set_option linter.unusedSimpArgs false

theorem eput2_heap {w : World} {g : Nat} {a b : Value} {t : TypeId} (h : w.heap[g]? = some (.cells #[a, b] t (0, 0))) (x y : Value) : ((w.setCell ⟨g, 0, none⟩ x).setCell ⟨g, 1, none⟩ y).heap[g]? = some (.cells #[x, y] t (0, 0)) := by
  rw [heap_setCell_same _ g 1 _ t _ (heap_setCell_same w g 0 _ t _ h)]; rfl
theorem eput2_kept {L : List Nat} {w0 w : World} (k : Kept L w0 w) (g : Nat) (hg : g ∈ L ∨ w0.heap.size ≤ g) (x y : Value) : Kept L w0 ((w.setCell ⟨g, 0, none⟩ x).setCell ⟨g, 1, none⟩ y) := (k.setCell hg x).setCell hg y

set_option maxRecDepth 100000 in
theorem catchB_idle (ge gf : Nat) (w : World) :
    CallsD Tryz.prog 162 #[.pointer (some ⟨ge, 0, none⟩), .pointer (some ⟨gf, 0, none⟩)] .returning w fun e u' w' => e = .returned (.tuple #[]) ∧ u' = .returning ∧ w' = w := by
  refine callsD_of_wpS Tryz.func162 rfl fun c₀ cs hu => ?_
  apply wpS_seq
  apply wpS_region
  simp [wpOpsS, go_sem, recoverD, hu, Tryz.ntmps162, Exit.thenS]
  refine wpS_of_wp ?_
  go_wp2
  cases c₀
  simp_all [bodyPostS, results, Tryz.results162]

set_option maxRecDepth 100000 in
theorem catchB_gave (f ge gf : Nat) (w : World) (a b x : Value) (he : w.heap[ge]? = some (.cells #[a, b] 129 (0, 0))) (hf : w.heap[gf]? = some (.cells #[x] 27 (0, 0))) (hne : ge ≠ gf) :
    CallsD Tryz.prog 162 #[.pointer (some ⟨ge, 0, none⟩), .pointer (some ⟨gf, 0, none⟩)] (.panicking (gave f)) w fun e u' w' => e = .returned (.tuple #[]) ∧ u' = .panicking [{ v := .iface 300 (.agg #[.int .i64 (f : Int)]), recovered := true }] ∧
      (w'.heap[ge]? = some (.cells #[.int .u64 0, .slice none 0 0] 129 (0, 0)) ∧ w'.heap[gf]? = some (.cells #[.int .i64 (f : Int)] 27 (0, 0)) ∧ Kept [ge, gf] w w') := by
  have HE := hide he
  have HF := hide hf
  clear he hf
  unfold gave
  refine callsD_of_wpS Tryz.func162 rfl fun c₀ cs hu => ?_
  apply wpS_seq
  apply wpS_region
  simp [wpOpsS, go_sem, recoverD, hu, Tryz.ntmps162, Exit.thenS]
  refine wpS_of_wp ?_
  go_wp2_with fail
  refine Calls.mono (reason_any f w) ?_
  rintro r w1 ⟨rfl, k1⟩
  have HE1 := hide (k1.heap (unhide HE) (by simp))
  have HF1 := hide (k1.heap (unhide HF) (by simp))
  have HK1 := hide k1
  clear k1
  have s0 := cell_of_row _ _ 0 _ _ _ (unhide HE1)
  have s1 := cell_of_row _ _ 1 _ _ _ (unhide HE1)
  have t0 := cell_of_row _ _ 0 _ _ _ (unhide HF1)
  have f0 := frozen_of_row _ _ 0 _ _ (unhide HE1)
  have f1 := frozen_of_row _ _ 1 _ _ (unhide HE1)
  have g0 := frozen_of_row _ _ 0 _ _ (unhide HF1)
  have hne' : gf ≠ ge := fun h => hne h.symm
  have HG1 := hide (eput2_heap (unhide HE1) (.int .u64 0) (.slice none 0 0))
  have kp := eput2_kept (Kept.refl [ge] w1) ge (Or.inl (by simp)) (.int .u64 0) (.slice none 0 0)
  have HG2 := hide (heap_setCell_same _ gf 0 _ 27 (.int .i64 (f : Int)) (kp.heap (unhide HF1) (by simpa using hne')))
  have HG3 := hide (((Kept.refl [gf] _).setCell (p := ⟨gf, 0, none⟩) (Or.inl (by simp)) (.int .i64 (f : Int))).heap (unhide HG1) (by simpa using hne))
  have HK2 := hide ((eput2_kept ((unhide HK1).mono (M := [ge, gf]) (by simp)) ge (Or.inl (by simp)) (.int .u64 0) (.slice none 0 0)).setCell (p := ⟨gf, 0, none⟩) (Or.inl (by simp)) (.int .i64 (f : Int)))
  clear kp
  go_wp2
  cases c₀
  simp_all [bodyPostS, results, Tryz.results162]
  exact ⟨unhide HG3, unhide HG2, unhide HK2⟩
def decB (p : List Nat) : Nat × List En × Nat :=
  if (takeB p 0).2.2.2 ≠ 0 then (0, [], (takeB p 0).2.2.2) else if doneE p (takeB p 0).2.2.1 0 ≠ 0 then (0, [], doneE p (takeB p 0).2.2.1 0) else ((takeB p 0).1, (takeB p 0).2.1, 0)

set_option maxRecDepth 100000 in
set_option maxHeartbeats 2000000 in
theorem decodeBatch_any (v : Value) (p : List Nat) (w : World) (h : Rd w v p) :
    Calls Tryz.prog 117 #[v] w fun r w' => ∃ bv, r = .returned (.tuple #[.agg #[.int .u64 ((decB p).1 : Int), bv], .int .i64 (decB p).2.2]) ∧ NewN w.heap.size w' bv (decB p).2.1 ∧ Kept [] w w' := by
  have H := hide h
  clear h
  obtain ⟨D, hD⟩ : ∃ D, decB p = D := ⟨_, rfl⟩
  rw [hD]
  have HD := hide hD
  unfold decB at HD
  clear hD
  have hmf : ∀ (fn : Fn) (first cap : Array Value) (w : World), (Instr.makeFunc fn first cap).run Tryz.prog w = .ok (.func fn first cap) w := fun _ _ _ _ => rfl
  have HE := hide (((Kept.refl [] (w.alloc (.cells #[.int .u64 0, .slice none 0 0] 129))).alloc (.cells #[.int .i64 0] 27)).heap (heap_alloc_new w (.cells #[.int .u64 0, .slice none 0 0] 129)) (by simp))
  have HF := hide (alloc_at w (.cells #[.int .u64 0, .slice none 0 0] 129) (.cells #[.int .i64 0] 27))
  have HK0 := hide (((Kept.refl [] w).alloc (.cells #[.int .u64 0, .slice none 0 0] 129)).alloc (.cells #[.int .i64 0] 27))
  have HS0 := hide (show ((w.alloc (.cells #[.int .u64 0, .slice none 0 0] 129)).alloc (.cells #[.int .i64 0] 27)).heap.size = w.heap.size + 2 by simp)
  go_enter_defers Tryz.func117, Tryz.ntmps117
  go_wp2_with fail
  refine Calls.mono (newReader_any v p _ ((unhide H).old (unhide HK0) (by simp))) ?_
  rintro r w1 ⟨b, gv, rfl, hb, r1, g1, k1⟩
  rw [unhide HS0] at hb
  have HG1 := hide (fun x hx => by have h9 := g1 x hx; rw [unhide HS0] at h9; exact h9 : ∀ x ∈ blk gv, w.heap.size + 2 ≤ x ∧ x < w1.heap.size)
  have HE1 := hide (k1.heap (unhide HE) (by simp))
  have HF1 := hide (k1.heap (unhide HF) (by simp))
  have HK1 := hide ((unhide HK0).trans k1 (by simp))
  have HR1 := hide r1
  clear r1 g1 k1
  go_wp2_with fail
  refine Calls.mono (takeBatch_any b gv p 0 w1 (unhide HR1) (fun x hx => (unhide HG1 x hx).2)) ?_
  rintro r w2 ht
  obtain ⟨T, hT⟩ : ∃ T, takeB p 0 = T := ⟨_, rfl⟩
  rw [hT] at HD ht
  clear hT
  obtain ⟨ff, es, i2, f2⟩ := T
  simp only at HD
  obtain ⟨t1, t2, t3⟩ := ht
  simp only at t1 t2
  have HE2 := hide (t3.heap (unhide HE1) (by simp; omega))
  have HF2 := hide (t3.heap (unhide HF1) (by simp; omega))
  have HK2 := hide ((unhide HK1).trans t3 (by simp; omega))
  clear t3
  by_cases hf2 : f2 ≠ 0
  · have hr := t2 hf2
    subst hr
    have HD2 := hide (by rw [← unhide HD, if_pos hf2] : D = (0, [], f2))
    clear t1 t2 HD
    go_wp2
    refine leaves_cons (f := 162) (args := #[.pointer (some ⟨w.heap.size, 0, none⟩), .pointer (some ⟨w.heap.size + 1, 0, none⟩)]) (by simp) (by simp [go_sem]) ?_
    refine (catchB_gave f2 w.heap.size (w.heap.size + 1) w2 _ _ _ (unhide HE2) (unhide HF2) (by omega)).mono ?_
    rintro e u' w3 ⟨rfl, rfl, h1, h2, k3⟩
    have HE3 := hide h1
    have HF3 := hide h2
    clear h1 h2
    show Leaves _ _ _ _ [] .returning w3
    refine ⟨.tuple #[.agg #[.int .u64 0, .slice none 0 0], .int .i64 (f2 : Int)], ?_, ?_⟩
    · exact results_cell_cell rfl _ _ w.heap.size (w.heap.size + 1) _ _ _ _ _ _ .i64 _ rfl (unhide HE3) rfl (unhide HF3) Tryz.underlying129 rfl Tryz.size_batch Tryz.underlying27
    · refine ⟨.slice none 0 0, by rw [unhide HD2]; rfl, by rw [unhide HD2]; exact NewN.nil _ _ ((unhide HK2).trans k3 (by simp)).size, (unhide HK2).trans k3 (by simp)⟩
  replace hf2 : f2 = 0 := Decidable.not_not.1 hf2
  obtain ⟨bv, hr, ok2, re2⟩ := t1 hf2
  subst hr
  have HD1 := hide (by have h9 := unhide HD; rw [if_neg (by simpa using hf2)] at h9; exact h9)
  clear t1 t2 HD hf2
  obtain ⟨a3, m3, c3, kf, vf, hu3, _⟩ := id ok2.rdN
  subst hu3
  have HO2 := hide ok2
  have HR2 := hide re2
  clear ok2 re2
  have hw1 : w.heap.size + 2 ≤ w1.heap.size := by have h9 := lt_of_block (unhide HF1); omega
  have kst := (Kept.refl [w.heap.size] w2).setRowE (g := w.heap.size) (Or.inl (by simp)) #[.int .u64 (ff : Int), .slice a3 m3 c3]
  have HE3 := hide (setRow_heap w2 w.heap.size _ #[.int .u64 (ff : Int), .slice a3 m3 c3] 129 (0, 0) (unhide HE2))
  have HF3 := hide (kst.heap (unhide HF2) (by simp))
  have HK3 := hide ((unhide HK2).setRowE (g := w.heap.size) (Or.inr (Nat.le_refl _)) #[.int .u64 (ff : Int), .slice a3 m3 c3])
  have HR3 := hide ((unhide HR2).kept kst (by simp; omega) (fun x hx => by simp; have h9 := unhide HG1 x hx; omega))
  have HO3 := hide ((unhide HO2).kept kst (by simp; omega))
  clear kst
  obtain ⟨A, hA⟩ : ∃ A : Array Value, #[.int .u64 (ff : Int), .slice a3 m3 c3] = A := ⟨_, rfl⟩
  have HA := hide hA
  have HSZ := hide (by rw [← hA]; exact Tryz.size_batch : (Tryz.prog.info? 129).map (·.size) = some A.size)
  have HS3 := hide (by rw [← hA]; rfl : A.size = 2)
  have HON := hide (by rw [← hA]; simp [Value.oneCell'] : A.all (·.oneCell') = true)
  rw [hA] at HE3 HF3 HK3 HR3 HO3 ⊢
  clear hA
  go_wp2_with (refine wpList_store_row rfl 129 _ _ rfl w.heap.size A rfl rfl _ _ (unhide HE2) (unhide HSZ) (unhide HS3).symm (unhide HON) ?_)
  obtain ⟨W3, hW3⟩ : ∃ W, w2.setRow w.heap.size A = W := ⟨_, rfl⟩
  rw [hW3] at HE3 HF3 HK3 HR3 HO3 ⊢
  clear hW3
  refine Calls.mono (rdone_any b gv p i2 0 W3 (unhide HR3)) ?_
  rintro r w4 ⟨rfl, n4, rfl⟩
  obtain ⟨d, hd⟩ : ∃ d, doneE p i2 0 = d := ⟨_, rfl⟩
  rw [hd] at HD1 ⊢
  clear hd
  have k4 := (Kept.refl [] W3).drewN n4
  have HE4 := hide (k4.heap (unhide HE3) (by simp))
  have HF4 := hide (k4.heap (unhide HF3) (by simp))
  have HK4 := hide ((unhide HK3).trans k4 (by simp))
  have HO4 := hide ((unhide HO3).kept k4 (by simp))
  clear k4
  by_cases hd0 : d ≠ 0
  · have HD2 := hide (by rw [← unhide HD1, if_pos hd0] : D = (0, [], d))
    clear HD1
    go_wp2_with fail
    refine Calls.mono (demand_bad d _ hd0) ?_
    rintro r w5 ⟨rfl, rfl⟩
    clear hd0
    refine leaves_cons (f := 162) (args := #[.pointer (some ⟨w.heap.size, 0, none⟩), .pointer (some ⟨w.heap.size + 1, 0, none⟩)]) (by simp) (by simp [go_sem]) ?_
    refine (catchB_gave d w.heap.size (w.heap.size + 1) _ _ _ _ (by have h9 := unhide HE4; rw [← unhide HA] at h9; exact h9) (unhide HF4) (by omega)).mono ?_
    rintro e u' w6 ⟨rfl, rfl, h1, h2, k3⟩
    show Leaves _ _ _ _ [] .returning w6
    refine ⟨.tuple #[.agg #[.int .u64 0, .slice none 0 0], .int .i64 (d : Int)], ?_, ?_⟩
    · exact results_cell_cell rfl _ _ w.heap.size (w.heap.size + 1) _ _ _ _ _ _ .i64 _ rfl h1 rfl h2 Tryz.underlying129 rfl Tryz.size_batch Tryz.underlying27
    · refine ⟨.slice none 0 0, by rw [unhide HD2]; rfl, by rw [unhide HD2]; exact NewN.nil _ _ ((unhide HK4).trans k3 (by simp)).size, (unhide HK4).trans k3 (by simp)⟩
  replace hd0 : d = 0 := Decidable.not_not.1 hd0
  have HD2 := hide (by rw [← unhide HD1, if_neg (by simpa using hd0)] : D = (ff, es, 0))
  clear HD1
  subst hd0
  go_wp2_with fail
  refine Calls.mono (demand_ok _) ?_
  rintro r w5 ⟨rfl, rfl⟩
  obtain ⟨W4, hW4⟩ : ∃ W, W3.drewN n4 = W := ⟨_, rfl⟩
  rw [hW4] at HE4 HF4 HK4 HO4 ⊢
  clear hW4
  have kst := (Kept.refl [w.heap.size] W4).setRowE (g := w.heap.size) (Or.inl (by simp)) A
  have HE5 := hide (setRow_heap W4 w.heap.size _ A 129 (0, 0) (unhide HE4))
  have HF5 := hide (kst.heap (unhide HF4) (by simp))
  have HK5 := hide ((unhide HK4).setRowE (g := w.heap.size) (Or.inr (Nat.le_refl _)) A)
  have HO5 := hide ((unhide HO4).kept kst (by simp; omega))
  clear kst
  have z0 := cell_of_row _ _ 0 _ _ _ (unhide HF5)
  have zf := frozen_of_row _ _ 0 _ _ (unhide HF5)
  go_wp2_with (first
    | (refine wpList_load_row rfl 129 _ rfl w.heap.size rfl _ A (0, 0) _ (unhide HE4) Tryz.underlying129 rfl (unhide HSZ) ?_)
    | (refine wpList_store_row rfl 129 _ _ rfl w.heap.size A rfl rfl _ _ (unhide HE4) (unhide HSZ) rfl (unhide HON) ?_))
  have kc := (Kept.refl [w.heap.size + 1] (W4.setRow w.heap.size A)).setCell (p := ⟨w.heap.size + 1, 0, none⟩) (Or.inl (by simp)) (.int .i64 0)
  refine leaves_cons (f := 162) (args := #[.pointer (some ⟨w.heap.size, 0, none⟩), .pointer (some ⟨w.heap.size + 1, 0, none⟩)]) (by simp) (by simp [go_sem]) ?_
  refine (catchB_idle w.heap.size (w.heap.size + 1) _).mono ?_
  rintro e u' w6 ⟨rfl, rfl, rfl⟩
  refine ⟨.tuple #[.agg A, .int .i64 0], ?_, ?_⟩
  · exact results_cell_cell rfl _ _ w.heap.size (w.heap.size + 1) _ _ _ _ _ _ .i64 _ rfl (kc.heap (unhide HE5) (by simp)) rfl (heap_setCell_same _ (w.heap.size + 1) 0 _ 27 (.int .i64 0) (unhide HF5)) Tryz.underlying129 rfl (unhide HSZ) Tryz.underlying27
  · refine ⟨.slice a3 m3 c3, by rw [unhide HD2, ← unhide HA]; rfl, ?_, (unhide HK5).setCell (p := ⟨w.heap.size + 1, 0, none⟩) (Or.inr (by show w.heap.size ≤ w.heap.size + 1; omega)) _⟩
    rw [unhide HD2]
    exact ((unhide HO5).kept kc (by simp; omega)).weak (by omega)
end Go.Proofs.YtejchncdimcdbaaGreatDoor
/-
  A whole row by value, read within a quiet walk.
-/
namespace Go.Proofs.YtejchncdimcdbaaGreatDoor
open Go Go.RowKit Go.BigFrame

theorem wpQuiet_load_row {P : Program} {ops : Array Oper} {C : World → Prop} {Q : Act → Prop} {a : Act} {o : Oper} {rest : List Oper} (hgd : o.guard = none) (ty : TypeId) (x : Operand) (ho : o.op = .load ty x)
    (g : Nat) (hx : a.eval x = .pointer (some ⟨g, 0, none⟩)) (t : TypeId) (cs : Array Value) (fr : Nat × Nat) (d : TypeDesc) (hg : ∀ w, C w → w.heap[g]? = some (.cells cs t fr))
    (hu : P.underlying ty = some d) (hd : (match d with | .struct _ | .array _ _ => true | _ => false) = true) (hi : (P.info? ty).map (·.size) = some cs.size)
    (h : wpQuiet P ops C Q rest (a.put o.dst (.agg cs))) : wpQuiet P ops C Q (o :: rest) a := by
  refine wpQuiet_want (by simp [Region.wanted, hgd]) fun K hK => ⟨.agg cs, fun w hw => ?_, hK _ h⟩
  unfold Oper.quietAt execOp
  simp only [ho]
  have := run_loadVar_row (P := P) w g t ty cs fr d (hg w hw) hu hd hi
  simp only [hx, Instr.loadAt, Instr.sureAddr, Sem.run_bind, Sem.run_pure, Result.andThen_ok, this, Oper.quietUpon, and_self]
end Go.Proofs.YtejchncdimcdbaaGreatDoor
/-
  A drawn region whose operations read and whose callees leave all that was there as it was: one walk in the text's order, over the class of the worlds that keep W.
-/
namespace Go.Proofs.YtejchncdimcdbaaGreatDoor
open Go Go.RowKit Go.BigFrame
set_option linter.unusedSimpArgs false

theorem wp_region_keep {P : Program} {id : Nat} {Q : Exit → Act → World → Prop} {a : Act} {W : World} {l : List Oper} (hm : P.follows .mixedOrders = true) (hB : Region.lexB .any l.toArray = true)
    (h : wpQuiet P l.toArray (fun w' => Kept [] W w') (fun a' => ∀ w', Kept [] W w' → Q .normal a' w') l a) : (Code.region id l.toArray true).wp P Q a W :=
  wp_region_quiet (C := fun w' => Kept [] W w') hm hB ((Kept.refl [] W).drew) (by simpa using h)

theorem wpQuiet_row {P : Program} {ops : Array Oper} {C : World → Prop} {Q : Act → Prop} {a : Act} {o : Oper} {rest : List Oper} (hw : Region.wanted o (yielded ops a.tmps) = true) (ty : TypeId) (x : Operand) (ho : o.op = .load ty x)
    (g : Nat) (hx : a.eval x = .pointer (some ⟨g, 0, none⟩)) (t : TypeId) (cs : Array Value) (fr : Nat × Nat) (d : TypeDesc) (hg : ∀ w, C w → w.heap[g]? = some (.cells cs t fr))
    (hu : P.underlying ty = some d) (hd : (match d with | .struct _ | .array _ _ => true | _ => false) = true) (hi : (P.info? ty).map (·.size) = some cs.size)
    (h : wpQuiet P ops C Q rest (a.put o.dst (.agg cs))) : wpQuiet P ops C Q (o :: rest) a := by
  refine wpQuiet_want hw fun K hK => ⟨.agg cs, fun w hw => ?_, hK _ h⟩
  unfold Oper.quietAt execOp
  simp only [ho]
  have := run_loadVar_row (P := P) w g t ty cs fr d (hg w hw) hu hd hi
  simp only [hx, Instr.loadAt, Instr.sureAddr, Sem.run_bind, Sem.run_pure, Result.andThen_ok, this, Oper.quietUpon, and_self]

theorem wpQuiet_val {P : Program} {ops : Array Oper} {C : World → Prop} {Q : Act → Prop} {a : Act} {o : Oper} {rest : List Oper} (hw : Region.wanted o (yielded ops a.tmps) = true) (v : Value)
    (hr : ∀ w, C w → (execOp a.eval o).run P w = .ok (.value v) w) (h : wpQuiet P ops C Q rest (a.put o.dst v)) : wpQuiet P ops C Q (o :: rest) a := by
  refine wpQuiet_want hw fun K hK => ⟨v, fun w hw => ?_, hK _ h⟩
  unfold Oper.quietAt
  rw [hr w hw]
  exact ⟨rfl, rfl⟩

theorem run_load1 {P : Program} {o : Oper} {a : Act} (ty : TypeId) (x : Operand) (ho : o.op = .load ty x) (ad : Addr) (hx : a.eval x = .pointer (some ad)) (w : World) (v : Value) (k : IntKind) (hu : P.underlying ty = some (.int k)) (hc : w.cell? ad = some v) :
    (execOp a.eval o).run P w = .ok (.value v) w := by
  have h2 : (isAgg ty).run P w = .ok false w := by
    unfold isAgg
    rw [Sem.run_bind, run_underlying hu w]; simp
  unfold execOp
  simp only [ho, hx, Instr.loadAt, Instr.sureAddr, Sem.run_bind, Sem.run_pure, Result.andThen_ok, loadVar, h2]
  simp [go_sem, hc]
theorem run_eql {P : Program} {o : Oper} {a : Act} (ty : TypeId) (x y : Operand) (r : TypeId) (ho : o.op = .binOp .eql ty x y r) (xs ys : Array Value) (hx : a.eval x = .agg xs) (hy : a.eval y = .agg ys) (w : World) (b : Bool)
    (hm : P.eqGuardType P.depth ty = false) (h : (Op.equalIn 10000 ty (.agg xs) (.agg ys)).run P w = .ok b w) : (execOp a.eval o).run P w = .ok (.value (.bool b)) w := by
  unfold execOp
  simp only [ho, hx, hy, binOp, Op.equal, Sem.run_bind, run_eqGuard_agg (P := P) w _ _ _ _ _ _ hm, Result.andThen_ok]
  rw [show Op.maxDepth = 10000 from rfl, h]; rfl
theorem run_neq {P : Program} {o : Oper} {a : Act} (ty : TypeId) (x y : Operand) (r : TypeId) (ho : o.op = .binOp .neq ty x y r) (xs ys : Array Value) (hx : a.eval x = .agg xs) (hy : a.eval y = .agg ys) (w : World) (b : Bool)
    (hm : P.eqGuardType P.depth ty = false) (h : (Op.equalIn 10000 ty (.agg xs) (.agg ys)).run P w = .ok b w) : (execOp a.eval o).run P w = .ok (.value (.bool (!b))) w := by
  unfold execOp
  simp only [ho, hx, hy, binOp, Op.equal, Sem.run_bind, run_eqGuard_agg (P := P) w _ _ _ _ _ _ hm, Result.andThen_ok]
  rw [show Op.maxDepth = 10000 from rfl, h]; rfl

/-- A whole row by value behind '&&' or '||': the guard is met. -/
theorem wpList_load_rowG {P : Program} {ops : Array Oper} {rest : List Oper} {o : Oper} {a : Act} {w : World} {Q : Exit → Act → World → Prop} (hw : Region.wanted o (yielded ops a.tmps) = true) (ty : TypeId) (x : Operand) (ho : o.op = .load ty x)
    (g : Nat) (hx : a.eval x = .pointer (some ⟨g, 0, none⟩)) (t : TypeId) (cs : Array Value) (fr : Nat × Nat) (d : TypeDesc) (hg : w.heap[g]? = some (.cells cs t fr))
    (hu : P.underlying ty = some d) (hd : (match d with | .struct _ | .array _ _ => true | _ => false) = true) (hi : (P.info? ty).map (·.size) = some cs.size)
    (h : wpList P ops Q rest (a.put o.dst (.agg cs)) w) : wpList P ops Q (o :: rest) a w :=
  wpList_want hw fun _ hK => wp_load_row ty x ho g hx t cs fr d hg hu hd hi (hK _ _ h)
end Go.Proofs.YtejchncdimcdbaaGreatDoor
/-
  A row in the midst of a block, read within a quiet walk.
-/
namespace Go.Proofs.YtejchncdimcdbaaGreatDoor
open Go Go.RowKit Go.BigFrame

theorem wpQuiet_mid {P : Program} {ops : Array Oper} {C : World → Prop} {Q : Act → Prop} {a : Act} {o : Oper} {rest : List Oper} (hw : Region.wanted o (yielded ops a.tmps) = true) (ty : TypeId) (x : Operand) (ho : o.op = .load ty x)
    (b off : Nat) (hx : a.eval x = .pointer (some ⟨b, off, none⟩)) (cs : List Value) (d : TypeDesc) (hg : ∀ w, C w → w.rangeAt b off cs)
    (hu : P.underlying ty = some d) (hd : d.isRow = true) (hi : (P.info? ty).map (·.size) = some cs.length)
    (h : wpQuiet P ops C Q rest (a.put o.dst (.agg cs.toArray))) : wpQuiet P ops C Q (o :: rest) a := by
  refine wpQuiet_want hw fun K hK => ⟨.agg cs.toArray, fun w hw => ?_, hK _ h⟩
  unfold Oper.quietAt execOp
  simp only [ho]
  have := run_loadVar_mid (P := P) w b off ty cs d (hg w hw) hu hd hi
  simp only [hx, Instr.loadAt, Instr.sureAddr, Sem.run_bind, Sem.run_pure, Result.andThen_ok, this, Oper.quietUpon, and_self]
end Go.Proofs.YtejchncdimcdbaaGreatDoor
