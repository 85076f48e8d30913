import Derived.Test.YtbljofojeagdkaaDoorMP1
namespace Go.Proofs.YtbljofojeagdkaaDoor
open Go.RowKit Go.BigFrame
set_option linter.unusedVariables false
set_option linter.unusedSimpArgs false

def pathV (bi bc bl : Nat) : Value := .func (.func 57) #[] #[.pointer (some ⟨bi, 0, none⟩), .pointer (some ⟨bc, 0, none⟩), .pointer (some ⟨bl, 0, none⟩)]
structure PathW (bi bc i : Nat) (bl : Nat) (W0 w : World) : Prop where
  hc : w.heap[bc]? = some (.cells #[pathV bi bc bl] 102 (0, 0))
  hi : w.heap[bi]? = some (.cells #[.int .u64 i] 24 (0, 0))
  lt : bc < W0.heap.size ∧ bi < W0.heap.size
  ne : bc ≠ bl ∧ bi ≠ bl
theorem PathW.kept {bi bc i bl : Nat} {W0 w w' : World} (h : PathW bi bc i bl W0 w) (hl : W0.heap.size ≤ w.heap.size) {L : List Nat} (k : Kept L w w') (hL : ∀ b ∈ L, b = bl ∨ W0.heap.size ≤ b) : PathW bi bc i bl W0 w' := by
  refine ⟨k.heap h.hc ?_, k.heap h.hi ?_, h.lt, h.ne⟩
  · intro hm; rcases hL _ hm with e | e
    · exact h.ne.1 e
    · have := h.lt.1; omega
  · intro hm; rcases hL _ hm with e | e
    · exact h.ne.2 e
    · have := h.lt.2; omega

theorem Tryd.callPath : ∀ args W, (callFunc 57 args).run Tryd.prog W = .ok (.enter 57 args) W := by
  intro args W
  exact Tryd.call57 args W

set_option maxRecDepth 100000 in
set_option maxHeartbeats 1000000 in
theorem pathC_any (W0 : World) (bi bc bl i : Nat) : ∀ (c lo hi : Nat) (ss : List (Nat × Nat)) (v : Value) (w : World), lo < hi → hi - lo ≤ 2 ^ c → hi < 18446744073709551616 → ss.length + c ≤ 1000000 → Lst W0 bl ss w v → PathW bi bc i bl W0 w →
    Calls Tryd.prog 57 #[.int .u64 lo, .int .u64 hi, .pointer (some ⟨bi, 0, none⟩), .pointer (some ⟨bc, 0, none⟩), .pointer (some ⟨bl, 0, none⟩)] w fun e w' => e = .returned (.tuple #[]) ∧ ∃ u, Lst W0 bl (ss ++ pathF i c lo hi) w' u ∧ PathW bi bc i bl W0 w' := by
  intro c
  induction c with
  | zero =>
    intro lo hi ss v w h1 h2 h3 h4 HL HP
    have hsub : IntKind.u64.wrap ((hi : Int) - (lo : Int)) = 1 := by rw [wrM]; simp at h2; omega
    go_enter Tryd.func57, Tryd.ntmps57
    have HL := hide HL
    have HP := hide HP
    go_wp2_with (first | simp only [hsub])
    exact ⟨rfl, _, results_none rfl _ _ _, rfl, v, by rw [pathF, List.append_nil]; exact unhide HL, unhide HP⟩
  | succ c ih =>
    intro lo hi ss v w h1 h2 h3 h4 HL HP
    have HL := hide HL
    have HP := hide HP
    have HIH := hide ih
    have HS := hide h4
    clear ih h4
    by_cases hone : hi - lo ≤ 1
    · have hsub : IntKind.u64.wrap ((hi : Int) - (lo : Int)) = 1 := by rw [wrM]; omega
      clear h2
      go_enter Tryd.func57, Tryd.ntmps57
      go_wp2_with (first | simp only [hsub])
      exact ⟨rfl, _, results_none rfl _ _ _, rfl, v, by rw [pathF_one i _ hone, List.append_nil]; exact unhide HL, unhide HP⟩
    · have hsub : IntKind.u64.wrap ((hi : Int) - (lo : Int)) = ((hi - lo : Nat) : Int) := by rw [wrM]; omega
      have hne : ¬ ((hi - lo : Nat) : Int) = 1 := by omega
      have HSP := hide (msplit_any lo hi w (by omega) h3)
      have hb := belT_lt (n := hi - lo) (by omega)
      have hb2 := belT_half (n := hi - lo) (c := c) (by omega) h2
      have HPL := hide (fun h => pathF_l (i := i) (c := c) (lo := lo) (hi := hi) hone h)
      have HPR := hide (fun h => pathF_r (i := i) (c := c) (lo := lo) (hi := hi) hone h)
      obtain ⟨m, hm⟩ : ∃ m, lo + belT (hi - lo) = m := ⟨_, rfl⟩
      rw [hm] at HSP HPL HPR
      have hm1 : lo < m := by omega
      have hm2 : m < hi := by omega
      have HB := hide (by omega : m - lo ≤ 2 ^ c ∧ hi - m ≤ 2 ^ c)
      have HSZ := hide (unhide HL).kept.size
      obtain ⟨n, hn⟩ : ∃ n, hi - lo = n := ⟨_, rfl⟩
      rw [hn] at hsub hne
      clear hb hb2 hone h2 hm hn
      go_enter Tryd.func57, Tryd.ntmps57
      go_wp2_with (first | simp only [hsub])
      refine (unhide HSP).mono ?_
      rintro e w1 ⟨rfl, k1⟩
      have HL1 := hide ((unhide HL).old k1)
      have HP1 := hide ((unhide HP).kept (unhide HSZ) k1 (by simp))
      have HSZ1 := hide (unhide HL1).kept.size
      clear HL HP k1 HSP HSZ
      have ci := cell_of_row _ _ 0 _ _ _ (unhide HP1).hi
      have cc := cell_of_row _ _ 0 _ _ _ (unhide HP1).hc
      unfold pathV at cc
      simp at ci cc
      by_cases him : i < m
      · have him' : (i : Int) < (m : Int) := by omega
        have HR1 := hide (unhide HIH lo m ss v w1 (by omega) (unhide HB).1 (by omega) (by have := unhide HS; omega) (unhide HL1) (unhide HP1))
        have HSL := hide (by have := unhide HS; have := pathF_len i c lo m; rw [List.length_append]; omega : (ss ++ pathF i c lo m).length + 1 ≤ 1000000000000)
        have HEQ := hide (unhide HPL him)
        clear HIH HB HPL HPR
        go_wp2_with fail
        refine (unhide HR1).mono ?_
        rintro e w2 ⟨rfl, u, l2, p2⟩
        have HL2 := hide (l2.old ((Kept.refl [] w2).alloc (.cells #[.int .u64 (m : Int), .int .u64 (hi : Int)] 101)))
        have HP2 := hide (p2.kept l2.kept.size ((Kept.refl [] w2).alloc (.cells #[.int .u64 (m : Int), .int .u64 (hi : Int)] 101)) (by simp))
        have HN2 := hide (heap_alloc_new w2 (.cells #[.int .u64 (m : Int), .int .u64 (hi : Int)] 101))
        have cl := cell_of_row _ _ 0 _ _ _ l2.row
        simp at cl
        have HBB := hide (unhide HL2).kept.size
        clear l2 p2 HR1 HL1 HP1 ci cc HSZ1
        obtain ⟨ts, hts⟩ : ∃ ts, ss ++ pathF i c lo m = ts := ⟨_, rfl⟩
        rw [hts] at HL2 HSL
        have HTS := hide hts
        clear hts
        go_wp2_with ((at_builtin; refine wpList_pushSp rfl (.tmp 22) (.tmp 26) rfl rfl _ W0.heap.size u ts m hi w2.heap.size (unhide HL2).own (unhide HN2) (unhide HSL) (unhide HBB) rfl rfl ?_; intro g cap w3 HO3 HG3; have HLP := hide ((unhide HL2).push (x := m) (y := hi) (unhide HO3) (unhide HG3)); have cb := (unhide HLP).2.1; have zb := frozen_of_row _ _ 0 _ _ (unhide HLP).2.2; have HKW := hide ((Kept.refl u.ownBlock.toList (w2.alloc (.cells #[.int .u64 (m : Int), .int .u64 (hi : Int)] 101))).grown (unhide HG3) (by intro k hk; left; simp [hk])); clear HO3 HG3))
        refine ⟨rfl, _, results_none rfl _ _ _, rfl, _, by rw [unhide HEQ, ← List.append_assoc, unhide HTS]; exact (unhide HLP).1, ?_⟩
        refine ((unhide HP2).kept (unhide HBB) (unhide HKW) ?_).kept (Nat.le_trans (unhide HBB) (unhide HKW).size) ((Kept.refl [bl] w3).setCell (p := ⟨bl, 0, none⟩) (Or.inl (by simp)) _) ?_
        · intro b hb
          right
          exact ((unhide HL2).own.lt b (by simpa using hb)).1
        · intro b hb
          left
          simpa using hb
      · have him' : ¬ (i : Int) < (m : Int) := by omega
        have HR1 := hide (unhide HIH m hi ss v w1 (by omega) (unhide HB).2 (by omega) (by have := unhide HS; omega) (unhide HL1) (unhide HP1))
        have HSL := hide (by have := unhide HS; have := pathF_len i c m hi; rw [List.length_append]; omega : (ss ++ pathF i c m hi).length + 1 ≤ 1000000000000)
        have HEQ := hide (unhide HPR him)
        clear HIH HB HPL HPR
        go_wp2_with fail
        refine (unhide HR1).mono ?_
        rintro e w2 ⟨rfl, u, l2, p2⟩
        have HL2 := hide (l2.old ((Kept.refl [] w2).alloc (.cells #[.int .u64 (lo : Int), .int .u64 (m : Int)] 101)))
        have HP2 := hide (p2.kept l2.kept.size ((Kept.refl [] w2).alloc (.cells #[.int .u64 (lo : Int), .int .u64 (m : Int)] 101)) (by simp))
        have HN2 := hide (heap_alloc_new w2 (.cells #[.int .u64 (lo : Int), .int .u64 (m : Int)] 101))
        have cl := cell_of_row _ _ 0 _ _ _ l2.row
        simp at cl
        have HBB := hide (unhide HL2).kept.size
        clear l2 p2 HR1 HL1 HP1 ci cc HSZ1
        obtain ⟨ts, hts⟩ : ∃ ts, ss ++ pathF i c m hi = ts := ⟨_, rfl⟩
        rw [hts] at HL2 HSL
        have HTS := hide hts
        clear hts
        go_wp2_with ((at_builtin; refine wpList_pushSp rfl (.tmp 32) (.tmp 36) rfl rfl _ W0.heap.size u ts lo m w2.heap.size (unhide HL2).own (unhide HN2) (unhide HSL) (unhide HBB) rfl rfl ?_; intro g cap w3 HO3 HG3; have HLP := hide ((unhide HL2).push (x := lo) (y := m) (unhide HO3) (unhide HG3)); have cb := (unhide HLP).2.1; have zb := frozen_of_row _ _ 0 _ _ (unhide HLP).2.2; have HKW := hide ((Kept.refl u.ownBlock.toList (w2.alloc (.cells #[.int .u64 (lo : Int), .int .u64 (m : Int)] 101))).grown (unhide HG3) (by intro k hk; left; simp [hk])); clear HO3 HG3))
        refine ⟨rfl, _, results_none rfl _ _ _, rfl, _, by rw [unhide HEQ, ← List.append_assoc, unhide HTS]; exact (unhide HLP).1, ?_⟩
        refine ((unhide HP2).kept (unhide HBB) (unhide HKW) ?_).kept (Nat.le_trans (unhide HBB) (unhide HKW).size) ((Kept.refl [bl] w3).setCell (p := ⟨bl, 0, none⟩) (Or.inl (by simp)) _) ?_
        · intro b hb
          right
          exact ((unhide HL2).own.lt b (by simpa using hb)).1
        · intro b hb
          left
          simpa using hb
end Go.Proofs.YtbljofojeagdkaaDoor
