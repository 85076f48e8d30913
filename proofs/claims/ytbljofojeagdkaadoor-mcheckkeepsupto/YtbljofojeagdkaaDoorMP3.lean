import Derived.Test.YtbljofojeagdkaaDoorMP1
namespace Go.Proofs.YtbljofojeagdkaaDoor
open Go.RowKit Go.BigFrame
set_option linter.unusedVariables false
set_option linter.unusedSimpArgs false

def seamV (bi bl bc : Nat) : Value := .func (.func 64) #[] #[.pointer (some ⟨bi, 0, none⟩), .pointer (some ⟨bl, 0, none⟩), .pointer (some ⟨bc, 0, none⟩)]
structure SeamW (bi bc i : Nat) (bl : Nat) (W0 w : World) : Prop where
  hc : w.heap[bc]? = some (.cells #[seamV bi bl bc] 107 (0, 0))
  hi : w.heap[bi]? = some (.cells #[.int .u64 i] 24 (0, 0))
  lt : bc < W0.heap.size ∧ bi < W0.heap.size
  ne : bc ≠ bl ∧ bi ≠ bl
theorem SeamW.kept {bi bc i bl : Nat} {W0 w w' : World} (h : SeamW bi bc i bl W0 w) (hl : W0.heap.size ≤ w.heap.size) {L : List Nat} (k : Kept L w w') (hL : ∀ b ∈ L, b = bl ∨ W0.heap.size ≤ b) : SeamW bi bc i bl W0 w' := by
  refine ⟨k.heap h.hc ?_, k.heap h.hi ?_, h.lt, h.ne⟩
  · intro hm; rcases hL _ hm with e | e
    · exact h.ne.1 e
    · have := h.lt.1; omega
  · intro hm; rcases hL _ hm with e | e
    · exact h.ne.2 e
    · have := h.lt.2; omega

set_option maxRecDepth 100000 in
set_option maxHeartbeats 1000000 in
theorem seamC_end (W0 : World) (bi bc bl m : Nat) (c lo : Nat) (wh : Bool) (ss : List (Nat × Nat)) (v : Value) (w : World) (h4 : ss.length + c ≤ 1000000) (HL : Lst W0 bl ss w v) (HP : SeamW bi bc m bl W0 w) :
    Calls Tryd.prog 64 #[.int .u64 lo, .int .u64 m, .bool wh, .pointer (some ⟨bi, 0, none⟩), .pointer (some ⟨bl, 0, none⟩), .pointer (some ⟨bc, 0, none⟩)] w fun e w' => e = .returned (.tuple #[]) ∧ ∃ u, Lst W0 bl (ss ++ seamF m c lo m wh) w' u ∧ SeamW bi bc m bl W0 w' := by
    have HL := hide HL
    have HP := hide HP
    have HS := hide h4
    clear h4
    have ci := cell_of_row _ _ 0 _ _ _ (unhide HP).hi
    simp at ci
    cases wh with
    | true =>
      go_enter Tryd.func64, Tryd.ntmps64
      go_wp2_with fail
      exact ⟨rfl, _, results_none rfl _ _ _, rfl, v, by rw [seamF_end rfl, if_pos rfl, List.append_nil]; exact unhide HL, unhide HP⟩
    | false =>
      have cl := cell_of_row _ _ 0 _ _ _ (unhide HL).row
      simp at cl
      have HL2 := hide ((unhide HL).old ((Kept.refl [] w).alloc (.cells #[.int .u64 (lo : Int), .int .u64 (m : Int)] 101)))
      have HP2 := hide ((unhide HP).kept (unhide HL).kept.size ((Kept.refl [] w).alloc (.cells #[.int .u64 (lo : Int), .int .u64 (m : Int)] 101)) (by simp))
      have HN2 := hide (heap_alloc_new w (.cells #[.int .u64 (lo : Int), .int .u64 (m : Int)] 101))
      have HBB := hide (unhide HL2).kept.size
      have HSL := hide (by have := unhide HS; omega : ss.length + 1 ≤ 1000000000000)
      clear HL HP
      go_enter Tryd.func64, Tryd.ntmps64
      go_wp2_with ((at_builtin; refine wpList_pushSp rfl (.tmp 15) (.tmp 19) rfl rfl _ W0.heap.size v ss lo m w.heap.size (unhide HL2).own (unhide HN2) (unhide HSL) (unhide HBB) rfl rfl ?_; intro g cap w3 HO3 HG3; have HLP := hide ((unhide HL2).push (x := lo) (y := m) (unhide HO3) (unhide HG3)); have cb := (unhide HLP).2.1; have zb := frozen_of_row _ _ 0 _ _ (unhide HLP).2.2; have HKW := hide ((Kept.refl v.ownBlock.toList (w.alloc (.cells #[.int .u64 (lo : Int), .int .u64 (m : Int)] 101))).grown (unhide HG3) (by intro k hk; left; simp [hk])); clear HO3 HG3))
      refine ⟨rfl, _, results_none rfl _ _ _, rfl, _, by rw [seamF_end rfl]; exact (unhide HLP).1, ?_⟩
      refine ((unhide HP2).kept (unhide HBB) (unhide HKW) ?_).kept (Nat.le_trans (unhide HBB) (unhide HKW).size) ((Kept.refl [bl] w3).setCell (p := ⟨bl, 0, none⟩) (Or.inl (by simp)) _) ?_
      · intro b hb
        right
        exact ((unhide HL2).own.lt b (by simpa using hb)).1
      · intro b hb
        left
        simpa using hb

set_option maxRecDepth 100000 in
set_option maxHeartbeats 1000000 in
theorem seamC_any (W0 : World) (bi bc bl m : Nat) : ∀ (c lo hi : Nat) (wh : Bool) (ss : List (Nat × Nat)) (v : Value) (w : World), lo < m → m ≤ hi → hi - lo ≤ 2 ^ c → hi < 18446744073709551616 → ss.length + c ≤ 1000000 → Lst W0 bl ss w v → SeamW bi bc m bl W0 w →
    Calls Tryd.prog 64 #[.int .u64 lo, .int .u64 hi, .bool wh, .pointer (some ⟨bi, 0, none⟩), .pointer (some ⟨bl, 0, none⟩), .pointer (some ⟨bc, 0, none⟩)] w fun e w' => e = .returned (.tuple #[]) ∧ ∃ u, Lst W0 bl (ss ++ seamF m c lo hi wh) w' u ∧ SeamW bi bc m bl W0 w' := by
  intro c
  induction c with
  | zero =>
    intro lo hi wh ss v w h1 h0 h2 h3 h4 HL HP
    have e : hi = m := by simp at h2; omega
    subst e
    exact seamC_end W0 bi bc bl hi 0 lo wh ss v w h4 HL HP
  | succ c ih =>
    intro lo hi wh ss v w h1 h0 h2 h3 h4 HL HP
    by_cases hone : m = hi
    · subst hone
      exact seamC_end W0 bi bc bl m (c + 1) lo wh ss v w h4 HL HP
    · have HL := hide HL
      have HP := hide HP
      have HIH := hide ih
      have HS := hide h4
      clear ih h4
      have hne : ¬ (m : Int) = (hi : Int) := by omega
      have HSP := hide (msplit_any lo hi w (by omega) h3)
      have hb := belT_lt (n := hi - lo) (by omega)
      have hb2 := belT_half (n := hi - lo) (c := c) (by omega) h2
      have HPL := hide (fun h => seamF_l (m := m) (c := c) (lo := lo) (hi := hi) (wh := wh) hone h)
      have HPR := hide (fun h => seamF_r (m := m) (c := c) (lo := lo) (hi := hi) (wh := wh) hone h)
      obtain ⟨md, hm⟩ : ∃ md, lo + belT (hi - lo) = md := ⟨_, rfl⟩
      rw [hm] at HSP HPL HPR
      have hm1 : lo < md := by omega
      have hm2 : md < hi := by omega
      have HB := hide (by omega : md - lo ≤ 2 ^ c ∧ hi - md ≤ 2 ^ c)
      have HSZ := hide (unhide HL).kept.size
      clear hb hb2 h2 hm
      have ci := cell_of_row _ _ 0 _ _ _ (unhide HP).hi
      simp at ci
      go_enter Tryd.func64, Tryd.ntmps64
      go_wp2_with fail
      refine (unhide HSP).mono ?_
      rintro e w1 ⟨rfl, k1⟩
      have HL1 := hide ((unhide HL).old k1)
      have HP1 := hide ((unhide HP).kept (unhide HSZ) k1 (by simp))
      have HSZ1 := hide (unhide HL1).kept.size
      clear HL HP k1 HSP HSZ ci
      have ci := cell_of_row _ _ 0 _ _ _ (unhide HP1).hi
      have cc := cell_of_row _ _ 0 _ _ _ (unhide HP1).hc
      unfold seamV at cc
      simp at ci cc
      by_cases him : m ≤ md
      · have him' : (m : Int) ≤ (md : Int) := by omega
        have HR1 := hide (unhide HIH lo md wh ss v w1 (by omega) (by omega) (unhide HB).1 (by omega) (by have := unhide HS; omega) (unhide HL1) (unhide HP1))
        have HSL := hide (by have := unhide HS; have := seamF_len m c lo md wh; rw [List.length_append]; omega : (ss ++ seamF m c lo md wh).length + 1 ≤ 1000000000000)
        have HEQ := hide (unhide HPL him)
        clear HIH HB HPL HPR
        go_wp2_with fail
        refine (unhide HR1).mono ?_
        rintro e w2 ⟨rfl, u, l2, p2⟩
        have HL2 := hide (l2.old ((Kept.refl [] w2).alloc (.cells #[.int .u64 (md : Int), .int .u64 (hi : Int)] 101)))
        have HP2 := hide (p2.kept l2.kept.size ((Kept.refl [] w2).alloc (.cells #[.int .u64 (md : Int), .int .u64 (hi : Int)] 101)) (by simp))
        have HN2 := hide (heap_alloc_new w2 (.cells #[.int .u64 (md : Int), .int .u64 (hi : Int)] 101))
        have cl := cell_of_row _ _ 0 _ _ _ l2.row
        simp at cl
        have HBB := hide (unhide HL2).kept.size
        clear l2 p2 HR1 HL1 HP1 ci cc HSZ1
        obtain ⟨ts, hts⟩ : ∃ ts, ss ++ seamF m c lo md wh = ts := ⟨_, rfl⟩
        rw [hts] at HL2 HSL
        have HTS := hide hts
        clear hts
        go_wp2_with ((at_builtin; refine wpList_pushSp rfl (.tmp 32) (.tmp 36) rfl rfl _ W0.heap.size u ts md hi w2.heap.size (unhide HL2).own (unhide HN2) (unhide HSL) (unhide HBB) rfl rfl ?_; intro g cap w3 HO3 HG3; have HLP := hide ((unhide HL2).push (x := md) (y := hi) (unhide HO3) (unhide HG3)); have cb := (unhide HLP).2.1; have zb := frozen_of_row _ _ 0 _ _ (unhide HLP).2.2; have HKW := hide ((Kept.refl u.ownBlock.toList (w2.alloc (.cells #[.int .u64 (md : Int), .int .u64 (hi : Int)] 101))).grown (unhide HG3) (by intro k hk; left; simp [hk])); clear HO3 HG3))
        refine ⟨rfl, _, results_none rfl _ _ _, rfl, _, by rw [unhide HEQ, ← List.append_assoc, unhide HTS]; exact (unhide HLP).1, ?_⟩
        refine ((unhide HP2).kept (unhide HBB) (unhide HKW) ?_).kept (Nat.le_trans (unhide HBB) (unhide HKW).size) ((Kept.refl [bl] w3).setCell (p := ⟨bl, 0, none⟩) (Or.inl (by simp)) _) ?_
        · intro b hb
          right
          exact ((unhide HL2).own.lt b (by simpa using hb)).1
        · intro b hb
          left
          simpa using hb
      · have him' : ¬ (m : Int) ≤ (md : Int) := by omega
        have HR1 := hide (unhide HIH md hi false ss v w1 (by omega) (by omega) (unhide HB).2 (by omega) (by have := unhide HS; omega) (unhide HL1) (unhide HP1))
        have HSL := hide (by have := unhide HS; have := seamF_len m c md hi false; rw [List.length_append]; omega : (ss ++ seamF m c md hi false).length + 1 ≤ 1000000000000)
        have HEQ := hide (unhide HPR him)
        clear HIH HB HPL HPR
        go_wp2_with fail
        refine (unhide HR1).mono ?_
        rintro e w2 ⟨rfl, u, l2, p2⟩
        have HL2 := hide (l2.old ((Kept.refl [] w2).alloc (.cells #[.int .u64 (lo : Int), .int .u64 (md : Int)] 101)))
        have HP2 := hide (p2.kept l2.kept.size ((Kept.refl [] w2).alloc (.cells #[.int .u64 (lo : Int), .int .u64 (md : Int)] 101)) (by simp))
        have HN2 := hide (heap_alloc_new w2 (.cells #[.int .u64 (lo : Int), .int .u64 (md : Int)] 101))
        have cl := cell_of_row _ _ 0 _ _ _ l2.row
        simp at cl
        have HBB := hide (unhide HL2).kept.size
        clear l2 p2 HR1 HL1 HP1 ci cc HSZ1
        obtain ⟨ts, hts⟩ : ∃ ts, ss ++ seamF m c md hi false = ts := ⟨_, rfl⟩
        rw [hts] at HL2 HSL
        have HTS := hide hts
        clear hts
        go_wp2_with ((at_builtin; refine wpList_pushSp rfl (.tmp 42) (.tmp 46) rfl rfl _ W0.heap.size u ts lo md w2.heap.size (unhide HL2).own (unhide HN2) (unhide HSL) (unhide HBB) rfl rfl ?_; intro g cap w3 HO3 HG3; have HLP := hide ((unhide HL2).push (x := lo) (y := md) (unhide HO3) (unhide HG3)); have cb := (unhide HLP).2.1; have zb := frozen_of_row _ _ 0 _ _ (unhide HLP).2.2; have HKW := hide ((Kept.refl u.ownBlock.toList (w2.alloc (.cells #[.int .u64 (lo : Int), .int .u64 (md : Int)] 101))).grown (unhide HG3) (by intro k hk; left; simp [hk])); clear HO3 HG3))
        refine ⟨rfl, _, results_none rfl _ _ _, rfl, _, by rw [unhide HEQ, ← List.append_assoc, unhide HTS]; exact (unhide HLP).1, ?_⟩
        refine ((unhide HP2).kept (unhide HBB) (unhide HKW) ?_).kept (Nat.le_trans (unhide HBB) (unhide HKW).size) ((Kept.refl [bl] w3).setCell (p := ⟨bl, 0, none⟩) (Or.inl (by simp)) _) ?_
        · intro b hb
          right
          exact ((unhide HL2).own.lt b (by simpa using hb)).1
        · intro b hb
          left
          simpa using hb
end Go.Proofs.YtbljofojeagdkaaDoor
