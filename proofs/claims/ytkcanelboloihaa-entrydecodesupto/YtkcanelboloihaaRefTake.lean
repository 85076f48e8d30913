import Derived.Test.YtkcanelboloihaaGen
namespace Go.Proofs.Ytkcanelboloihaa
open Go.RowKit
set_option linter.unusedVariables false
set_option linter.unusedSimpArgs false
attribute [local go_sem ↓] Go.wp_at_zero Go.wp_at_succ

/-- A variable of three cells, as a walk wants it. -/
theorem three {w : World} {b : Nat} {v0 v1 v2 : Value} {t : TypeId} (h : w.heap[b]? = some (.cells #[v0, v1, v2] t (0, 0))) :
    (w.cell? ⟨b, 0, none⟩ = some v0 ∧ w.cell? ⟨b, 1, none⟩ = some v1 ∧ w.cell? ⟨b, 2, none⟩ = some v2) ∧ (w.frozen? ⟨b, 0, none⟩ = false ∧ w.frozen? ⟨b, 1, none⟩ = false ∧ w.frozen? ⟨b, 2, none⟩ = false) := by
  refine ⟨⟨?_, ?_, ?_⟩, ?_, ?_, ?_⟩ <;> first | (rw [cell_of_row _ _ _ _ _ _ h]; rfl) | exact frozen_of_row _ _ _ _ _ h

/-- The document's reader as a value. -/
abbrev rrV (gv : Value) (i e : Int) : Value := .agg #[gv, .int .i64 i, .int .i64 e]

set_option maxRecDepth 100000 in
set_option maxHeartbeats 1000000 in
theorem fault_any (ao : Option Addr) (n c : Nat) (i e f : Int) (w : World) :
    Calls Try.prog 111 #[rrV (.slice ao n c) i e, .int .i64 f] w fun r w' => r = .returned (rrV (.slice ao n c) i f) ∧ Kept [] w w' := by
  go_enter Try.func111, Try.ntmps111
  go_wp2
  exact bodyPost_ret (v := .agg #[.slice ao n c, .int .i64 i, .int .i64 f]) (by simp [results, Try.results111, go_sem]) rfl ⟨rfl, ((Kept.refl [] w).alloc _).alloc _⟩

set_option maxRecDepth 100000 in
set_option maxHeartbeats 4000000 in
theorem takeWide_any (ao : Option Addr) (c : Nat) (p : List Nat) (i e n : Nat) (w : World) (h : Rd w (.slice ao p.length c) p) (hi : i ≤ p.length) (hn : n ≤ 8) :
    Calls Try.prog 102 #[rrV (.slice ao p.length c) i e, .int .i64 n] w fun r w' => r = .returned (.tuple #[.int .u64 (rNum p i e n).1, rrV (.slice ao p.length c) (rNum p i e n).2.1 (rNum p i e n).2.2]) ∧ Kept [] w w' := by
  have hl := h.len
  by_cases he : e = 0
  · subst he
    by_cases hs : p.length - i < n
    · have HV := hide (by simp [rNum, hs] : rNum p i 0 n = (0, i, 3))
      have hs' : (p.length : Int) - i < n := by omega
      clear h
      go_enter Try.func102, Try.ntmps102
      go_wp2_with fail
      refine (fault_any ao p.length c i 0 3 _).mono ?_
      rintro r w1 ⟨rfl, k1⟩
      obtain ⟨⟨c0, c1, c2⟩, f0, f1, f2⟩ := three (k1.heap (heap_alloc2_new w _ _) (by simp))
      have HK1 := hide ((((Kept.refl [] w).alloc _).alloc _).trans k1 (by simp))
      have hsz : w.heap.size ≤ w.heap.size + 1 := by omega
      clear k1
      go_wp2
      refine bodyPost_ret (v := .tuple #[.int .u64 0, rrV (.slice ao p.length c) i 3]) (by simp [results, Try.results102, go_sem, c0, c1, c2]) rfl ⟨by rw [unhide HV]; rfl, ?_⟩
      exact (((unhide HK1).setCell (by simp) _).setCell (by simp) _).setCell (by simp) _
    · have HV := hide (by simp [rNum, hs] : rNum p i 0 n = (beL ((p.drop i).take n), i + n, 0))
      have hs' : ¬ (p.length : Int) - i < n := by omega
      have hq : ∀ k, k < n → (p.drop i).getD k 0 = p.getD (i + k) 0 := fun k hk => by simp [List.getD_eq_getElem?_getD]
      have hsn : ∀ k, k < n → beL (((p.drop i).take n).take (k + 1)) = (beL (((p.drop i).take n).take k) * 256 + p.getD (i + k) 0) % 18446744073709551616 := fun k hk => by
        rw [beL_snoc _ k (by simp; omega)]
        congr 2
        simp [List.getD_eq_getElem?_getD, List.getElem?_take, hk]
      have hlt64 : ∀ k, beL (((p.drop i).take n).take k) < 18446744073709551616 := fun k => beL_lt _
      have hfull : ((p.drop i).take n).take n = (p.drop i).take n := by rw [List.take_take, Nat.min_self]
      obtain ⟨ao', len', cap', hE, _, h2, ⟨h3, h3'⟩, h4, h5, h6⟩ := h
      cases hE
      have hgb := fun k => getD_byte h5 k
      have H6 := hide h6
      have Hsn := hide hsn
      have Hlt := hide hlt64
      have Hgb := hide hgb
      obtain ⟨q, hqq⟩ : ∃ q, (p.drop i).take n = q := ⟨_, rfl⟩
      rw [hqq] at HV Hsn Hlt hfull
      have Hfull := hide hfull
      clear h6 h4 h5 hsn hlt64 hgb hq hqq hfull
      go_enter Try.func102, Try.ntmps102
      go_wp2_with fail
      go_loopw [6, 7] (fun t6 t7 wr => ∃ k : Nat, k ≤ n ∧ t7 = .int .i64 k ∧ t6 = .int .u64 (beL (q.take k)) ∧ wr = (w.alloc (.cells #[.slice ao p.length c, .int .i64 i, .int .i64 0] 103)).alloc (.cells #[.slice none 0 0, .int .i64 0, .int .i64 0] 103)) (fun _ i _ => n - (intOf i).toNat)
      case atStart => exact ⟨0, Nat.zero_le _, rfl, by simp [beL], rfl⟩
      case round =>
        obtain ⟨k, hk, rfl, rfl, rfl⟩ := hrel
        by_cases hlt : k < n
        · obtain ⟨bb, oo, rfl, hc⟩ := unhide H6 (by omega)
          have hck := hc (i + k) (by omega)
          have hbb : bb < w.heap.size := block_lt_of_cell hck
          have hb1 := unhide Hgb (i + k)
          have hs1 := unhide Hsn k hlt
          have ha1 := unhide Hlt k
          obtain ⟨z, hz⟩ : ∃ z, p.getD (i + k) 0 = z := ⟨_, rfl⟩
          obtain ⟨a, ha⟩ : ∃ a, beL (q.take k) = a := ⟨_, rfl⟩
          obtain ⟨a', ha'⟩ : ∃ a', beL (q.take (k + 1)) = a' := ⟨_, rfl⟩
          rw [hz] at hck hb1 hs1
          rw [ha] at hs1 ha1 ⊢
          rw [ha'] at hs1
          have Ha' := hide ha'
          have hval : IntKind.u64.wrap (IntKind.u64.wrap ((a : Int) * 256) + (z : Int)) = (a' : Int) := by rw [hs1, IntKind.wrap_u64, IntKind.wrap_u64]; omega
          have hval2 : IntKind.u64.wrap ((a : Int) * 256 % 18446744073709551616 + (z : Int)) = (a' : Int) := by rw [hs1, IntKind.wrap_u64]; omega
          have hi0 : (0 : Int) ≤ (i : Int) + k := by omega
          have hi1 : (i : Int) + k < p.length := by omega
          have hlt' : (k : Int) < n := by omega
          have Hv := hide hval
          have Hs1 := hide hs1
          clear hc hz ha ha' hs1
          go_wp2
          go_roundw
          case rel => exact ⟨k + 1, by omega, by go_num, by rw [unhide Ha'], trivial⟩
          case measure => simp [intOf]; omega
        · have hkn : k = n := by omega
          subst hkn
          have hlt' : ¬ (k : Int) < k := by omega
          rw [unhide Hfull]
          obtain ⟨a, ha⟩ : ∃ a, beL q = a := ⟨_, rfl⟩
          rw [ha] at HV ⊢
          clear ha
          go_wp2_with fail
          go_region
          all_goals go_wp2
          refine bodyPost_ret (v := .tuple #[.int .u64 a, rrV (.slice ao p.length c) ((i : Int) + k) 0]) (by simp [results, Try.results102, go_sem]) rfl ⟨by rw [unhide HV]; simp, (by repeat (first | exact Kept.refl _ _ | apply Kept.drew | apply Kept.alloc | (refine Kept.setCell ?_ (by simp) _)))⟩
  · have he' : ((e : Int) != 0) = true := by rw [bne_iff_ne]; omega
    have HV := hide (by simp [rNum, he] : rNum p i e n = (0, i, e))
    clear he h
    go_enter Try.func102, Try.ntmps102
    go_wp2_with fail
    go_region
    all_goals go_wp2
    refine bodyPost_ret (v := .tuple #[.int .u64 0, rrV (.slice ao p.length c) i e]) (by simp [results, Try.results102, go_sem]) rfl ⟨by rw [unhide HV]; rfl, (by repeat (first | exact Kept.refl _ _ | apply Kept.drew | apply Kept.alloc | (refine Kept.setCell ?_ (by simp) _)))⟩

set_option maxRecDepth 100000 in
set_option maxHeartbeats 4000000 in
theorem takeUvar_any (ao : Option Addr) (c : Nat) (p : List Nat) (i e : Nat) (w : World) (h : Rd w (.slice ao p.length c) p) (hi : i ≤ p.length) :
    Calls Try.prog 70 #[rrV (.slice ao p.length c) i e] w fun r w' => r = .returned (.tuple #[.int .u64 (rUvar p i e).1, rrV (.slice ao p.length c) (rUvar p i e).2.1 (rUvar p i e).2.2]) ∧ Kept [] w w' := by
  have hl := h.len
  by_cases he : e = 0
  · subst he
    have HV := hide (by simp [rUvar] : rUvar p i 0 = if (fuv (p.drop i) 0 0).2 = 0 then (0, i, 3) else ((fuv (p.drop i) 0 0).1, i + (fuv (p.drop i) 0 0).2, 0))
    obtain ⟨ao', len', cap', hE, _, h2, ⟨h3, h3'⟩, h4, h5, h6⟩ := h
    cases hE
    have hgb := fun k => getD_byte h5 k
    have H6 := hide h6
    have Hgb := hide hgb
    obtain ⟨F, hF⟩ : ∃ F, fuv (p.drop i) 0 0 = F := ⟨_, rfl⟩
    rw [hF] at HV
    have HF := hide hF
    clear h6 h4 h5 hgb hF
    go_enter Try.func70, Try.ntmps70
    go_wp2_with fail
    go_loopw [4, 5, 6, 7] (fun t4 t5 t6 t7 wr => ∃ k a u : Nat, k ≤ 9 ∧ i + k ≤ p.length ∧ u ≤ 9223372036854775808 ∧ t6 = .int .i64 k ∧ t4 = .int .u64 a ∧ t5 = .int .u64 u ∧ Hid (u = 128 ^ k) ∧ Hid (a < 128 ^ k) ∧ Hid (fuv (p.drop (i + k)) k a = F) ∧ wr = (w.alloc (.cells #[.slice ao p.length c, .int .i64 i, .int .i64 0] 103)).alloc (.cells #[.slice none 0 0, .int .i64 0, .int .i64 0] 103)) (fun _ _ i _ _ => 10 - (intOf i).toNat)
    case atStart => exact ⟨0, 0, 1, by omega, by omega, by omega, rfl, rfl, rfl, hide (by simp), hide (by simp), HF, rfl⟩
    case round =>
      obtain ⟨k, a, u, hk9, hik, hu, rfl, rfl, rfl, Hu, Ha, Hf, rfl⟩ := hrel
      have hk10 : (k : Int) < 10 := by omega
      by_cases hlt : i + k < p.length
      · obtain ⟨bb, oo, rfl, hc⟩ := unhide H6 (by omega)
        have hck := hc (i + k) hlt
        have hbb : bb < w.heap.size := block_lt_of_cell hck
        have hcb := unhide Hgb (i + k)
        have hfk := unhide Hf
        rw [drop_cons hlt, fuv] at hfk
        obtain ⟨z, hz⟩ : ∃ z, p.getD (i + k) 0 = z := ⟨_, rfl⟩
        rw [hz] at hck hcb hfk
        have hi0 : (0 : Int) ≤ (i : Int) + k := by omega
        have hi1 : (i : Int) + k < p.length := by omega
        have hi2 : ¬ (p.length : Int) ≤ (i : Int) + k := by omega
        clear hc hz
        by_cases h9 : k = 9 ∧ z ≠ 1
        · rw [if_pos h9] at hfk
          have t9 : ((k : Int) == 9) = true := by simp; omega
          have t1 : ((z : Int) != 1) = true := by rw [bne_iff_ne]; omega
          have HF0 := hide hfk
          clear hfk h9
          go_wp2_with fail
          refine (fault_any _ p.length c i 0 3 _).mono ?_
          rintro r w1 ⟨rfl, k1⟩
          obtain ⟨⟨c0, c1, c2⟩, f0, f1, f2⟩ := three (k1.heap (heap_alloc2_new w _ _) (by simp))
          have HK1 := hide ((((Kept.refl [] w).alloc _).alloc _).trans k1 (by simp))
          clear k1
          go_wp2
          refine bodyPost_ret (v := .tuple #[.int .u64 0, rrV (.slice (some ⟨bb, oo, none⟩) p.length c) i 3]) (by simp [results, Try.results70, go_sem, c0, c1, c2]) rfl ⟨by rw [unhide HV, ← unhide HF0]; rfl, ?_⟩
          exact (((unhide HK1).setCell (by simp) _).setCell (by simp) _).setCell (by simp) _
        · rw [if_neg h9] at hfk
          have h9' : k = 9 → z = 1 := by intro h; omega
          have hgl := group_lt k z hk9 h9'
          have hgn := group_next k z a (unhide Ha)
          rw [← unhide Hu] at hgl
          have hp9 : 128 ^ k ≤ 128 ^ 9 := Nat.pow_le_pow_right (by omega) hk9
          have h99 : (128 : Nat) ^ 9 = 9223372036854775808 := (by decide)
          have haa := unhide Ha
          obtain ⟨s, hs⟩ : ∃ s, z % 128 * u = s := ⟨_, rfl⟩
          rw [hs] at hgl
          have hs2 : z % 128 * 128 ^ k = s := by rw [← unhide Hu]; exact hs
          rw [hs2] at hfk hgn
          have hm : IntKind.u64.wrap ((z : Int) % 128 * (u : Int)) = (s : Int) := by
            rw [show ((z : Int) % 128 * (u : Int)) = ((z % 128 * u : Nat) : Int) from by simp, hs, IntKind.wrap_u64]; omega
          have hsum : (a : Int) + s ≤ 18446744073709551615 := by
            rcases Nat.lt_or_ge k 9 with h | h
            · have : 128 ^ (k + 1) ≤ 128 ^ 9 := Nat.pow_le_pow_right (by omega) (by omega)
              omega
            · have hk : k = 9 := by omega
              have hz1 := h9' hk
              subst hz1
              have : s = u := by rw [← hs]; simp
              have hu9 := unhide Hu
              rw [hk, h99] at hu9
              rw [hk, h99] at haa
              omega
          clear hp9 haa
          by_cases hbig : 128 ≤ z
          · rw [if_pos hbig] at hfk
            have hk8 : k ≤ 8 := by omega
            have t9 : ((k : Int) == 9) = false := by simp; omega
            have tb : ¬ (z : Int) < 128 := by omega
            have hu8 : u ≤ 72057594037927936 := by
              rw [unhide Hu]
              have : 128 ^ k ≤ 128 ^ 8 := Nat.pow_le_pow_right (by omega) hk8
              have h88 : (128 : Nat) ^ 8 = 72057594037927936 := (by decide)
              omega
            have HF1 := hide hfk
            have Hgn := hide hgn
            clear hfk hgn h9 h9' hs hs2
            go_wp2
            go_roundw
            case rel => exact ⟨k + 1, a + s, u * 128, by omega, by omega, by omega, by go_num, by go_num, by go_num, hide (by rw [unhide Hu, Nat.pow_succ]), Hgn, hide (by have := unhide HF1; rwa [show i + (k + 1) = i + k + 1 from by omega]), trivial⟩
            case measure => simp [intOf]; omega
          · rw [if_neg hbig] at hfk
            have tb : (z : Int) < 128 := by omega
            by_cases hz : z = 0 ∧ 0 < k
            · rw [if_pos hz] at hfk
              have HF0 := hide hfk
              have t0 : ((z : Int) == 0) = true := by simp; omega
              have tk : (0 : Int) < k := by omega
              have t9 : ((k : Int) == 9) = false := by simp; omega
              clear hfk hgn h9 h9' hs hs2 hz
              go_wp2_with fail
              refine (fault_any _ p.length c i 0 3 _).mono ?_
              rintro r w1 ⟨rfl, k1⟩
              obtain ⟨⟨c0, c1, c2⟩, f0, f1, f2⟩ := three (k1.heap (heap_alloc2_new w _ _) (by simp))
              have HK1 := hide ((((Kept.refl [] w).alloc _).alloc _).trans k1 (by simp))
              clear k1
              go_wp2
              refine bodyPost_ret (v := .tuple #[.int .u64 0, rrV (.slice (some ⟨bb, oo, none⟩) p.length c) i 3]) (by simp [results, Try.results70, go_sem, c0, c1, c2]) rfl ⟨by rw [unhide HV, ← unhide HF0]; rfl, ?_⟩
              exact (((unhide HK1).setCell (by simp) _).setCell (by simp) _).setCell (by simp) _
            · rw [if_neg hz] at hfk
              have HF1 := hide hfk
              clear hgn hs hs2 hfk
              have T := (show (((z : Int) == 0) = true ∧ ¬ (0 : Int) < k ∧ ((k : Int) == 9) = false) ∨ (((z : Int) == 0) = false ∧ ((k : Int) == 9) = false) ∨ (((z : Int) == 0) = false ∧ ((k : Int) == 9) = true ∧ ((z : Int) != 1) = false) from by
                by_cases hz0 : z = 0
                · left; refine ⟨by simp; omega, by omega, by simp; omega⟩
                · by_cases hk' : k = 9
                  · right; right; have := h9' hk'; refine ⟨by simp; omega, by simp; omega, by simp; omega⟩
                  · right; left; exact ⟨by simp; omega, by simp; omega⟩)
              clear h9 h9' hz
              rcases T with ⟨t0, tk, t9⟩ | ⟨t0, t9⟩ | ⟨t0, t9, t1⟩
              all_goals
                go_wp2_with fail
                go_region
                all_goals go_wp2
                refine bodyPost_ret (v := .tuple #[.int .u64 ((a : Int) + s), rrV (.slice (some ⟨bb, oo, none⟩) p.length c) ((i : Int) + ((k : Int) + 1)) 0]) (by simp [results, Try.results70, go_sem]) rfl ⟨by rw [unhide HV, ← unhide HF1]; simp, (by repeat (first | exact Kept.refl _ _ | apply Kept.drew | apply Kept.alloc | (refine Kept.setCell ?_ (by simp) _)))⟩
      · have e0 : p.drop (i + k) = [] := List.drop_eq_nil_of_le (by omega)
        have HF0 := hide (by rw [← unhide Hf, e0, fuv] : (0, 0) = F)
        have hi2 : (p.length : Int) ≤ (i : Int) + k := by omega
        clear e0
        go_wp2_with fail
        refine (fault_any _ p.length c i 0 3 _).mono ?_
        rintro r w1 ⟨rfl, k1⟩
        obtain ⟨⟨c0, c1, c2⟩, f0, f1, f2⟩ := three (k1.heap (heap_alloc2_new w _ _) (by simp))
        have HK1 := hide ((((Kept.refl [] w).alloc _).alloc _).trans k1 (by simp))
        clear k1
        go_wp2
        refine bodyPost_ret (v := .tuple #[.int .u64 0, rrV (.slice ao p.length c) i 3]) (by simp [results, Try.results70, go_sem, c0, c1, c2]) rfl ⟨by rw [unhide HV, ← unhide HF0]; rfl, ?_⟩
        exact (((unhide HK1).setCell (by simp) _).setCell (by simp) _).setCell (by simp) _
  · have he' : ((e : Int) != 0) = true := by rw [bne_iff_ne]; omega
    have HV := hide (by simp [rUvar, he] : rUvar p i e = (0, i, e))
    clear he h
    go_enter Try.func70, Try.ntmps70
    go_wp2_with fail
    go_region
    all_goals go_wp2
    refine bodyPost_ret (v := .tuple #[.int .u64 0, rrV (.slice ao p.length c) i e]) (by simp [results, Try.results70, go_sem]) rfl ⟨by rw [unhide HV]; rfl, (by repeat (first | exact Kept.refl _ _ | apply Kept.drew | apply Kept.alloc | (refine Kept.setCell ?_ (by simp) _)))⟩
end Go.Proofs.Ytkcanelboloihaa
