import Derived.Test.YtbbjbpjpejekgaaGen
import Derived.Deep.DeepCutAuto
import Derived.Test.YtbbjbpjpejekgaaWKw
import Derived.Test.YtbbjbpjpejekgaaTakeO
namespace Go.Proofs.Ytbbjbpjpejekgaa
open Go.RowKit
set_option linter.unusedVariables false
set_option linter.unusedSimpArgs false
attribute [local go_sem ↓] Go.wp_at_zero Go.wp_at_succ

/-- A variable of three cells, as a walk wants it. -/
theorem three {w : World} {b : Nat} {v0 v1 v2 : Value} {t : TypeId} (h : w.heap[b]? = some (.cells #[v0, v1, v2] t (0, 0))) :
    (w.cell? ⟨b, 0, none⟩ = some v0 ∧ w.cell? ⟨b, 1, none⟩ = some v1 ∧ w.cell? ⟨b, 2, none⟩ = some v2) ∧ (w.frozen? ⟨b, 0, none⟩ = false ∧ w.frozen? ⟨b, 1, none⟩ = false ∧ w.frozen? ⟨b, 2, none⟩ = false) := by
  refine ⟨⟨?_, ?_, ?_⟩, ?_, ?_, ?_⟩ <;> first | (rw [cell_of_row _ _ _ _ _ _ h]; rfl) | exact frozen_of_row _ _ _ _ _ h

/-- The document's reader as a value. -/
abbrev rrV (gv : Value) (i e : Int) : Value := .agg #[gv, .int .i64 i, .int .i64 e]

set_option maxRecDepth 100000 in
set_option maxHeartbeats 1000000 in
theorem fault_any (ao : Option Addr) (n c : Nat) (i e f : Int) (w : World) :
    Calls Try.prog 59 #[rrV (.slice ao n c) i e, .int .i64 f] w fun r w' => r = .returned (rrV (.slice ao n c) i f) ∧ Kept [] w w' := by
  go_enter Try.func59, Try.ntmps59
  go_wp2
  exact bodyPost_ret (v := .agg #[.slice ao n c, .int .i64 i, .int .i64 f]) (by simp [results, Try.results59, go_sem]) rfl ⟨rfl, ((Kept.refl [] w).alloc _).alloc _⟩

set_option maxRecDepth 100000 in
set_option maxHeartbeats 4000000 in
theorem takeWide_any (ao : Option Addr) (c : Nat) (p : List Nat) (i e n : Nat) (w : World) (h : Rd w (.slice ao p.length c) p) (hi : i ≤ p.length) (hn : n ≤ 8) :
    Calls Try.prog 54 #[rrV (.slice ao p.length c) i e, .int .i64 n] w fun r w' => r = .returned (.tuple #[.int .u64 (rNum p i e n).1, rrV (.slice ao p.length c) (rNum p i e n).2.1 (rNum p i e n).2.2]) ∧ Kept [] w w' := by
  have hl := h.len
  by_cases he : e = 0
  · subst he
    by_cases hs : p.length - i < n
    · have HV := hide (by simp [rNum, hs] : rNum p i 0 n = (0, i, 3))
      have hs' : (p.length : Int) - i < n := by omega
      clear h
      go_enter Try.func54, Try.ntmps54
      go_wp2_with fail
      refine (fault_any ao p.length c i 0 3 _).mono ?_
      rintro r w1 ⟨rfl, k1⟩
      obtain ⟨⟨c0, c1, c2⟩, f0, f1, f2⟩ := three (k1.heap (heap_alloc2_new w _ _) (by simp))
      have HK1 := hide ((((Kept.refl [] w).alloc _).alloc _).trans k1 (by simp))
      have hsz : w.heap.size ≤ w.heap.size + 1 := by omega
      clear k1
      go_wp2
      refine bodyPost_ret (v := .tuple #[.int .u64 0, rrV (.slice ao p.length c) i 3]) (by simp [results, Try.results54, go_sem, c0, c1, c2]) rfl ⟨by rw [unhide HV]; rfl, ?_⟩
      exact (((unhide HK1).setCell (by simp) _).setCell (by simp) _).setCell (by simp) _
    · have HV := hide (by simp [rNum, hs] : rNum p i 0 n = (beL ((p.drop i).take n), i + n, 0))
      have hs' : ¬ (p.length : Int) - i < n := by omega
      have hq : ∀ k, k < n → (p.drop i).getD k 0 = p.getD (i + k) 0 := fun k hk => by simp [List.getD_eq_getElem?_getD]
      have hsn : ∀ k, k < n → beL (((p.drop i).take n).take (k + 1)) = (beL (((p.drop i).take n).take k) * 256 + p.getD (i + k) 0) % 18446744073709551616 := fun k hk => by
        rw [beL_snoc _ k (by simp; omega)]
        congr 2
        simp [List.getD_eq_getElem?_getD, List.getElem?_take, hk]
      have hlt64 : ∀ k, beL (((p.drop i).take n).take k) < 18446744073709551616 := fun k => beL_lt _
      have hfull : ((p.drop i).take n).take n = (p.drop i).take n := by rw [List.take_take, Nat.min_self]
      obtain ⟨ao', len', cap', hE, _, h2, ⟨h3, h3'⟩, h4, h5, h6⟩ := h
      cases hE
      have hgb := fun k => getD_byte h5 k
      have H6 := hide h6
      have Hsn := hide hsn
      have Hlt := hide hlt64
      have Hgb := hide hgb
      obtain ⟨q, hqq⟩ : ∃ q, (p.drop i).take n = q := ⟨_, rfl⟩
      rw [hqq] at HV Hsn Hlt hfull
      have Hfull := hide hfull
      clear h6 h4 h5 hsn hlt64 hgb hq hqq hfull
      go_enter Try.func54, Try.ntmps54
      go_wp2_with fail
      go_loopw [6, 7] (fun t6 t7 wr => ∃ k : Nat, k ≤ n ∧ t7 = .int .i64 k ∧ t6 = .int .u64 (beL (q.take k)) ∧ wr = (w.alloc (.cells #[.slice ao p.length c, .int .i64 i, .int .i64 0] 56)).alloc (.cells #[.slice none 0 0, .int .i64 0, .int .i64 0] 56)) (fun _ i _ => n - (intOf i).toNat)
      case atStart => exact ⟨0, Nat.zero_le _, rfl, by simp [beL], rfl⟩
      case round =>
        obtain ⟨k, hk, rfl, rfl, rfl⟩ := hrel
        by_cases hlt : k < n
        · obtain ⟨bb, oo, rfl, hc⟩ := unhide H6 (by omega)
          have hck := hc (i + k) (by omega)
          have hbb : bb < w.heap.size := block_lt_of_cell hck
          have hb1 := unhide Hgb (i + k)
          have hs1 := unhide Hsn k hlt
          have ha1 := unhide Hlt k
          obtain ⟨z, hz⟩ : ∃ z, p.getD (i + k) 0 = z := ⟨_, rfl⟩
          obtain ⟨a, ha⟩ : ∃ a, beL (q.take k) = a := ⟨_, rfl⟩
          obtain ⟨a', ha'⟩ : ∃ a', beL (q.take (k + 1)) = a' := ⟨_, rfl⟩
          rw [hz] at hck hb1 hs1
          rw [ha] at hs1 ha1 ⊢
          rw [ha'] at hs1
          have Ha' := hide ha'
          have hval : IntKind.u64.wrap (IntKind.u64.wrap ((a : Int) * 256) + (z : Int)) = (a' : Int) := by rw [hs1, IntKind.wrap_u64, IntKind.wrap_u64]; omega
          have hval2 : IntKind.u64.wrap ((a : Int) * 256 % 18446744073709551616 + (z : Int)) = (a' : Int) := by rw [hs1, IntKind.wrap_u64]; omega
          have hi0 : (0 : Int) ≤ (i : Int) + k := by omega
          have hi1 : (i : Int) + k < p.length := by omega
          have hlt' : (k : Int) < n := by omega
          have Hv := hide hval
          have Hs1 := hide hs1
          clear hc hz ha ha' hs1
          go_wp2
          go_roundw
          case rel => exact ⟨k + 1, by omega, by go_num, by rw [unhide Ha'], trivial⟩
          case measure => simp [intOf]; omega
        · have hkn : k = n := by omega
          subst hkn
          have hlt' : ¬ (k : Int) < k := by omega
          rw [unhide Hfull]
          obtain ⟨a, ha⟩ : ∃ a, beL q = a := ⟨_, rfl⟩
          rw [ha] at HV ⊢
          clear ha
          go_wp2_with fail
          go_region
          all_goals go_wp2
          refine bodyPost_ret (v := .tuple #[.int .u64 a, rrV (.slice ao p.length c) ((i : Int) + k) 0]) (by simp [results, Try.results54, go_sem]) rfl ⟨by rw [unhide HV]; simp, (by repeat (first | exact Kept.refl _ _ | apply Kept.drew | apply Kept.alloc | (refine Kept.setCell ?_ (by simp) _)))⟩
  · have he' : ((e : Int) != 0) = true := by rw [bne_iff_ne]; omega
    have HV := hide (by simp [rNum, he] : rNum p i e n = (0, i, e))
    clear he h
    go_enter Try.func54, Try.ntmps54
    go_wp2_with fail
    go_region
    all_goals go_wp2
    refine bodyPost_ret (v := .tuple #[.int .u64 0, rrV (.slice ao p.length c) i e]) (by simp [results, Try.results54, go_sem]) rfl ⟨by rw [unhide HV]; rfl, (by repeat (first | exact Kept.refl _ _ | apply Kept.drew | apply Kept.alloc | (refine Kept.setCell ?_ (by simp) _)))⟩

set_option maxRecDepth 100000 in
set_option maxHeartbeats 4000000 in
theorem takeUvar_any (ao : Option Addr) (c : Nat) (p : List Nat) (i e : Nat) (w : World) (h : Rd w (.slice ao p.length c) p) (hi : i ≤ p.length) :
    Calls Try.prog 55 #[rrV (.slice ao p.length c) i e] w fun r w' => r = .returned (.tuple #[.int .u64 (rUvar p i e).1, rrV (.slice ao p.length c) (rUvar p i e).2.1 (rUvar p i e).2.2]) ∧ Kept [] w w' := by
  have hl := h.len
  by_cases he : e = 0
  · subst he
    have HV := hide (by simp [rUvar] : rUvar p i 0 = if (fuv (p.drop i) 0 0).2 = 0 then (0, i, 3) else ((fuv (p.drop i) 0 0).1, i + (fuv (p.drop i) 0 0).2, 0))
    obtain ⟨ao', len', cap', hE, _, h2, ⟨h3, h3'⟩, h4, h5, h6⟩ := h
    cases hE
    have hgb := fun k => getD_byte h5 k
    have H6 := hide h6
    have Hgb := hide hgb
    obtain ⟨F, hF⟩ : ∃ F, fuv (p.drop i) 0 0 = F := ⟨_, rfl⟩
    rw [hF] at HV
    have HF := hide hF
    clear h6 h4 h5 hgb hF
    go_enter Try.func55, Try.ntmps55
    go_wp2_with fail
    go_loopw [4, 5, 6, 7] (fun t4 t5 t6 t7 wr => ∃ k a u : Nat, k ≤ 9 ∧ i + k ≤ p.length ∧ u ≤ 9223372036854775808 ∧ t6 = .int .i64 k ∧ t4 = .int .u64 a ∧ t5 = .int .u64 u ∧ Hid (u = 128 ^ k) ∧ Hid (a < 128 ^ k) ∧ Hid (fuv (p.drop (i + k)) k a = F) ∧ wr = (w.alloc (.cells #[.slice ao p.length c, .int .i64 i, .int .i64 0] 56)).alloc (.cells #[.slice none 0 0, .int .i64 0, .int .i64 0] 56)) (fun _ _ i _ _ => 10 - (intOf i).toNat)
    case atStart => exact ⟨0, 0, 1, by omega, by omega, by omega, rfl, rfl, rfl, hide (by simp), hide (by simp), HF, rfl⟩
    case round =>
      obtain ⟨k, a, u, hk9, hik, hu, rfl, rfl, rfl, Hu, Ha, Hf, rfl⟩ := hrel
      have hk10 : (k : Int) < 10 := by omega
      by_cases hlt : i + k < p.length
      · obtain ⟨bb, oo, rfl, hc⟩ := unhide H6 (by omega)
        have hck := hc (i + k) hlt
        have hbb : bb < w.heap.size := block_lt_of_cell hck
        have hcb := unhide Hgb (i + k)
        have hfk := unhide Hf
        rw [drop_cons hlt, fuv] at hfk
        obtain ⟨z, hz⟩ : ∃ z, p.getD (i + k) 0 = z := ⟨_, rfl⟩
        rw [hz] at hck hcb hfk
        have hi0 : (0 : Int) ≤ (i : Int) + k := by omega
        have hi1 : (i : Int) + k < p.length := by omega
        have hi2 : ¬ (p.length : Int) ≤ (i : Int) + k := by omega
        clear hc hz
        by_cases h9 : k = 9 ∧ z ≠ 1
        · rw [if_pos h9] at hfk
          have t9 : ((k : Int) == 9) = true := by simp; omega
          have t1 : ((z : Int) != 1) = true := by rw [bne_iff_ne]; omega
          have HF0 := hide hfk
          clear hfk h9
          go_wp2_with fail
          refine (fault_any _ p.length c i 0 3 _).mono ?_
          rintro r w1 ⟨rfl, k1⟩
          obtain ⟨⟨c0, c1, c2⟩, f0, f1, f2⟩ := three (k1.heap (heap_alloc2_new w _ _) (by simp))
          have HK1 := hide ((((Kept.refl [] w).alloc _).alloc _).trans k1 (by simp))
          clear k1
          go_wp2
          refine bodyPost_ret (v := .tuple #[.int .u64 0, rrV (.slice (some ⟨bb, oo, none⟩) p.length c) i 3]) (by simp [results, Try.results55, go_sem, c0, c1, c2]) rfl ⟨by rw [unhide HV, ← unhide HF0]; rfl, ?_⟩
          exact (((unhide HK1).setCell (by simp) _).setCell (by simp) _).setCell (by simp) _
        · rw [if_neg h9] at hfk
          have h9' : k = 9 → z = 1 := by intro h; omega
          have hgl := group_lt k z hk9 h9'
          have hgn := group_next k z a (unhide Ha)
          rw [← unhide Hu] at hgl
          have hp9 : 128 ^ k ≤ 128 ^ 9 := Nat.pow_le_pow_right (by omega) hk9
          have h99 : (128 : Nat) ^ 9 = 9223372036854775808 := (by decide)
          have haa := unhide Ha
          obtain ⟨s, hs⟩ : ∃ s, z % 128 * u = s := ⟨_, rfl⟩
          rw [hs] at hgl
          have hs2 : z % 128 * 128 ^ k = s := by rw [← unhide Hu]; exact hs
          rw [hs2] at hfk hgn
          have hm : IntKind.u64.wrap ((z : Int) % 128 * (u : Int)) = (s : Int) := by
            rw [show ((z : Int) % 128 * (u : Int)) = ((z % 128 * u : Nat) : Int) from by simp, hs, IntKind.wrap_u64]; omega
          have hsum : (a : Int) + s ≤ 18446744073709551615 := by
            rcases Nat.lt_or_ge k 9 with h | h
            · have : 128 ^ (k + 1) ≤ 128 ^ 9 := Nat.pow_le_pow_right (by omega) (by omega)
              omega
            · have hk : k = 9 := by omega
              have hz1 := h9' hk
              subst hz1
              have : s = u := by rw [← hs]; simp
              have hu9 := unhide Hu
              rw [hk, h99] at hu9
              rw [hk, h99] at haa
              omega
          clear hp9 haa
          by_cases hbig : 128 ≤ z
          · rw [if_pos hbig] at hfk
            have hk8 : k ≤ 8 := by omega
            have t9 : ((k : Int) == 9) = false := by simp; omega
            have tb : ¬ (z : Int) < 128 := by omega
            have hu8 : u ≤ 72057594037927936 := by
              rw [unhide Hu]
              have : 128 ^ k ≤ 128 ^ 8 := Nat.pow_le_pow_right (by omega) hk8
              have h88 : (128 : Nat) ^ 8 = 72057594037927936 := (by decide)
              omega
            have HF1 := hide hfk
            have Hgn := hide hgn
            clear hfk hgn h9 h9' hs hs2
            go_wp2
            go_roundw
            case rel => exact ⟨k + 1, a + s, u * 128, by omega, by omega, by omega, by go_num, by go_num, by go_num, hide (by rw [unhide Hu, Nat.pow_succ]), Hgn, hide (by have := unhide HF1; rwa [show i + (k + 1) = i + k + 1 from by omega]), trivial⟩
            case measure => simp [intOf]; omega
          · rw [if_neg hbig] at hfk
            have tb : (z : Int) < 128 := by omega
            by_cases hz : z = 0 ∧ 0 < k
            · rw [if_pos hz] at hfk
              have HF0 := hide hfk
              have t0 : ((z : Int) == 0) = true := by simp; omega
              have tk : (0 : Int) < k := by omega
              have t9 : ((k : Int) == 9) = false := by simp; omega
              clear hfk hgn h9 h9' hs hs2 hz
              go_wp2_with fail
              refine (fault_any _ p.length c i 0 3 _).mono ?_
              rintro r w1 ⟨rfl, k1⟩
              obtain ⟨⟨c0, c1, c2⟩, f0, f1, f2⟩ := three (k1.heap (heap_alloc2_new w _ _) (by simp))
              have HK1 := hide ((((Kept.refl [] w).alloc _).alloc _).trans k1 (by simp))
              clear k1
              go_wp2
              refine bodyPost_ret (v := .tuple #[.int .u64 0, rrV (.slice (some ⟨bb, oo, none⟩) p.length c) i 3]) (by simp [results, Try.results55, go_sem, c0, c1, c2]) rfl ⟨by rw [unhide HV, ← unhide HF0]; rfl, ?_⟩
              exact (((unhide HK1).setCell (by simp) _).setCell (by simp) _).setCell (by simp) _
            · rw [if_neg hz] at hfk
              have HF1 := hide hfk
              clear hgn hs hs2 hfk
              have T := (show (((z : Int) == 0) = true ∧ ¬ (0 : Int) < k ∧ ((k : Int) == 9) = false) ∨ (((z : Int) == 0) = false ∧ ((k : Int) == 9) = false) ∨ (((z : Int) == 0) = false ∧ ((k : Int) == 9) = true ∧ ((z : Int) != 1) = false) from by
                by_cases hz0 : z = 0
                · left; refine ⟨by simp; omega, by omega, by simp; omega⟩
                · by_cases hk' : k = 9
                  · right; right; have := h9' hk'; refine ⟨by simp; omega, by simp; omega, by simp; omega⟩
                  · right; left; exact ⟨by simp; omega, by simp; omega⟩)
              clear h9 h9' hz
              rcases T with ⟨t0, tk, t9⟩ | ⟨t0, t9⟩ | ⟨t0, t9, t1⟩
              all_goals
                go_wp2_with fail
                go_region
                all_goals go_wp2
                refine bodyPost_ret (v := .tuple #[.int .u64 ((a : Int) + s), rrV (.slice (some ⟨bb, oo, none⟩) p.length c) ((i : Int) + ((k : Int) + 1)) 0]) (by simp [results, Try.results55, go_sem]) rfl ⟨by rw [unhide HV, ← unhide HF1]; simp, (by repeat (first | exact Kept.refl _ _ | apply Kept.drew | apply Kept.alloc | (refine Kept.setCell ?_ (by simp) _)))⟩
      · have e0 : p.drop (i + k) = [] := List.drop_eq_nil_of_le (by omega)
        have HF0 := hide (by rw [← unhide Hf, e0, fuv] : (0, 0) = F)
        have hi2 : (p.length : Int) ≤ (i : Int) + k := by omega
        clear e0
        go_wp2_with fail
        refine (fault_any _ p.length c i 0 3 _).mono ?_
        rintro r w1 ⟨rfl, k1⟩
        obtain ⟨⟨c0, c1, c2⟩, f0, f1, f2⟩ := three (k1.heap (heap_alloc2_new w _ _) (by simp))
        have HK1 := hide ((((Kept.refl [] w).alloc _).alloc _).trans k1 (by simp))
        clear k1
        go_wp2
        refine bodyPost_ret (v := .tuple #[.int .u64 0, rrV (.slice ao p.length c) i 3]) (by simp [results, Try.results55, go_sem, c0, c1, c2]) rfl ⟨by rw [unhide HV, ← unhide HF0]; rfl, ?_⟩
        exact (((unhide HK1).setCell (by simp) _).setCell (by simp) _).setCell (by simp) _
  · have he' : ((e : Int) != 0) = true := by rw [bne_iff_ne]; omega
    have HV := hide (by simp [rUvar, he] : rUvar p i e = (0, i, e))
    clear he h
    go_enter Try.func55, Try.ntmps55
    go_wp2_with fail
    go_region
    all_goals go_wp2
    refine bodyPost_ret (v := .tuple #[.int .u64 0, rrV (.slice ao p.length c) i e]) (by simp [results, Try.results55, go_sem]) rfl ⟨by rw [unhide HV]; rfl, (by repeat (first | exact Kept.refl _ _ | apply Kept.drew | apply Kept.alloc | (refine Kept.setCell ?_ (by simp) _)))⟩
end Go.Proofs.Ytbbjbpjpejekgaa
namespace Go.Proofs.Ytbbjbpjpejekgaa
open Go.RowKit
set_option linter.unusedVariables false
set_option linter.unusedSimpArgs false
attribute [local go_sem ↓] Go.wp_at_zero Go.wp_at_succ

set_option maxRecDepth 100000 in
set_option maxHeartbeats 4000000 in
theorem takeRaw_any (ao : Option Addr) (c : Nat) (p : List Nat) (i e : Nat) (n : Int) (w : World) (h : Rd w (.slice ao p.length c) p) (hi : i ≤ p.length) (hn : -9223372036854775808 ≤ n ∧ n ≤ 9223372036854775807) :
    Calls Try.prog 56 #[rrV (.slice ao p.length c) i e, .int .i64 n] w fun r w' => ∃ rv, r = .returned (.tuple #[rv, rrV (.slice ao p.length c) (rRaw p i e n).2.1 (rRaw p i e n).2.2]) ∧ Rd w' rv (rRaw p i e n).1 ∧ Kept [] w w' ∧ ∀ x ∈ blk rv, w.heap.size ≤ x := by
  have hl := h.len
  by_cases he : e = 0
  · subst he
    by_cases hn0 : n < 0
    · have HV := hide (by simp [rRaw, hn0] : rRaw p i 0 n = ([], i, 1))
      clear h
      go_enter Try.func56, Try.ntmps56
      go_wp2_with fail
      refine (fault_any _ p.length c i 0 1 _).mono ?_
      rintro r w1 ⟨rfl, k1⟩
      obtain ⟨⟨c0, c1, c2⟩, f0, f1, f2⟩ := three (k1.heap (heap_alloc2_new w _ _) (by simp))
      have HK1 := hide ((((Kept.refl [] w).alloc _).alloc _).trans k1 (by simp))
      clear k1
      go_wp2
      refine bodyPost_ret (v := .tuple #[.slice none 0 0, rrV (.slice ao p.length c) i 1]) (by simp [results, Try.results56, go_sem, c0, c1, c2]) rfl ?_
      rw [unhide HV]
      exact ⟨_, rfl, Rd.nil _, (((unhide HK1).setCell (by simp) _).setCell (by simp) _).setCell (by simp) _, by simp [blk]⟩
    · obtain ⟨k, rfl⟩ : ∃ k : Nat, n = k := ⟨n.toNat, by omega⟩
      by_cases hs : p.length - i < k
      · have HV := hide (by have h2 : (p.length : Int) - i < k := (by omega); simp [rRaw, h2] : rRaw p i 0 k = ([], i, 3))
        have hs' : (p.length : Int) - i < k := by omega
        clear h
        go_enter Try.func56, Try.ntmps56
        go_wp2_with fail
        refine (fault_any _ p.length c i 0 3 _).mono ?_
        rintro r w1 ⟨rfl, k1⟩
        obtain ⟨⟨c0, c1, c2⟩, f0, f1, f2⟩ := three (k1.heap (heap_alloc2_new w _ _) (by simp))
        have HK1 := hide ((((Kept.refl [] w).alloc _).alloc _).trans k1 (by simp))
        clear k1
        go_wp2
        refine bodyPost_ret (v := .tuple #[.slice none 0 0, rrV (.slice ao p.length c) i 3]) (by simp [results, Try.results56, go_sem, c0, c1, c2]) rfl ?_
        rw [unhide HV]
        exact ⟨_, rfl, Rd.nil _, (((unhide HK1).setCell (by simp) _).setCell (by simp) _).setCell (by simp) _, by simp [blk]⟩
      · have HV := hide (by have h2 : ¬ (p.length : Int) - i < k := (by omega); simp [rRaw, h2] : rRaw p i 0 k = ((p.drop i).take k, i + k, 0))
        have hs' : ¬ (p.length : Int) - i < k := by omega
        have hik : (i : Int) + k ≤ p.length := by omega
        have hi0 : (0 : Int) ≤ i := by omega
        have hk0 : (0 : Int) ≤ k := by omega
        have HR := hide h
        have hcc : (p.length : Int) ≤ c := by obtain ⟨_, _, _, hE, _, h2, _⟩ := h; cases hE; omega
        have hc2 : (c : Int) ≤ 9223372036854775807 := by obtain ⟨_, _, _, hE, _, _, ⟨h3, _⟩, _⟩ := h; cases hE; omega
        clear h
        go_enter Try.func56, Try.ntmps56
        go_wp2_with fail
        all_goals
          have hl2 : ((p.drop i).take k).length = k := by simp; omega
          have hby : ∀ y ∈ (p.drop i).take k, y < 256 := fun y hy => (unhide HR).byte y (List.mem_of_mem_drop (List.mem_of_mem_take hy))
          refine (twin_any _ ((p.drop i).take k) _ (by first | exact ((unhide HR).sub0 (by assumption) (by omega)).old (((Kept.refl [] w).alloc _).alloc _) (by simp) | exact ((unhide HR).sub (by omega)).old (((Kept.refl [] w).alloc _).alloc _) (by simp))).mono ?_
          rintro r w1 ⟨rfl, k1, h1⟩
          have hfr := rd_fresh h1 hby (by omega)
          rw [hl2] at hfr ⊢
          have HRf := hide hfr
          obtain ⟨⟨b0, b1, b2⟩, g0, g1, g2⟩ := three (k1.heap (heap_alloc2_old w _ _) (by simp))
          obtain ⟨⟨c0, c1, c2⟩, f0, f1, f2⟩ := three (k1.heap (heap_alloc2_new w _ _) (by simp))
          have hlt1 := lt_of_block h1
          have HK1 := hide ((((Kept.refl [] w).alloc _).alloc _).trans k1 (by simp))
          have hsz1 : w.heap.size + 2 < w1.heap.size := by simp at hlt1; omega
          clear k1 h1 hfr hlt1
          go_wp2_with fail
          go_region
          all_goals go_wp2
          refine bodyPost_ret (v := .tuple #[.slice (some ⟨w.heap.size + 1 + 1, 0, none⟩) k k, rrV (.slice ao p.length c) ((i : Int) + k) 0]) (by simp [results, Try.results56, go_sem, b0, b1, b2, c0, c1, c2] <;> omega) rfl ?_
          rw [unhide HV]
          refine ⟨.slice (some ⟨w.heap.size + 1 + 1, 0, none⟩) k k, by simp, ?_, ?_, by simp [blk]; omega⟩
          · have h7 := unhide HRf
            have h7' : Rd w1 (.slice (some ⟨w.heap.size + 1 + 1, 0, none⟩) k k) ((p.drop i).take k) := by simpa using h7
            exact h7'.kept (L := [w.heap.size, w.heap.size + 1]) (by repeat (first | exact Kept.refl _ _ | apply Kept.drew | apply Kept.alloc | (refine Kept.setCell ?_ (by simp) _))) (by simp [blk]; omega)
          · exact (unhide HK1).trans (M := [w.heap.size, w.heap.size + 1]) (by repeat (first | exact Kept.refl _ _ | apply Kept.drew | apply Kept.alloc | (refine Kept.setCell ?_ (by simp) _))) (by simp)
  · have he' : ((e : Int) != 0) = true := by rw [bne_iff_ne]; omega
    have HV := hide (by simp [rRaw, he] : rRaw p i e n = ([], i, e))
    clear he h
    go_enter Try.func56, Try.ntmps56
    go_wp2_with fail
    go_region
    all_goals go_wp2
    refine bodyPost_ret (v := .tuple #[.slice none 0 0, rrV (.slice ao p.length c) i e]) (by simp [results, Try.results56, go_sem]) rfl ?_
    rw [unhide HV]
    exact ⟨_, rfl, Rd.nil _, (by repeat (first | exact Kept.refl _ _ | apply Kept.drew | apply Kept.alloc | (refine Kept.setCell ?_ (by simp) _))), by simp [blk]⟩
end Go.Proofs.Ytbbjbpjpejekgaa
namespace Go.Proofs.Ytbbjbpjpejekgaa
open Go.RowKit
set_option linter.unusedVariables false
set_option linter.unusedSimpArgs false
attribute [local go_sem ↓] Go.wp_at_zero Go.wp_at_succ

set_option maxRecDepth 100000 in
set_option maxHeartbeats 4000000 in
theorem takeBlob_any (ao : Option Addr) (c : Nat) (p : List Nat) (i e : Nat) (n : Int) (w : World) (h : Rd w (.slice ao p.length c) p) (hi : i ≤ p.length) (hn : -9223372036854775808 ≤ n ∧ n ≤ 9223372036854775807) :
    Calls Try.prog 57 #[rrV (.slice ao p.length c) i e, .int .i64 n] w fun r w' => ∃ rv, r = .returned (.tuple #[rv, rrV (.slice ao p.length c) (rBlob p i e n).2.1 (rBlob p i e n).2.2]) ∧ Rd w' rv (rBlob p i e n).1 ∧ Kept [] w w' ∧ ∀ x ∈ blk rv, w.heap.size ≤ x := by
  have hl := h.len
  have HR := hide h
  by_cases he : e = 0
  · subst he
    have HVdef := hide (by simp only [rBlob, ne_eq, not_true_eq_false, if_false] : rBlob p i 0 n = if n < 0 then ([], i, 1) else if (fuv (p.drop i) 0 0).2 = 0 then ([], i, 3) else if n < (fuv (p.drop i) 0 0).1 then ([], i, 2) else if (p.drop i).length - (fuv (p.drop i) 0 0).2 < (fuv (p.drop i) 0 0).1 then ([], i, 3) else (((p.drop i).drop (fuv (p.drop i) 0 0).2).take (fuv (p.drop i) 0 0).1, i + ((fuv (p.drop i) 0 0).2 + (fuv (p.drop i) 0 0).1), 0))
    have HU0 := hide (by simp [rUvar] : rUvar p i 0 = if (fuv (p.drop i) 0 0).2 = 0 then (0, i, 3) else ((fuv (p.drop i) 0 0).1, i + (fuv (p.drop i) 0 0).2, 0))
    have hfl := fuv_le (p.drop i) 0 0
    have hfx := fuv_lt (p.drop i) 0 0 (by decide) (by decide)
    obtain ⟨x, s, hx⟩ : ∃ x s, fuv (p.drop i) 0 0 = (x, s) := ⟨_, _, rfl⟩
    rw [hx] at HVdef HU0 hfl hfx
    simp only [Nat.zero_add, List.length_drop] at HVdef HU0 hfl hfx
    have hx' : (x : Int) ≤ 18446744073709551615 := by omega
    clear hx h
    by_cases hn0 : n < 0
    · have HV := hide (by rw [unhide HVdef, if_pos hn0] : rBlob p i 0 n = ([], i, 1))
      go_enter Try.func57, Try.ntmps57
      go_wp2_with fail
      refine (fault_any _ p.length c i 0 1 _).mono ?_
      rintro r w1 ⟨rfl, k1⟩
      obtain ⟨⟨c0, c1, c2⟩, f0, f1, f2⟩ := three (k1.heap (heap_alloc2_new w _ _) (by simp))
      have HK1 := hide ((((Kept.refl [] w).alloc _).alloc _).trans k1 (by simp))
      clear k1
      go_wp2
      refine bodyPost_ret (v := .tuple #[.slice none 0 0, rrV (.slice ao p.length c) i 1]) (by simp [results, Try.results57, go_sem, c0, c1, c2]) rfl ?_
      rw [unhide HV]
      exact ⟨_, rfl, Rd.nil _, (((unhide HK1).setCell (by simp) _).setCell (by simp) _).setCell (by simp) _, by simp [blk]⟩
    · obtain ⟨mo, rfl⟩ : ∃ mo : Nat, n = mo := ⟨n.toNat, by omega⟩
      have HV2 := hide (by rw [unhide HVdef, if_neg hn0] : rBlob p i 0 mo = if s = 0 then ([], i, 3) else if (mo : Int) < x then ([], i, 2) else if p.length - i - s < x then ([], i, 3) else (((p.drop i).drop s).take x, i + (s + x), 0))
      have hmo : (0 : Int) ≤ mo := by omega
      have hmo2 : (mo : Int) ≤ 9223372036854775807 := hn.2
      clear HVdef
      by_cases hs0 : s = 0
      · have HV := hide (by rw [unhide HV2, if_pos hs0] : rBlob p i 0 mo = ([], i, 3))
        have HU := hide (by rw [unhide HU0, if_pos hs0] : rUvar p i 0 = (0, i, 3))
        go_enter Try.func57, Try.ntmps57
        go_wp2_with fail
        refine (takeUvar_any ao c p i 0 _ (by exact (unhide HR).old (((Kept.refl [] w).alloc _).alloc _) (by simp)) hi).mono ?_
        rintro r w1 ⟨rfl, k1⟩
        rw [unhide HU]
        simp only
        obtain ⟨⟨b0, b1, b2⟩, g0, g1, g2⟩ := three (k1.heap (heap_alloc2_old w _ _) (by simp))
        obtain ⟨⟨c0, c1, c2⟩, f0, f1, f2⟩ := three (k1.heap (heap_alloc2_new w _ _) (by simp))
        have HK1 := hide ((((Kept.refl [] w).alloc _).alloc _).trans k1 (by simp))
        have hB0 := hide (k1.heap (heap_alloc2_old w _ _) (by simp))
        have hB1 := hide (k1.heap (heap_alloc2_new w _ _) (by simp))
        have hsz1 : w.heap.size + 1 < w1.heap.size := by have := k1.size; simp at this; omega
        have hsz0 : w.heap.size < w1.heap.size := by omega
        clear k1
        go_wp2_with fail
        refine (fault_any _ p.length c i 0 3 _).mono ?_
        rintro r w2 ⟨rfl, k2⟩
        obtain ⟨⟨d0, d1, d2⟩, e0, e1, e2⟩ := three (k2.heap (Below.heap_alloc w1 _ _ hsz1 ▸ unhide hB1 : (w1.alloc _).heap[w.heap.size + 1]? = _) (by simp))
        have HK2 := hide (((unhide HK1).alloc _).trans k2 (by simp))
        clear k2
        go_wp2
        refine bodyPost_ret (v := .tuple #[.slice none 0 0, rrV (.slice ao p.length c) i 3]) (by simp [results, Try.results57, go_sem, d0, d1, d2]) rfl ?_
        rw [unhide HV]
        exact ⟨_, rfl, Rd.nil _, (((unhide HK2).setCell (by simp) _).setCell (by simp) _).setCell (by simp) _, by simp [blk]⟩
      · have HU := hide (by rw [unhide HU0, if_neg hs0] : rUvar p i 0 = (x, i + s, 0))
        by_cases hm : (mo : Int) < x
        · have HV := hide (by rw [unhide HV2, if_neg hs0, if_pos hm] : rBlob p i 0 mo = ([], i, 2))
          go_enter Try.func57, Try.ntmps57
          go_wp2_with fail
          refine (takeUvar_any ao c p i 0 _ (by exact (unhide HR).old (((Kept.refl [] w).alloc _).alloc _) (by simp)) hi).mono ?_
          rintro r w1 ⟨rfl, k1⟩
          rw [unhide HU]
          simp only
          obtain ⟨⟨b0, b1, b2⟩, g0, g1, g2⟩ := three (k1.heap (heap_alloc2_old w _ _) (by simp))
          obtain ⟨⟨c0, c1, c2⟩, f0, f1, f2⟩ := three (k1.heap (heap_alloc2_new w _ _) (by simp))
          have HK1 := hide ((((Kept.refl [] w).alloc _).alloc _).trans k1 (by simp))
          have hB0 := hide (k1.heap (heap_alloc2_old w _ _) (by simp))
          have hB1 := hide (k1.heap (heap_alloc2_new w _ _) (by simp))
          have hsz1 : w.heap.size + 1 < w1.heap.size := by have := k1.size; simp at this; omega
          have hsz0 : w.heap.size < w1.heap.size := by omega
          clear k1
          go_wp2_with fail
          refine (fault_any _ p.length c i 0 2 _).mono ?_
          rintro r w2 ⟨rfl, k2⟩
          obtain ⟨⟨d0, d1, d2⟩, e0, e1, e2⟩ := three (k2.heap (Below.heap_alloc w1 _ _ hsz1 ▸ unhide hB1 : (w1.alloc _).heap[w.heap.size + 1]? = _) (by simp))
          have HK2 := hide (((unhide HK1).alloc _).trans k2 (by simp))
          clear k2
          go_wp2
          refine bodyPost_ret (v := .tuple #[.slice none 0 0, rrV (.slice ao p.length c) i 2]) (by simp [results, Try.results57, go_sem, d0, d1, d2]) rfl ?_
          rw [unhide HV]
          exact ⟨_, rfl, Rd.nil _, (((unhide HK2).setCell (by simp) _).setCell (by simp) _).setCell (by simp) _, by simp [blk]⟩
        · by_cases hlt : p.length - i - s < x
          · have HV := hide (by rw [unhide HV2, if_neg hs0, if_neg hm, if_pos hlt] : rBlob p i 0 mo = ([], i, 3))
            have hlt' : (p.length : Int) - ((i : Int) + s) < x := by omega
            go_enter Try.func57, Try.ntmps57
            go_wp2_with fail
            refine (takeUvar_any ao c p i 0 _ (by exact (unhide HR).old (((Kept.refl [] w).alloc _).alloc _) (by simp)) hi).mono ?_
            rintro r w1 ⟨rfl, k1⟩
            rw [unhide HU]
            simp only
            obtain ⟨⟨b0, b1, b2⟩, g0, g1, g2⟩ := three (k1.heap (heap_alloc2_old w _ _) (by simp))
            obtain ⟨⟨c0, c1, c2⟩, f0, f1, f2⟩ := three (k1.heap (heap_alloc2_new w _ _) (by simp))
            have HK1 := hide ((((Kept.refl [] w).alloc _).alloc _).trans k1 (by simp))
            have hB0 := hide (k1.heap (heap_alloc2_old w _ _) (by simp))
            have hB1 := hide (k1.heap (heap_alloc2_new w _ _) (by simp))
            have hsz1 : w.heap.size + 1 < w1.heap.size := by have := k1.size; simp at this; omega
            have hsz0 : w.heap.size < w1.heap.size := by omega
            clear k1
            go_wp2_with fail
            refine (fault_any _ p.length c i 0 3 _).mono ?_
            rintro r w2 ⟨rfl, k2⟩
            obtain ⟨⟨d0, d1, d2⟩, e0, e1, e2⟩ := three (k2.heap (Below.heap_alloc w1 _ _ hsz1 ▸ unhide hB1 : (w1.alloc _).heap[w.heap.size + 1]? = _) (by simp))
            have HK2 := hide (((unhide HK1).alloc _).trans k2 (by simp))
            clear k2
            go_wp2
            refine bodyPost_ret (v := .tuple #[.slice none 0 0, rrV (.slice ao p.length c) i 3]) (by simp [results, Try.results57, go_sem, d0, d1, d2]) rfl ?_
            rw [unhide HV]
            exact ⟨_, rfl, Rd.nil _, (((unhide HK2).setCell (by simp) _).setCell (by simp) _).setCell (by simp) _, by simp [blk]⟩
          · have HV := hide (by rw [unhide HV2, if_neg hs0, if_neg hm, if_neg hlt] : rBlob p i 0 mo = (((p.drop i).drop s).take x, i + (s + x), 0))
            have hlt' : ¬ (p.length : Int) - ((i : Int) + s) < x := by omega
            have hx47 : (x : Int) ≤ 140737488355328 := by omega
            have HRR := hide (by have h2 : ¬ (p.length : Int) - ((i + s : Nat) : Int) < (x : Int) := (by omega); simp only [rRaw, ne_eq, not_true_eq_false, if_false]; rw [if_neg (by omega), if_neg h2]; simp : rRaw p (i + s) 0 x = ((p.drop (i + s)).take x, i + s + x, 0))
            go_enter Try.func57, Try.ntmps57
            go_wp2_with fail
            refine (takeUvar_any ao c p i 0 _ (by exact (unhide HR).old (((Kept.refl [] w).alloc _).alloc _) (by simp)) hi).mono ?_
            rintro r w1 ⟨rfl, k1⟩
            rw [unhide HU]
            simp only
            obtain ⟨⟨b0, b1, b2⟩, g0, g1, g2⟩ := three (k1.heap (heap_alloc2_old w _ _) (by simp))
            obtain ⟨⟨c0, c1, c2⟩, f0, f1, f2⟩ := three (k1.heap (heap_alloc2_new w _ _) (by simp))
            have HK1 := hide ((((Kept.refl [] w).alloc _).alloc _).trans k1 (by simp))
            have hB0 := hide (k1.heap (heap_alloc2_old w _ _) (by simp))
            have hB1 := hide (k1.heap (heap_alloc2_new w _ _) (by simp))
            have hsz1 : w.heap.size + 1 < w1.heap.size := by have := k1.size; simp at this; omega
            have hsz0 : w.heap.size < w1.heap.size := by omega
            clear k1
            go_wp2_with fail
            rw [show ((i : Int) + s) = ((i + s : Nat) : Int) from by omega]
            refine (takeRaw_any ao c p (i + s) 0 (x : Int) _ (by exact ((unhide HR).old (unhide HK1) (by simp)).old ((Kept.refl [] w1).alloc _) (by simp)) (by omega) (by omega)).mono ?_
            rintro r w2 ⟨rv, rfl, hr2, k2, hb2⟩
            rw [unhide HRR] at hr2 ⊢
            simp only at hr2
            obtain ⟨⟨d0, d1, d2⟩, e0, e1, e2⟩ := three (k2.heap (Below.heap_alloc w1 _ _ hsz1 ▸ unhide hB1 : (w1.alloc _).heap[w.heap.size + 1]? = _) (by simp))
            have HK2 := hide (((unhide HK1).alloc _).trans k2 (by simp))
            have HRv := hide hr2
            have HBv := hide (fun y (hy : y ∈ blk rv) => (by have := hb2 y hy; simp at this; omega : w1.heap.size < y))
            obtain ⟨ao5, n5, c5, hrv⟩ : ∃ ao n c, rv = .slice ao n c := by obtain ⟨ao, n, c, e, _⟩ := hr2; exact ⟨ao, n, c, e⟩
            subst hrv
            clear hr2 k2 hb2
            go_wp2
            refine bodyPost_ret (v := .tuple #[.slice ao5 n5 c5, rrV (.slice ao p.length c) ((i : Int) + s + x) 0]) (by simp [results, Try.results57, go_sem, d0, d1, d2]) rfl ?_
            rw [unhide HV]
            refine ⟨.slice ao5 n5 c5, by simp [Int.add_assoc], ?_, (((unhide HK2).setCell (by simp) _).setCell (by simp) _).setCell (by simp) _, fun y hy => by have := unhide HBv y hy; omega⟩
            rw [List.drop_drop]
            exact (unhide HRv).kept (L := [w.heap.size + 1]) (by repeat (first | exact Kept.refl _ _ | apply Kept.drew | apply Kept.alloc | (refine Kept.setCell ?_ (by simp) _))) (by intro y hy; have := unhide HBv y hy; simp; omega)
  · have he' : ((e : Int) != 0) = true := by rw [bne_iff_ne]; omega
    have HV := hide (by simp [rBlob, he] : rBlob p i e n = ([], i, e))
    clear he h
    go_enter Try.func57, Try.ntmps57
    go_wp2_with fail
    go_region
    all_goals go_wp2
    refine bodyPost_ret (v := .tuple #[.slice none 0 0, rrV (.slice ao p.length c) i e]) (by simp [results, Try.results57, go_sem]) rfl ?_
    rw [unhide HV]
    exact ⟨_, rfl, Rd.nil _, (by repeat (first | exact Kept.refl _ _ | apply Kept.drew | apply Kept.alloc | (refine Kept.setCell ?_ (by simp) _))), by simp [blk]⟩
end Go.Proofs.Ytbbjbpjpejekgaa
namespace Go.Proofs.Ytbbjbpjpejekgaa
set_option linter.unusedVariables false
set_option linter.unusedSimpArgs false

theorem fold_form (r : List Nat) : ∀ a, (∀ y ∈ r, y < 256) → ∃ s, s < 256 ^ r.length ∧ r.foldl (fun a c => a * 256 + c) a = a * 256 ^ r.length + s := by
  induction r with
  | nil => intro a _; exact ⟨0, by simp, by simp⟩
  | cons c r ih =>
    intro a hb
    obtain ⟨s, hs, e⟩ := ih (a * 256 + c) (fun y hy => hb y (by simp [hy]))
    have hc := hb c (by simp)
    refine ⟨c * 256 ^ r.length + s, ?_, ?_⟩
    · simp only [List.length_cons]
      rw [Nat.pow_succ]
      have : c * 256 ^ r.length ≤ 255 * 256 ^ r.length := Nat.mul_le_mul (by omega) (Nat.le_refl _)
      omega
    · simp only [List.foldl_cons, List.length_cons]
      rw [e, Nat.pow_succ, Nat.add_mul, Nat.mul_comm (256 ^ r.length) 256, ← Nat.mul_assoc]; omega
theorem wide_fold (r : List Nat) : ∀ a, (∀ y ∈ r, y < 256) → wide (r.foldl (fun a c => a * 256 + c) a) r.length = r := by
  induction r with
  | nil => intro a _; rfl
  | cons c r ih =>
    intro a hb
    have hb' : ∀ y ∈ r, y < 256 := fun y hy => hb y (by simp [hy])
    have hc := hb c (by simp)
    obtain ⟨s, hs, e⟩ := fold_form r (a * 256 + c) hb'
    have h2 := ih (a * 256 + c) hb'
    simp only [List.foldl_cons, List.length_cons, wide]
    rw [h2, e]
    have hp : 0 < 256 ^ r.length := Nat.pow_pos (by omega)
    have : ((a * 256 + c) * 256 ^ r.length + s) / 256 ^ r.length = a * 256 + c := by
      rw [Nat.add_comm, Nat.add_mul_div_right _ _ hp, Nat.div_eq_of_lt hs, Nat.zero_add]
    rw [this]
    congr 1; omega
theorem fold_mod (r : List Nat) : ∀ a, (∀ y ∈ r, y < 256) → (a + 1) * 256 ^ r.length ≤ 18446744073709551616 → r.foldl (fun a c => (a * 256 + c) % 18446744073709551616) a = r.foldl (fun a c => a * 256 + c) a := by
  induction r with
  | nil => intro a _ _; rfl
  | cons c r ih =>
    intro a hb h
    have hc := hb c (by simp)
    simp only [List.foldl_cons]
    have hp : 0 < 256 ^ r.length := Nat.pow_pos (by omega)
    simp only [List.length_cons, Nat.pow_succ] at h
    have h2 : (a * 256 + c + 1) * 256 ^ r.length ≤ (a + 1) * (256 ^ r.length * 256) := by
      rw [Nat.mul_comm (256 ^ r.length) 256, ← Nat.mul_assoc]
      exact Nat.mul_le_mul (by omega) (Nat.le_refl _)
    have h3 : a * 256 + c + 1 ≤ (a * 256 + c + 1) * 256 ^ r.length := Nat.le_mul_of_pos_right _ hp
    rw [Nat.mod_eq_of_lt (by omega)]
    exact ih _ (fun y hy => hb y (by simp [hy])) (by omega)
theorem wide_beL {r : List Nat} (hb : ∀ y ∈ r, y < 256) (hl : r.length ≤ 8) : wide (beL r) r.length = r ∧ beL r < 256 ^ r.length := by
  have hpow : 256 ^ r.length ≤ 256 ^ 8 := Nat.pow_le_pow_right (by omega) hl
  have h8 : (256 : Nat) ^ 8 = 18446744073709551616 := (by decide)
  have e : beL r = r.foldl (fun a c => a * 256 + c) 0 := fold_mod r 0 hb (by omega)
  obtain ⟨s, hs, e2⟩ := fold_form r 0 hb
  rw [e]
  exact ⟨wide_fold r 0 hb, by rw [e2]; omega⟩

theorem rNum_one {P : List Nat} {i n v j : Nat} (h : rNum P i 0 n = (v, j, 0)) (hb : ∀ y ∈ P, y < 256) (hn : n ≤ 8) (hi : i ≤ P.length) : wide v n = (P.drop i).take n ∧ j = i + n ∧ j ≤ P.length ∧ v < 256 ^ n := by
  simp only [rNum, ne_eq, not_true_eq_false, if_false] at h
  split at h
  · simp at h
  · rename_i h1
    simp only [Prod.mk.injEq] at h
    obtain ⟨rfl, rfl, _⟩ := h
    have hl : ((P.drop i).take n).length = n := by simp; omega
    have := wide_beL (r := (P.drop i).take n) (fun y hy => hb y (List.mem_of_mem_drop (List.mem_of_mem_take hy))) (by omega)
    rw [hl] at this
    exact ⟨this.1, rfl, by omega, this.2⟩

theorem fuv_one (q : List Nat) : ∀ k a x s, (∀ y ∈ q, y < 256) → fuv q k a = (x, s) → s ≠ 0 → ∃ y, x = a + y * 128 ^ k ∧ k < s ∧ uv y = q.take (s - k) ∧ (0 < k → 0 < y) := by
  induction q with
  | nil => intro k a x s _ h hs; simp [fuv] at h; omega
  | cons c r ih =>
    intro k a x s hb h hs
    have hc := hb c (by simp)
    rw [fuv] at h
    split at h
    · simp at h; omega
    · split at h
      · rename_i h1 h2
        obtain ⟨y, hx, hk, hu, hy⟩ := ih (k + 1) _ x s (fun y hy => hb y (by simp [hy])) h hs
        have hy' := hy (by omega)
        refine ⟨y * 128 + c % 128, ?_, by omega, ?_, fun _ => by omega⟩
        · rw [hx, Nat.pow_succ, Nat.add_mul, Nat.mul_assoc, Nat.mul_comm 128 (128 ^ k)]; omega
        · rw [uv_ge (by omega)]
          have e1 : (y * 128 + c % 128) % 128 + 128 = c := by omega
          have e2 : (y * 128 + c % 128) / 128 = y := by omega
          rw [e1, e2, hu]
          rw [show s - k = (s - (k + 1)) + 1 from by omega, List.take_succ_cons]
      · split at h
        · simp at h; omega
        · rename_i h1 h2 h3
          simp only [Prod.mk.injEq] at h
          obtain ⟨rfl, rfl⟩ := h
          refine ⟨c, by rw [Nat.mod_eq_of_lt (by omega)], by omega, ?_, fun _ => by omega⟩
          rw [uv_lt (by omega), show k + 1 - k = 1 from by omega]
          simp

theorem rUvar_one {P : List Nat} {i v j : Nat} (h : rUvar P i 0 = (v, j, 0)) (hb : ∀ y ∈ P, y < 256) (hi : i ≤ P.length) : uv v = (P.drop i).take (j - i) ∧ i ≤ j ∧ j ≤ P.length ∧ v < 18446744073709551616 := by
  simp only [rUvar, ne_eq, not_true_eq_false, if_false] at h
  split at h
  · simp at h
  · rename_i h1
    simp only [Prod.mk.injEq] at h
    obtain ⟨rfl, rfl, _⟩ := h
    have hle := fuv_le (P.drop i) 0 0
    have hlt := fuv_lt (P.drop i) 0 0 (by decide) (by decide)
    obtain ⟨y, hx, hk, hu, _⟩ := fuv_one (P.drop i) 0 0 _ _ (fun y hy => hb y (List.mem_of_mem_drop hy)) (rfl : fuv (P.drop i) 0 0 = ((fuv (P.drop i) 0 0).1, (fuv (P.drop i) 0 0).2)) h1
    simp only [Nat.pow_zero, Nat.mul_one, Nat.zero_add, Nat.sub_zero] at hx hu
    simp at hle
    exact ⟨by rw [hx, hu]; congr 1; omega, by omega, by omega, hlt⟩

theorem rRaw_one {P : List Nat} {i j : Nat} {n : Int} {q : List Nat} (h : rRaw P i 0 n = (q, j, 0)) (hi : i ≤ P.length) : q = (P.drop i).take (j - i) ∧ i ≤ j ∧ j ≤ P.length := by
  simp only [rRaw, ne_eq, not_true_eq_false, if_false] at h
  split at h
  · simp at h
  · split at h
    · simp at h
    · rename_i h1 h2
      simp only [Prod.mk.injEq] at h
      obtain ⟨rfl, rfl, _⟩ := h
      exact ⟨by congr 1; omega, by omega, by omega⟩

theorem rBlob_one {P : List Nat} {i j : Nat} {n : Int} {q : List Nat} (h : rBlob P i 0 n = (q, j, 0)) (hb : ∀ y ∈ P, y < 256) (hi : i ≤ P.length) : uv q.length ++ q = (P.drop i).take (j - i) ∧ i ≤ j ∧ j ≤ P.length := by
  simp only [rBlob, ne_eq, not_true_eq_false, if_false] at h
  have hle := fuv_le (P.drop i) 0 0
  have hone := fuv_one (P.drop i) 0 0 _ _ (fun y hy => hb y (List.mem_of_mem_drop hy)) (rfl : fuv (P.drop i) 0 0 = ((fuv (P.drop i) 0 0).1, (fuv (P.drop i) 0 0).2))
  obtain ⟨x, s, hf⟩ : ∃ x s, fuv (P.drop i) 0 0 = (x, s) := ⟨_, _, rfl⟩
  rw [hf] at h hle hone
  simp only at h hle hone
  split at h
  · simp at h
  · split at h
    · simp at h
    · split at h
      · simp at h
      · split at h
        · simp at h
        · rename_i h1 h2 h3 h4
          simp only [Prod.mk.injEq] at h
          obtain ⟨rfl, rfl, _⟩ := h
          obtain ⟨y, hx, hk, hu, _⟩ := hone h2
          simp only [Nat.pow_zero, Nat.mul_one, Nat.zero_add, Nat.sub_zero] at hx hu
          subst hx
          simp only [List.length_drop] at hle h4
          have hl : (((P.drop i).drop s).take x).length = x := by simp; omega
          rw [hl, hu, show i + (s + x) - i = s + x from by omega]
          exact ⟨(List.take_add).symm, by omega, by omega⟩

/-- What is taken off without a fault, laid again, are the bytes. -/
theorem rTake_one {P : List Nat} {i j v : Nat} {q : List Nat} {k n : Int} (h : rTake P i 0 k n = (v, q, j, 0)) (hb : ∀ y ∈ P, y < 256) (hi : i ≤ P.length) (hk : 1 ≤ k ∧ k ≤ 7) :
    layB k v q = (P.drop i).take (j - i) ∧ i ≤ j ∧ j ≤ P.length ∧ v < 18446744073709551616 := by
  rcases kinds7 k with rfl | rfl | rfl | rfl | rfl | rfl | rfl | ⟨h1, h2, h3, h4, h5, h6', h7'⟩
  · obtain ⟨v', j', e', he⟩ : ∃ v' j' e', rNum P i 0 1 = (v', j', e') := ⟨_, _, _, rfl⟩
    simp [rTake, he] at h
    obtain ⟨rfl, rfl, rfl, rfl⟩ := h
    obtain ⟨a, rfl, b, c⟩ := rNum_one he hb (by omega) hi
    have hv : v' % 256 = v' := Nat.mod_eq_of_lt (by omega)
    rw [show layB 1 (v' % 256) [] = wide (v' % 256 % 256) 1 from rfl, hv, hv, a]
    exact ⟨by congr 1; omega, by omega, b, by omega⟩
  · obtain ⟨v', j', e', he⟩ : ∃ v' j' e', rNum P i 0 2 = (v', j', e') := ⟨_, _, _, rfl⟩
    simp [rTake, he] at h
    obtain ⟨rfl, rfl, rfl, rfl⟩ := h
    obtain ⟨a, rfl, b, c⟩ := rNum_one he hb (by omega) hi
    have hv : v' % 65536 = v' := Nat.mod_eq_of_lt (by omega)
    rw [show layB 2 (v' % 65536) [] = wide (v' % 65536 % 65536) 2 from rfl, hv, hv, a]
    exact ⟨by congr 1; omega, by omega, b, by omega⟩
  · obtain ⟨v', j', e', he⟩ : ∃ v' j' e', rNum P i 0 4 = (v', j', e') := ⟨_, _, _, rfl⟩
    simp [rTake, he] at h
    obtain ⟨rfl, rfl, rfl, rfl⟩ := h
    obtain ⟨a, rfl, b, c⟩ := rNum_one he hb (by omega) hi
    have hv : v' % 4294967296 = v' := Nat.mod_eq_of_lt (by omega)
    rw [show layB 3 (v' % 4294967296) [] = wide (v' % 4294967296 % 4294967296) 4 from rfl, hv, hv, a]
    exact ⟨by congr 1; omega, by omega, b, by omega⟩
  · obtain ⟨v', j', e', he⟩ : ∃ v' j' e', rNum P i 0 8 = (v', j', e') := ⟨_, _, _, rfl⟩
    simp [rTake, he] at h
    obtain ⟨rfl, rfl, rfl, rfl⟩ := h
    obtain ⟨a, rfl, b, c⟩ := rNum_one he hb (by omega) hi
    rw [show layB 4 v' [] = wide v' 8 from rfl, a]
    exact ⟨by congr 1; omega, by omega, b, by omega⟩
  · obtain ⟨v', j', e', he⟩ : ∃ v' j' e', rUvar P i 0 = (v', j', e') := ⟨_, _, _, rfl⟩
    simp [rTake, he] at h
    obtain ⟨rfl, rfl, rfl, rfl⟩ := h
    obtain ⟨a, b, c, d⟩ := rUvar_one he hb hi
    rw [show layB 5 v' [] = uv v' from rfl]
    exact ⟨a, b, c, d⟩
  · simp [rTake] at h
    obtain ⟨rfl, h⟩ := h
    obtain ⟨a, b, c⟩ := rRaw_one h hi
    rw [show layB 6 0 q = q from rfl]
    exact ⟨a, b, c, by omega⟩
  · simp [rTake] at h
    obtain ⟨rfl, h⟩ := h
    obtain ⟨a, b, c⟩ := rBlob_one h hb hi
    rw [show layB 7 0 q = uv q.length ++ q from rfl]
    exact ⟨a, b, c, by omega⟩
  · omega

/-- A fault leaves the place. -/
theorem rTake_fault {P : List Nat} {i j v e : Nat} {q : List Nat} {k n : Int} (h : rTake P i 0 k n = (v, q, j, e)) (he : e ≠ 0) : j = i := by
  have hN : ∀ s, (rNum P i 0 s).2.2 ≠ 0 → (rNum P i 0 s).2.1 = i := by
    intro s; simp only [rNum, ne_eq, not_true_eq_false, if_false]; split <;> simp
  have hU : (rUvar P i 0).2.2 ≠ 0 → (rUvar P i 0).2.1 = i := by
    simp only [rUvar, ne_eq, not_true_eq_false, if_false]; split <;> simp
  have hR : (rRaw P i 0 n).2.2 ≠ 0 → (rRaw P i 0 n).2.1 = i := by
    simp only [rRaw, ne_eq, not_true_eq_false, if_false]
    repeat' split
    all_goals simp
  have hB : (rBlob P i 0 n).2.2 ≠ 0 → (rBlob P i 0 n).2.1 = i := by
    simp only [rBlob, ne_eq, not_true_eq_false, if_false]
    repeat' split
    all_goals simp
  have h2 := congrArg (fun t => t.2.2.1) h
  have h3 := congrArg (fun t => t.2.2.2) h
  simp only at h2 h3
  rw [← h2]
  rw [← h3] at he
  rcases kinds7 k with rfl | rfl | rfl | rfl | rfl | rfl | rfl | ⟨g1, g2, g3, g4, g5, g6, g7⟩
  · exact hN 1 he
  · exact hN 2 he
  · exact hN 4 he
  · exact hN 8 he
  · exact hU he
  · exact hR he
  · exact hB he
  · simp [rTake, g1, g2, g3, g4, g5, g6, g7]
end Go.Proofs.Ytbbjbpjpejekgaa
namespace Go.Proofs.Ytbbjbpjpejekgaa
open Go.RowKit
set_option linter.unusedVariables false
set_option linter.unusedSimpArgs false
attribute [local go_sem ↓] Go.wp_at_zero Go.wp_at_succ

set_option maxRecDepth 100000 in
set_option maxHeartbeats 1000000 in
theorem refDone_any (ao : Option Addr) (c : Nat) (p : List Nat) (i e : Nat) (w : World) :
    Calls Try.prog 58 #[rrV (.slice ao p.length c) i e] w fun r w' => r = .returned (.int .i64 (doneE p i e)) ∧ Kept [] w w' := by
  by_cases he : e = 0
  · subst he
    by_cases hi : i < p.length
    · have HV := hide (by simp [doneE, hi] : doneE p i 0 = 3)
      have hi' : (i : Int) < p.length := by omega
      go_enter Try.func58, Try.ntmps58
      go_wp2
      go_ret
      exact ⟨by rw [unhide HV]; rfl, (Kept.refl [] w).alloc _⟩
    · have HV := hide (by simp [doneE, hi] : doneE p i 0 = 0)
      have hi' : ¬ (i : Int) < p.length := by omega
      go_enter Try.func58, Try.ntmps58
      go_wp2
      go_ret
      exact ⟨by rw [unhide HV]; rfl, (Kept.refl [] w).alloc _⟩
  · have HV := hide (by simp [doneE, he] : doneE p i e = e)
    have he' : ((e : Int) == 0) = false := by simp; omega
    clear he
    go_enter Try.func58, Try.ntmps58
    go_wp2
    go_ret
    exact ⟨by rw [unhide HV]; rfl, (Kept.refl [] w).alloc _⟩

theorem rNum_lt {P : List Nat} {i e n : Nat} (hb : ∀ y ∈ P, y < 256) (hn : n ≤ 8) (hi : i ≤ P.length) : (rNum P i e n).1 < 256 ^ n := by
  have hp : 0 < 256 ^ n := Nat.pow_pos (by omega)
  by_cases he : e = 0
  · subst he
    obtain ⟨v, j, f, hf⟩ : ∃ v j f, rNum P i 0 n = (v, j, f) := ⟨_, _, _, rfl⟩
    rw [hf]
    by_cases hf0 : f = 0
    · subst hf0; exact (rNum_one hf hb hn hi).2.2.2
    · have : v = 0 := by
        simp only [rNum, ne_eq, not_true_eq_false, if_false] at hf
        split at hf
        · simp at hf; omega
        · simp at hf; omega
      subst this; exact hp
  · simp only [rNum, ne_eq, he, not_false_eq_true, if_true]; exact hp

/-- What was there is there: two rules for a walk. -/
theorem kcell {w w1 : World} (k : Kept [] w w1) : (∀ b o, b < w.heap.size → w1.cell? ⟨b, o, none⟩ = w.cell? ⟨b, o, none⟩) ∧ (∀ b o, b < w.heap.size → w1.frozen? ⟨b, o, none⟩ = w.frozen? ⟨b, o, none⟩) :=
  ⟨fun b o h => World.cell?_of_block (k.block b h (by simp)), fun b o h => World.frozen?_of_block (k.block b h (by simp))⟩

/-- What 'take' answers of a kind with a width. -/
theorem rTake_w {P : List Nat} {i e : Nat} {k n : Int} (hb : ∀ y ∈ P, y < 256) (hi : i ≤ P.length) (hw : 0 < widthN k) : rTake P i e k n = ((rNum P i e (widthN k)).1, [], (rNum P i e (widthN k)).2) ∧ widthN k ≤ 8 := by
  rcases kinds4 k with rfl | rfl | rfl | rfl | ⟨h1, h2, h3, h4⟩
  · refine ⟨?_, by decide⟩
    have := rNum_lt (e := e) (n := 1) hb (by omega) hi
    show ((rNum P i e 1).1 % 256, [], (rNum P i e 1).2) = ((rNum P i e 1).1, [], (rNum P i e 1).2)
    rw [Nat.mod_eq_of_lt (by omega)]
  · refine ⟨?_, by decide⟩
    have := rNum_lt (e := e) (n := 2) hb (by omega) hi
    show ((rNum P i e 2).1 % 65536, [], (rNum P i e 2).2) = ((rNum P i e 2).1, [], (rNum P i e 2).2)
    rw [Nat.mod_eq_of_lt (by omega)]
  · refine ⟨?_, by decide⟩
    have := rNum_lt (e := e) (n := 4) hb (by omega) hi
    show ((rNum P i e 4).1 % 4294967296, [], (rNum P i e 4).2) = ((rNum P i e 4).1, [], (rNum P i e 4).2)
    rw [Nat.mod_eq_of_lt (by omega)]
  · exact ⟨rfl, by decide⟩
  · simp [widthN, h1, h2, h3, h4] at hw

set_option maxRecDepth 100000 in
set_option maxHeartbeats 8000000 in
theorem taken_wide (ao : Option Addr) (c : Nat) (p : List Nat) (i e : Nat) (k : Int) (x : Nat) (n : Int) (pv : Value) (w : World) (h : Rd w (.slice ao p.length c) p) (hi : i ≤ p.length) (hw : 0 < widthN k) (h8 : widthN k ≤ 8) :
    Calls Try.prog 28 #[rrV (.slice ao p.length c) i e, opV k x n pv] w fun r w' => r = .returned (.tuple #[.int .u64 (rNum p i e (widthN k)).1, .slice none 0 0, rrV (.slice ao p.length c) (rNum p i e (widthN k)).2.1 (rNum p i e (widthN k)).2.2]) ∧ Kept [] w w' := by
  have HR := hide h
  have hwid := fun W => width_any k W
  obtain ⟨m, hm⟩ : ∃ m, widthN k = m := ⟨_, rfl⟩
  simp only [hm] at hwid
  rw [hm] at hw h8 ⊢
  obtain ⟨z, j, f, hT⟩ : ∃ z j f, rNum p i e m = (z, j, f) := ⟨_, _, _, rfl⟩
  rw [hT]
  simp only
  have Hwid := hide hwid
  have HTW := hide (fun W (kW : Kept [] w W) => (by have h1 := takeWide_any ao c p i e m W (h.old kW (by simp)) hi h8; rw [hT] at h1; exact h1 : Calls Try.prog 54 #[rrV (.slice ao p.length c) i e, .int .i64 m] W fun r w' => r = .returned (.tuple #[.int .u64 z, rrV (.slice ao p.length c) j f]) ∧ Kept [] W w'))
  have hm0 : (0 : Int) < m := by omega
  clear hwid hm hT h
  go_enter Try.func28, Try.ntmps28
  go_wp2_with fail
  refine (unhide Hwid _).mono ?_
  rintro r w1 ⟨rfl, hw1⟩
  subst w1
  go_wp2_with fail
  go_cut [7, 8] (fun t7 t8 wc => t7 = .int .u64 z ∧ ∃ g, t8 = .pointer (some ⟨g, 0, none⟩) ∧ (wc.cell? ⟨g, 0, none⟩ = some (.slice ao p.length c) ∧ wc.cell? ⟨g, 1, none⟩ = some (.int .i64 j) ∧ wc.cell? ⟨g, 2, none⟩ = some (.int .i64 f)) ∧
      (wc.cell? ⟨w.heap.size + 1 + 1, 0, none⟩ = some (.slice none 0 0) ∧ wc.cell? ⟨w.heap.size + 1 + 1, 1, none⟩ = some (.int .i64 0) ∧ wc.cell? ⟨w.heap.size + 1 + 1, 2, none⟩ = some (.int .i64 0)) ∧
      (wc.frozen? ⟨w.heap.size + 1 + 1, 0, none⟩ = false ∧ wc.frozen? ⟨w.heap.size + 1 + 1, 1, none⟩ = false ∧ wc.frozen? ⟨w.heap.size + 1 + 1, 2, none⟩ = false) ∧ Hid (Kept [] w wc))
  case first =>
    go_region_with (first
      | (go_at_call 35; refine (unhide Hwid _).mono ?_; rintro r w2 ⟨rfl, hw2⟩; subst w2)
      | (go_at_call 54; refine (unhide HTW _ (by repeat (first | exact Kept.refl _ _ | apply Kept.drew | apply Kept.alloc | (refine Kept.setCell ?_ (by simp) _)))).mono ?_; rintro r w3 ⟨rfl, k3⟩; obtain ⟨hc3, hf3⟩ := kcell k3; have hz3 := k3.size; simp at hz3; have HK3 := hide k3; clear k3))
    all_goals
      go_wp2_with fail
      go_meet
      case rel =>
        have hz4 : w.heap.size + 1 + 1 < w3.heap.size := by omega
        refine ⟨rfl, _, rfl, ?_, ?_, ?_, ?_⟩
        · simp [go_sem, hc3, hf3]
        · simp [go_sem, hc3, hf3, hz4]
        · simp [go_sem, hc3, hf3, hz4]
        · refine hide ?_
          repeat (first | apply Kept.drew | (refine Kept.setCell ?_ (by simp <;> omega) _) | exact Kept.trans (by repeat (first | exact Kept.refl _ _ | apply Kept.drew | apply Kept.alloc | (refine Kept.setCell ?_ (by simp) _))) (unhide HK3) (by simp) | apply Kept.alloc)
  case rest =>
    obtain ⟨rfl, g, rfl, ⟨d0, d1, d2⟩, ⟨e0, e1, e2⟩, ⟨f0, f1, f2⟩, HKc⟩ := hcut
    go_wp2_with fail
    go_region
    all_goals go_wp2
    refine bodyPost_ret (v := .tuple #[.int .u64 z, .slice none 0 0, rrV (.slice ao p.length c) j f]) (by simp [results, Try.results28, go_sem, e0, e1, e2]) rfl ⟨rfl, ?_⟩
    repeat (first | exact unhide HKc | apply Kept.drew | (refine Kept.setCell ?_ (by simp <;> omega) _))
end Go.Proofs.Ytbbjbpjpejekgaa
namespace Go.Proofs.Ytbbjbpjpejekgaa
open Go.RowKit
set_option linter.unusedVariables false
set_option linter.unusedSimpArgs false
attribute [local go_sem ↓] Go.wp_at_zero Go.wp_at_succ

set_option maxRecDepth 100000 in
set_option maxHeartbeats 8000000 in
theorem taken_any (ao : Option Addr) (c : Nat) (p : List Nat) (i e : Nat) (k : Int) (x : Nat) (n : Int) (pv : Value) (w : World) (h : Rd w (.slice ao p.length c) p) (hi : i ≤ p.length) (hn : -9223372036854775808 ≤ n ∧ n ≤ 9223372036854775807) :
    Calls Try.prog 28 #[rrV (.slice ao p.length c) i e, opV k x n pv] w fun r w' => ∃ rv, r = .returned (.tuple #[.int .u64 (rTake p i e k n).1, rv, rrV (.slice ao p.length c) (rTake p i e k n).2.2.1 (rTake p i e k n).2.2.2]) ∧ Rd w' rv (rTake p i e k n).2.1 ∧ Kept [] w w' ∧ ∀ y ∈ blk rv, w.heap.size ≤ y := by
  by_cases hw : 0 < widthN k
  · obtain ⟨hT, h8⟩ := rTake_w (e := e) (n := n) h.byte hi hw
    rw [hT]
    exact (taken_wide ao c p i e k x n pv w h hi hw h8).mono fun r w' hr => ⟨_, hr.1, Rd.nil _, hr.2, by simp [blk]⟩
  · have hw0 : widthN k = 0 := by omega
    have HR := hide h
    have Hwid := hide (fun W => width_any k W)
    have Hw0 := hide hw0
    rcases kinds7 k with rfl | rfl | rfl | rfl | rfl | rfl | rfl | ⟨h1, h2, h3, h4, h5, h6, h7⟩
    · exact absurd (by decide) hw
    · exact absurd (by decide) hw
    · exact absurd (by decide) hw
    · exact absurd (by decide) hw
    · clear hw hw0 h
      obtain ⟨z, j, f, hU⟩ : ∃ z j f, rUvar p i e = (z, j, f) := ⟨_, _, _, rfl⟩
      have HV := hide (by simp [rTake, hU] : rTake p i e 5 n = (z, [], j, f))
      have HU := hide hU
      clear hU
      go_enter Try.func28, Try.ntmps28
      go_wp2_with fail
      refine (unhide Hwid _).mono ?_
      rintro r w1 ⟨rfl, hw1⟩
      subst w1
      rw [unhide Hw0]
      go_wp2_with fail
      refine (takeUvar_any ao c p i e _ (by exact (unhide HR).old ((((Kept.refl [] w).alloc _).alloc _).alloc _) (by simp)) hi).mono ?_
      rintro r w3 ⟨rfl, k3⟩
      rw [unhide HU]
      simp only
      obtain ⟨hc3, hf3⟩ := kcell k3
      have hz3 := k3.size
      simp at hz3
      have hz4 : w.heap.size + 1 + 1 < w3.heap.size := by omega
      have HK3 := hide (((((Kept.refl [] w).alloc _).alloc _).alloc _).trans k3 (by simp))
      clear k3
      go_wp2_with fail
      go_region
      all_goals go_wp2
      refine bodyPost_ret (v := .tuple #[.int .u64 z, .slice none 0 0, rrV (.slice ao p.length c) j f]) (by simp [results, Try.results28, go_sem, hc3, hf3, hz4]) rfl ?_
      rw [unhide HV]
      refine ⟨_, rfl, Rd.nil _, ?_, by simp [blk]⟩
      repeat (first | exact unhide HK3 | apply Kept.drew | apply Kept.alloc | (refine Kept.setCell ?_ (by simp <;> omega) _))
    · clear hw hw0 h
      obtain ⟨q, j, f, hU⟩ : ∃ q j f, rRaw p i e n = (q, j, f) := ⟨_, _, _, rfl⟩
      have HV := hide (by simp [rTake, hU] : rTake p i e 6 n = (0, q, j, f))
      have HU := hide hU
      clear hU
      go_enter Try.func28, Try.ntmps28
      go_wp2_with fail
      refine (unhide Hwid _).mono ?_
      rintro r w1 ⟨rfl, hw1⟩
      subst w1
      rw [unhide Hw0]
      go_wp2_with fail
      refine (takeRaw_any ao c p i e n _ (by exact (unhide HR).old ((((Kept.refl [] w).alloc _).alloc _).alloc _) (by simp)) hi hn).mono ?_
      rintro r w3 ⟨rv, rfl, hr3, k3, hb3⟩
      rw [unhide HU] at hr3 ⊢
      simp only at hr3
      obtain ⟨hc3, hf3⟩ := kcell k3
      have hz3 := k3.size
      simp at hz3
      have hz4 : w.heap.size + 1 + 1 < w3.heap.size := by omega
      have HK3 := hide (((((Kept.refl [] w).alloc _).alloc _).alloc _).trans k3 (by simp))
      have HRv := hide hr3
      have HBv := hide (fun y (hy : y ∈ blk rv) => (by have := hb3 y hy; simp at this; omega : w.heap.size + 1 + 1 < y))
      obtain ⟨ao5, n5, c5, hrv⟩ : ∃ ao n c, rv = .slice ao n c := by obtain ⟨ao, n, c, e, _⟩ := hr3; exact ⟨ao, n, c, e⟩
      subst hrv
      clear k3 hr3 hb3
      go_wp2_with fail
      go_region
      all_goals go_wp2
      refine bodyPost_ret (v := .tuple #[.int .u64 0, .slice ao5 n5 c5, rrV (.slice ao p.length c) j f]) (by simp [results, Try.results28, go_sem, hc3, hf3, hz4]) rfl ?_
      rw [unhide HV]
      refine ⟨.slice ao5 n5 c5, rfl, ?_, ?_, fun y hy => by have := unhide HBv y hy; omega⟩
      · refine (unhide HRv).kept (L := [w.heap.size + 1 + 1]) ?_ (by intro y hy; have := unhide HBv y hy; simp; omega)
        repeat (first | exact Kept.refl _ _ | apply Kept.drew | apply Kept.alloc | (refine Kept.setCell ?_ (by simp) _))
      · repeat (first | exact unhide HK3 | apply Kept.drew | apply Kept.alloc | (refine Kept.setCell ?_ (by simp <;> omega) _))
    · clear hw hw0 h
      obtain ⟨q, j, f, hU⟩ : ∃ q j f, rBlob p i e n = (q, j, f) := ⟨_, _, _, rfl⟩
      have HV := hide (by simp [rTake, hU] : rTake p i e 7 n = (0, q, j, f))
      have HU := hide hU
      clear hU
      go_enter Try.func28, Try.ntmps28
      go_wp2_with fail
      refine (unhide Hwid _).mono ?_
      rintro r w1 ⟨rfl, hw1⟩
      subst w1
      rw [unhide Hw0]
      go_wp2_with fail
      refine (takeBlob_any ao c p i e n _ (by exact (unhide HR).old ((((Kept.refl [] w).alloc _).alloc _).alloc _) (by simp)) hi hn).mono ?_
      rintro r w3 ⟨rv, rfl, hr3, k3, hb3⟩
      rw [unhide HU] at hr3 ⊢
      simp only at hr3
      obtain ⟨hc3, hf3⟩ := kcell k3
      have hz3 := k3.size
      simp at hz3
      have hz4 : w.heap.size + 1 + 1 < w3.heap.size := by omega
      have HK3 := hide (((((Kept.refl [] w).alloc _).alloc _).alloc _).trans k3 (by simp))
      have HRv := hide hr3
      have HBv := hide (fun y (hy : y ∈ blk rv) => (by have := hb3 y hy; simp at this; omega : w.heap.size + 1 + 1 < y))
      obtain ⟨ao5, n5, c5, hrv⟩ : ∃ ao n c, rv = .slice ao n c := by obtain ⟨ao, n, c, e, _⟩ := hr3; exact ⟨ao, n, c, e⟩
      subst hrv
      clear k3 hr3 hb3
      go_wp2_with fail
      go_region
      all_goals go_wp2
      refine bodyPost_ret (v := .tuple #[.int .u64 0, .slice ao5 n5 c5, rrV (.slice ao p.length c) j f]) (by simp [results, Try.results28, go_sem, hc3, hf3, hz4]) rfl ?_
      rw [unhide HV]
      refine ⟨.slice ao5 n5 c5, rfl, ?_, ?_, fun y hy => by have := unhide HBv y hy; omega⟩
      · refine (unhide HRv).kept (L := [w.heap.size + 1 + 1]) ?_ (by intro y hy; have := unhide HBv y hy; simp; omega)
        repeat (first | exact Kept.refl _ _ | apply Kept.drew | apply Kept.alloc | (refine Kept.setCell ?_ (by simp) _))
      · repeat (first | exact unhide HK3 | apply Kept.drew | apply Kept.alloc | (refine Kept.setCell ?_ (by simp <;> omega) _))
    · have t5 : (k == 5) = false := by simp [h5]
      have t6 : (k == 6) = false := by simp [h6]
      have t7 : (k == 7) = false := by simp [h7]
      have HV := hide (by simp [rTake, h1, h2, h3, h4, h5, h6, h7] : rTake p i e k n = (0, [], i, e))
      clear hw hw0 h h1 h2 h3 h4 h5 h6 h7
      go_enter Try.func28, Try.ntmps28
      go_wp2_with fail
      refine (unhide Hwid _).mono ?_
      rintro r w1 ⟨rfl, hw1⟩
      subst w1
      rw [unhide Hw0]
      go_wp2_with fail
      go_region
      all_goals go_wp2
      refine bodyPost_ret (v := .tuple #[.int .u64 0, .slice none 0 0, rrV (.slice ao p.length c) i e]) (by simp [results, Try.results28, go_sem]) rfl ?_
      rw [unhide HV]
      refine ⟨_, rfl, Rd.nil _, ?_, by simp [blk]⟩
      repeat (first | exact Kept.refl _ _ | apply Kept.drew | apply Kept.alloc | (refine Kept.setCell ?_ (by simp <;> omega) _))
end Go.Proofs.Ytbbjbpjpejekgaa
namespace Go.Proofs.Ytbbjbpjpejekgaa
open Go.RowKit
set_option linter.unusedVariables false
set_option linter.unusedSimpArgs false
attribute [local go_sem ↓] Go.wp_at_zero Go.wp_at_succ

set_option maxRecDepth 100000 in
set_option maxHeartbeats 8000000 in
theorem tells_any (b : Nat) (gv : Value) (ao : Option Addr) (c : Nat) (P : List Nat) (i e : Nat) (w : World) (h : ReAt w b gv P i e) :
    Calls Try.prog 29 #[.pointer (some ⟨b, 0, none⟩), rrV (.slice ao P.length c) i e] w fun r w' => r = .returned (.bool true) ∧ Kept [] w w' := by
  have HRe := hide (fun W (k : Kept [] w W) => (h.kept k (by simp) (by simp) : ReAt W b gv P i e))
  obtain ⟨d, hd⟩ : ∃ d, doneE P i e = d := ⟨_, rfl⟩
  have HD := hide (fun W (k : Kept [] w W) => (by have h1 := rdone_any b gv P i e W (unhide HRe W k); rw [hd] at h1; exact h1 : Calls Try.prog 16 #[.pointer (some ⟨b, 0, none⟩)] W fun r w' => r = .returned (.int .i64 d) ∧ ∃ n, w' = W.drewN n))
  have HDr := hide (fun W => (by have h1 := refDone_any ao c P i e W; rw [hd] at h1; exact h1 : Calls Try.prog 58 #[rrV (.slice ao P.length c) i e] W fun r w' => r = .returned (.int .i64 d) ∧ Kept [] W w'))
  have hbl := h.lt
  clear h hd
  go_enter Try.func29, Try.ntmps29
  go_wp2_with fail
  go_region_with (first
    | (go_at_call 14; refine (rat_any b gv P i e _ (unhide HRe _ (by repeat (first | exact Kept.refl _ _ | apply Kept.drew | apply Kept.drewN | apply Kept.alloc)))).mono ?_; rintro r w2 ⟨rfl, hw2⟩; subst w2)
    | (go_at_call 15; refine (rerr_any b gv P i e _ (unhide HRe _ (by repeat (first | exact Kept.refl _ _ | apply Kept.drew | apply Kept.drewN | apply Kept.alloc)))).mono ?_; rintro r w2 ⟨rfl, hw2⟩; subst w2)
    | (go_at_call 58; refine (unhide HDr _).mono ?_; rintro r w3 ⟨rfl, k3⟩; have HK3 := hide (Kept.trans (L := []) (by repeat (first | exact Kept.refl _ _ | apply Kept.drew | apply Kept.drewN | apply Kept.alloc)) k3 (by simp) : Kept [] w w3); clear k3)
    | (go_at_call 16; refine (unhide HD _ (by first | exact unhide HK3 | (repeat (first | exact Kept.refl _ _ | apply Kept.drew | apply Kept.drewN | apply Kept.alloc)))).mono ?_; rintro r w4 ⟨rfl, n4, hw4⟩; subst w4))
  all_goals
    go_wp2
    go_ret
    refine ⟨rfl, ?_⟩
    repeat (first | exact unhide HK3 | apply Kept.drew | apply Kept.drewN)
end Go.Proofs.Ytbbjbpjpejekgaa
namespace Go.Proofs.Ytbbjbpjpejekgaa
open Go.RowKit Go.BigFrame
set_option linter.unusedVariables false
set_option linter.unusedSimpArgs false

/-- What a round of 'reads' finds: two readers, the document's two, the list that was given, and two rows of lists. z: all of the first lie below it, all of the rows from it on. -/
structure RkI (w0 w : World) (z b1 b2 s n c1 c2 g gc : Nat) (g1 g2 : Value) (P Q X : List Nat) (i1 e1 i2 e2 j1 f1 j2 f2 : Nat) (tv tw : Value) (L LW : List LT) (xs ys : List (List Nat)) (fp fq : List Nat) : Prop where
  r1 : ReAt w b1 g1 P i1 e1
  r2 : ReAt w b2 g2 Q j1 f1
  s1 : w.heap[s]? = some (.cells #[.slice (some ⟨c1, 0, none⟩) P.length P.length, .int .i64 i2, .int .i64 e2] 56 (0, 0))
  s2 : w.heap[n]? = some (.cells #[.slice (some ⟨c2, 0, none⟩) Q.length Q.length, .int .i64 j2, .int .i64 f2] 56 (0, 0))
  d1 : Rd w (.slice (some ⟨c1, 0, none⟩) P.length P.length) P
  d2 : Rd w (.slice (some ⟨c2, 0, none⟩) Q.length Q.length) Q
  gv : Gv w0.heap.size w g gc X
  k : Kept [] w0 w
  t : Told z w tv L xs fp
  u : Told z w tw LW ys fq
  fa : ∀ x, x ∈ fp ∨ x ∈ fq → z ≤ x ∧ x < w.heap.size
  dj : ∀ x ∈ fp, x ∉ fq
  lo : w0.heap.size ≤ b1 ∧ w0.heap.size ≤ b2 ∧ w0.heap.size ≤ s ∧ w0.heap.size ≤ n ∧ w0.heap.size ≤ z
  hi : b1 < z ∧ b2 < z ∧ s < z ∧ n < z ∧ g < z ∧ c1 < z ∧ c2 < z
  ne : b1 ≠ b2 ∧ b1 ≠ s ∧ b1 ≠ n ∧ b2 ≠ s ∧ b2 ≠ n ∧ s ≠ n ∧ g ≠ b1 ∧ g ≠ b2 ∧ g ≠ s ∧ g ≠ n ∧ c1 ≠ b1 ∧ c1 ≠ b2 ∧ c1 ≠ s ∧ c1 ≠ n ∧ c2 ≠ b1 ∧ c2 ≠ b2 ∧ c2 ≠ s ∧ c2 ≠ n
  gn1 : ∀ x ∈ blk g1, x < z ∧ x ≠ b2 ∧ x ≠ s ∧ x ≠ n ∧ x ≠ g
  gn2 : ∀ x ∈ blk g2, x < z ∧ x ≠ b1 ∧ x ≠ s ∧ x ≠ n
theorem RkI.pass {w0 w w' : World} {z b1 b2 s n c1 c2 g gc : Nat} {g1 g2 : Value} {P Q X : List Nat} {i1 e1 i2 e2 j1 f1 j2 f2 : Nat} {tv tw : Value} {L LW : List LT} {xs ys : List (List Nat)} {fp fq : List Nat}
    (h : RkI w0 w z b1 b2 s n c1 c2 g gc g1 g2 P Q X i1 e1 i2 e2 j1 f1 j2 f2 tv tw L LW xs ys fp fq) (k : Kept [] w w') : RkI w0 w' z b1 b2 s n c1 c2 g gc g1 g2 P Q X i1 e1 i2 e2 j1 f1 j2 f2 tv tw L LW xs ys fp fq :=
  ⟨h.r1.kept k (by simp) (by simp), h.r2.kept k (by simp) (by simp), k.heap h.s1 (by simp), k.heap h.s2 (by simp), h.d1.old k (by simp), h.d2.old k (by simp), h.gv.pass k (by simp), h.k.trans k (by simp), h.t.pass k (by simp), h.u.pass k (by simp),
    fun x hx => ⟨(h.fa x hx).1, Nat.lt_of_lt_of_le (h.fa x hx).2 k.size⟩, h.dj, h.lo, h.hi, h.ne, h.gn1, h.gn2⟩
theorem RkI.below {w0 w : World} {z b1 b2 s n c1 c2 g gc : Nat} {g1 g2 : Value} {P Q X : List Nat} {i1 e1 i2 e2 j1 f1 j2 f2 : Nat} {tv tw : Value} {L LW : List LT} {xs ys : List (List Nat)} {fp fq : List Nat}
    (h : RkI w0 w z b1 b2 s n c1 c2 g gc g1 g2 P Q X i1 e1 i2 e2 j1 f1 j2 f2 tv tw L LW xs ys fp fq) {x : Nat} (hx : x < z) : x ∉ fp ∧ x ∉ fq :=
  ⟨fun hm => by have := (h.fa x (.inl hm)).1; omega, fun hm => by have := (h.fa x (.inr hm)).1; omega⟩
theorem RkI.take1 {w0 w w' : World} {z b1 b2 s n c1 c2 g gc : Nat} {g1 g2 : Value} {P Q X : List Nat} {i1 e1 i2 e2 j1 f1 j2 f2 i3 e3 : Nat} {tv tw : Value} {L LW : List LT} {xs ys : List (List Nat)} {fp fq : List Nat}
    (h : RkI w0 w z b1 b2 s n c1 c2 g gc g1 g2 P Q X i1 e1 i2 e2 j1 f1 j2 f2 tv tw L LW xs ys fp fq) (k : Kept [b1] w w') (r : ReAt w' b1 g1 P i3 e3) : RkI w0 w' z b1 b2 s n c1 c2 g gc g1 g2 P Q X i3 e3 i2 e2 j1 f1 j2 f2 tv tw L LW xs ys fp fq := by
  have hn := h.ne
  have hb := h.below h.hi.1
  have hlo := h.lo
  refine ⟨r, h.r2.kept k (by simp; omega) (fun x hx => by have := h.gn2 x hx; simp; omega), k.heap h.s1 (by simp; omega), k.heap h.s2 (by simp; omega), h.d1.kept k (by intro x hx; simp [blk] at hx; subst hx; simp; omega), h.d2.kept k (by intro x hx; simp [blk] at hx; subst hx; simp; omega), h.gv.pass k (by simp; omega), h.k.trans k (by simp; omega), h.t.pass k (by simpa using hb.1), h.u.pass k (by simpa using hb.2),
    fun x hx => ⟨(h.fa x hx).1, Nat.lt_of_lt_of_le (h.fa x hx).2 k.size⟩, h.dj, h.lo, h.hi, h.ne, h.gn1, h.gn2⟩
theorem RkI.take2 {w0 w w' : World} {z b1 b2 s n c1 c2 g gc : Nat} {g1 g2 : Value} {P Q X : List Nat} {i1 e1 i2 e2 j1 f1 j2 f2 i3 e3 : Nat} {tv tw : Value} {L LW : List LT} {xs ys : List (List Nat)} {fp fq : List Nat}
    (h : RkI w0 w z b1 b2 s n c1 c2 g gc g1 g2 P Q X i1 e1 i2 e2 j1 f1 j2 f2 tv tw L LW xs ys fp fq) (k : Kept [b2] w w') (r : ReAt w' b2 g2 Q i3 e3) : RkI w0 w' z b1 b2 s n c1 c2 g gc g1 g2 P Q X i1 e1 i2 e2 i3 e3 j2 f2 tv tw L LW xs ys fp fq := by
  have hn := h.ne
  have hb := h.below h.hi.2.1
  have hlo := h.lo
  refine ⟨h.r1.kept k (by simp; omega) (fun x hx => by have := h.gn1 x hx; simp; omega), r, k.heap h.s1 (by simp; omega), k.heap h.s2 (by simp; omega), h.d1.kept k (by intro x hx; simp [blk] at hx; subst hx; simp; omega), h.d2.kept k (by intro x hx; simp [blk] at hx; subst hx; simp; omega), h.gv.pass k (by simp; omega), h.k.trans k (by simp; omega), h.t.pass k (by simpa using hb.1), h.u.pass k (by simpa using hb.2),
    fun x hx => ⟨(h.fa x hx).1, Nat.lt_of_lt_of_le (h.fa x hx).2 k.size⟩, h.dj, h.lo, h.hi, h.ne, h.gn1, h.gn2⟩
theorem RkI.set1 {w0 w w' : World} {z b1 b2 s n c1 c2 g gc : Nat} {g1 g2 : Value} {P Q X : List Nat} {i1 e1 i2 e2 j1 f1 j2 f2 i3 e3 : Nat} {tv tw : Value} {L LW : List LT} {xs ys : List (List Nat)} {fp fq : List Nat}
    (h : RkI w0 w z b1 b2 s n c1 c2 g gc g1 g2 P Q X i1 e1 i2 e2 j1 f1 j2 f2 tv tw L LW xs ys fp fq) (k : Kept [s] w w') (r : w'.heap[s]? = some (.cells #[.slice (some ⟨c1, 0, none⟩) P.length P.length, .int .i64 i3, .int .i64 e3] 56 (0, 0))) : RkI w0 w' z b1 b2 s n c1 c2 g gc g1 g2 P Q X i1 e1 i3 e3 j1 f1 j2 f2 tv tw L LW xs ys fp fq := by
  have hn := h.ne
  have hb := h.below h.hi.2.2.1
  have hlo := h.lo
  refine ⟨h.r1.kept k (by simp; omega) (fun x hx => by have := h.gn1 x hx; simp; omega), h.r2.kept k (by simp; omega) (fun x hx => by have := h.gn2 x hx; simp; omega), r, k.heap h.s2 (by simp; omega), h.d1.kept k (by intro x hx; simp [blk] at hx; subst hx; simp; omega), h.d2.kept k (by intro x hx; simp [blk] at hx; subst hx; simp; omega), h.gv.pass k (by simp; omega), h.k.trans k (by simp; omega), h.t.pass k (by simpa using hb.1), h.u.pass k (by simpa using hb.2),
    fun x hx => ⟨(h.fa x hx).1, Nat.lt_of_lt_of_le (h.fa x hx).2 k.size⟩, h.dj, h.lo, h.hi, h.ne, h.gn1, h.gn2⟩
theorem RkI.set2 {w0 w w' : World} {z b1 b2 s n c1 c2 g gc : Nat} {g1 g2 : Value} {P Q X : List Nat} {i1 e1 i2 e2 j1 f1 j2 f2 i3 e3 : Nat} {tv tw : Value} {L LW : List LT} {xs ys : List (List Nat)} {fp fq : List Nat}
    (h : RkI w0 w z b1 b2 s n c1 c2 g gc g1 g2 P Q X i1 e1 i2 e2 j1 f1 j2 f2 tv tw L LW xs ys fp fq) (k : Kept [n] w w') (r : w'.heap[n]? = some (.cells #[.slice (some ⟨c2, 0, none⟩) Q.length Q.length, .int .i64 i3, .int .i64 e3] 56 (0, 0))) : RkI w0 w' z b1 b2 s n c1 c2 g gc g1 g2 P Q X i1 e1 i2 e2 j1 f1 i3 e3 tv tw L LW xs ys fp fq := by
  have hn := h.ne
  have hb := h.below h.hi.2.2.2.1
  have hlo := h.lo
  refine ⟨h.r1.kept k (by simp; omega) (fun x hx => by have := h.gn1 x hx; simp; omega), h.r2.kept k (by simp; omega) (fun x hx => by have := h.gn2 x hx; simp; omega), k.heap h.s1 (by simp; omega), r, h.d1.kept k (by intro x hx; simp [blk] at hx; subst hx; simp; omega), h.d2.kept k (by intro x hx; simp [blk] at hx; subst hx; simp; omega), h.gv.pass k (by simp; omega), h.k.trans k (by simp; omega), h.t.pass k (by simpa using hb.1), h.u.pass k (by simpa using hb.2),
    fun x hx => ⟨(h.fa x hx).1, Nat.lt_of_lt_of_le (h.fa x hx).2 k.size⟩, h.dj, h.lo, h.hi, h.ne, h.gn1, h.gn2⟩
/-- Two lists more are told. -/
theorem RkI.tellT {w0 w w1 : World} {z b1 b2 s n c1 c2 g gc : Nat} {g1 g2 : Value} {P Q X : List Nat} {i1 e1 i2 e2 j1 f1 j2 f2 : Nat} {tv tw tv' : Value} {L LW L' : List LT} {xs ys xs' : List (List Nat)} {fp fq : List Nat} {t1 t2 : LT} {ob : Obj}
    (h : RkI w0 w z b1 b2 s n c1 c2 g gc g1 g2 P Q X i1 e1 i2 e2 j1 f1 j2 f2 tv tw L LW xs ys fp fq) (hN : ∀ x, (vT t1).ownBlock = some x ∨ (vT t2).ownBlock = some x → z ≤ x ∧ x < w.heap.size ∧ x ∉ fq)
    (ht : Told z w1 tv' L' xs' (tv'.ownBlock.toList ++ (blks [t1, t2] ++ fp))) (gr : (w.alloc ob).grownBy w1 tv.ownBlock) (hat : tv'.ownBlock = tv.ownBlock ∨ tv'.ownBlock = some (w.heap.size + 1)) :
    RkI w0 w1 z b1 b2 s n c1 c2 g gc g1 g2 P Q X i1 e1 i2 e2 j1 f1 j2 f2 tv' tw L' LW xs' ys (tv'.ownBlock.toList ++ (blks [t1, t2] ++ fp)) fq := by
  have hA := h.pass ((Kept.refl [] w).alloc ob)
  have hz : (w.alloc ob).heap.size = w.heap.size + 1 := by simp
  have kW : Kept tv.ownBlock.toList (w.alloc ob) w1 := (Kept.refl _ _).grown gr (by intro k hk; left; simp [hk])
  have hfr : ∀ x ∈ tv.ownBlock.toList, x ∈ fp := fun x hx => h.t.fr x (by simpa using hx)
  have hge : ∀ x ∈ tv.ownBlock.toList, z ≤ x := fun x hx => (h.fa x (.inl (hfr x hx))).1
  have hno : ∀ x, x < z → x ∉ tv.ownBlock.toList := fun x hx hm => by have := hge x hm; omega
  have hsz := kW.size
  have hi := h.hi
  have key : ∀ x ∈ tv'.ownBlock.toList ++ (blks [t1, t2] ++ fp), z ≤ x ∧ x < w1.heap.size ∧ x ∉ fq := by
    intro x hx
    rcases List.mem_append.1 hx with hx | hx
    · have hx' : tv'.ownBlock = some x := by simpa using hx
      have hlt := ht.row.lt x hx'
      refine ⟨hlt.1, hlt.2, ?_⟩
      rcases hat with h9 | h9
      · exact h.dj x (hfr x (by rw [← h9]; exact hx))
      · rw [h9] at hx'
        cases hx'
        exact fun hm => by have := (h.fa _ (.inr hm)).2; omega
    · rcases List.mem_append.1 hx with hx | hx
      · have h8 := hN x (blks2 hx)
        exact ⟨h8.1, by omega, h8.2.2⟩
      · have h8 := h.fa x (.inl hx)
        exact ⟨h8.1, by omega, h.dj x hx⟩
  refine ⟨hA.r1.kept kW (hno _ hi.1) (fun x hx => hno _ (h.gn1 x hx).1), hA.r2.kept kW (hno _ hi.2.1) (fun x hx => hno _ (h.gn2 x hx).1), kW.heap hA.s1 (hno _ hi.2.2.1), kW.heap hA.s2 (hno _ hi.2.2.2.1),
    hA.d1.kept kW (by intro x hx; simp [blk] at hx; subst hx; exact hno _ hi.2.2.2.2.2.1), hA.d2.kept kW (by intro x hx; simp [blk] at hx; subst hx; exact hno _ hi.2.2.2.2.2.2), hA.gv.pass kW (hno _ hi.2.2.2.2.1),
    hA.k.grown gr (fun x hx => .inr (by have := hge x (by simp [hx]); have := h.lo.2.2.2.2; omega)), ht, hA.u.pass kW (fun x hx hm => h.dj x (hfr x hx) hm), fun x hx => ?_, fun x hx => (key x hx).2.2, h.lo, h.hi, h.ne, h.gn1, h.gn2⟩
  rcases hx with hx | hx
  · exact ⟨(key x hx).1, (key x hx).2.1⟩
  · have h8 := h.fa x (.inr hx)
    exact ⟨h8.1, by omega⟩
theorem RkI.sym {w0 w : World} {z b1 b2 s n c1 c2 g gc : Nat} {g1 g2 : Value} {P Q X : List Nat} {i1 e1 i2 e2 j1 f1 j2 f2 : Nat} {tv tw : Value} {L LW : List LT} {xs ys : List (List Nat)} {fp fq : List Nat}
    (h : RkI w0 w z b1 b2 s n c1 c2 g gc g1 g2 P Q X i1 e1 i2 e2 j1 f1 j2 f2 tv tw L LW xs ys fp fq) : RkI w0 w z b1 b2 s n c1 c2 g gc g1 g2 P Q X i1 e1 i2 e2 j1 f1 j2 f2 tw tv LW L ys xs fq fp :=
  ⟨h.r1, h.r2, h.s1, h.s2, h.d1, h.d2, h.gv, h.k, h.u, h.t, fun x hx => h.fa x hx.symm, fun x hx hm => h.dj x hm hx, h.lo, h.hi, h.ne, h.gn1, h.gn2⟩
end Go.Proofs.Ytbbjbpjpejekgaa
namespace Go.Proofs.Ytbbjbpjpejekgaa
open Go.RowKit Go.BigFrame
set_option linter.unusedVariables false
set_option linter.unusedSimpArgs false

/-- Two lists that lie in new blocks, one behind the other. -/
theorem ows_two {base g1 g2 n : Nat} {w : World} {bs : List Nat} (h1 : w.heap[g1]? = some (.cells (bs.map u8).toArray 5 (0, 0))) (h2 : w.heap[g2]? = some (.cells (bs.map u8).toArray 5 (0, 0))) (hn : bs.length = n) (hl : n ≤ 140737488355328) (hne : g1 ≠ g2) (hb1 : base ≤ g1) (hb2 : base ≤ g2) : Ows base w [(some ⟨g1, 0, none⟩, n, n), (some ⟨g2, 0, none⟩, n, n)] := by
  subst hn
  have ow : ∀ g, w.heap[g]? = some (.cells (bs.map u8).toArray 5 (0, 0)) → OwT w (some ⟨g, 0, none⟩, bs.length, bs.length) := fun g hg =>
    ⟨bs.map u8, by simp, .inr ⟨g, bs.length, _, rfl, Nat.zero_le _, hg, Nat.le_refl _, by unfold maxLen; omega, by simp, by simp [List.take_of_length_le]⟩⟩
  refine ⟨?_, ?_, ?_⟩
  · intro t ht
    simp only [List.mem_cons, List.not_mem_nil, or_false] at ht
    rcases ht with rfl | rfl
    · exact ow g1 h1
    · exact ow g2 h2
  · simp only [List.pairwise_cons, List.mem_singleton, List.not_mem_nil, false_implies, implies_true, List.Pairwise.nil, and_true]
    intro t ht b hb1 hb2
    subst ht
    simp only [vT, Value.ownBlock, Option.some.injEq] at hb1 hb2
    omega
  · intro t ht b hb
    simp only [List.mem_cons, List.not_mem_nil, or_false] at ht
    rcases ht with rfl | rfl <;> simp only [vT, Value.ownBlock, Option.some.injEq] at hb <;> omega

set_option maxRecDepth 100000 in
set_option maxHeartbeats 8000000 in
theorem writes_any (sv : Value) (ops : List OpD) (w : World) (hs : SRd w sv ops) (hl : (scriptB ops).length ≤ 4194304) (hop : ∀ o ∈ ops, o.p.length ≤ 1048576) (hlen : ops.length ≤ 1048576) :
    Calls Try.prog 5 #[sv] w fun e w' => e = .returned (.bool true) ∧ Kept [] w w' := by
  have HS := hide hs
  have HP := hide hop
  have Hsu := hide (fun (k : Nat) (o : OpD) (h : ops[k]? = some o) => scriptB_take_succ h)
  have Hle := hide (fun (k : Nat) => scriptB_le (ops := ops) k)
  obtain ⟨ao, cap, rfl, h1, h2, h2', h3, h4⟩ := hs
  clear h3 h4 hop
  go_enter Try.func5, Try.ntmps5
  go_wp2_with fail
  go_loopw [4, 5, 6, 16] (fun t4 t5 t6 t16 wr => ∃ (k : Nat) (v : Value) (bs : List Nat) (aa ta wa : Option Addr) (ca tc wc : Nat) (L LW : List LT) (xs : List (List Nat)) (fp fq : List Nat), k ≤ ops.length ∧ t16 = .int .i64 k ∧ t4 = .slice aa bs.length ca ∧ t5 = .slice ta L.length tc ∧ t6 = .slice wa LW.length wc ∧ bs.length ≤ 4194304 ∧ L.length ≤ 25 ∧ LW.length ≤ 25 ∧ Hid (bs = scriptB (ops.take k)) ∧ Hid (Rd wr (.slice aa bs.length ca) bs) ∧ Hid (∀ x ∈ eblk (.slice aa bs.length ca) bs, x < wr.heap.size ∧ x ≠ w.heap.size ∧ v.ownBlock ≠ some x ∧ x ∉ fp) ∧ Hid (∀ t ∈ L, t.2.1 ≤ 4194304) ∧ Hid (WkI w wr w.heap.size v bs (.slice ta L.length tc) (.slice wa LW.length wc) L LW xs xs fp fq)) (fun _ _ _ i _ => ops.length - (intOf i).toNat)
  case atStart => exact ⟨0, _, [], none, none, none, 0, 0, 0, [], [], [], [], [], Nat.zero_le _, rfl, rfl, rfl, rfl, by simp, by simp, by simp, hide (by simp [scriptB]), Rd.nil _, hide (by simp [eblk]), hide (by simp), ⟨WrAt.new w, (Kept.refl [] w).alloc _, by simp [Value.ownBlock], Told.start _ _, Told.start _ _, by simp, by simp, Nat.le_refl _⟩⟩
  case round =>
    obtain ⟨k, v, bs, aa, ta, wa, ca, tc, wc, L, LW, xs, fp, fq, hk, rfl, rfl, rfl, rfl, hb4, hL25, hLW25, Hbs, HA, HAb, HLB, HI⟩ := hrel
    by_cases hlt : k < ops.length
    · have hko : ops[k]? = some ops[k] := List.getElem?_eq_getElem hlt
      have hg := (unhide HS).get (unhide HI).k k _ hko
      have hpl := unhide HP _ (List.getElem_mem hlt)
      have hzs := unhide Hsu k _ hko
      have hle1 := unhide Hle (k + 1)
      generalize ops[k] = o at hg hpl hzs
      obtain ⟨bo, off, ao2, n2, c2, he, hpv, d0, d1, d2, d3, a1, hbl, hrd⟩ := hg
      cases he
      obtain ⟨ok, ox, on, opv, op⟩ := o
      simp only at hpv d0 d1 d2 a1 hrd hpl hzs
      subst hpv
      rw [← unhide Hbs] at hzs
      have HRo := hide hrd
      have Hzs := hide hzs
      have a1' : (ox : Int) ≤ 18446744073709551615 := by omega
      have hkl : (k : Int) < (ops.length : Int) := by omega
      have HXL := hide (by rw [List.length_append, marks_len] : (op ++ marks 40).length = op.length + 40)
      have HXT := hide (List.take_left : (op ++ marks 40).take op.length = op)
      have HI1 := hide ((unhide HI).pass ((Kept.refl [] wr).alloc (.cells #[.int .i64 ok, .int .u64 ox, .int .i64 on, .slice ao2 n2 c2] 44)))
      have HA1 := hide ((unhide HA).old ((Kept.refl [] wr).alloc (.cells #[.int .i64 ok, .int .u64 ox, .int .i64 on, .slice ao2 n2 c2] 44)) (by simp))
      have HB8 := hide (heap_alloc_new wr (.cells #[.int .i64 ok, .int .u64 ox, .int .i64 on, .slice ao2 n2 c2] 44))
      have hwr : w.heap.size < wr.heap.size := (unhide HI).wr.lt
      have HVO := hide (fun g hg => (unhide HI).wr.ownlt hg : ∀ g, v.ownBlock = some g → g < wr.heap.size)
      clear hrd hzs hko HI HA
      go_wp2_with fail
      obtain ⟨W1, hW1⟩ : ∃ W, wr.alloc (.cells #[.int .i64 ok, .int .u64 ox, .int .i64 on, .slice ao2 n2 c2] 44) = W := ⟨_, rfl⟩
      rw [hW1] at HI1 HA1 HB8 ⊢
      have hz1 : W1.heap.size = wr.heap.size + 1 := by rw [← hW1]; simp
      clear hW1
      refine (laid_any ok ox on _ op W1 a1 (by exact (unhide HRo).old (unhide HI1).k (by simp)) (by omega)).mono ?_
      rintro e w2 ⟨lv2, rfl, hr2, k2, hb2⟩
      obtain ⟨ao3, n3, c3, rfl, hn3⟩ : ∃ ao n c, lv2 = .slice ao n c ∧ (layB ok ox op).length = n := by obtain ⟨ao, n, c, e, h, _⟩ := hr2; exact ⟨ao, n, c, e, h⟩
      subst hn3
      have HRb := hide (fun x hx => ⟨hb2 x (by unfold eblk at hx; split at hx; simp at hx; exact hx), rd_ltF hr2 x hx⟩ : ∀ x ∈ eblk (.slice ao3 (layB ok ox op).length c3) (layB ok ox op), W1.heap.size ≤ x ∧ x < w2.heap.size)
      have HR2 := hide hr2
      have HIw := hide ((unhide HI1).pass k2)
      have HA2 := hide ((unhide HA1).old k2 (by simp))
      have HB82 := hide (k2.heap (unhide HB8) (by simp))
      have HNB := hide ((unhide HIw).new (Nat.le_refl _))
      have hz2 := k2.size
      have e0 : w2.cell? ⟨wr.heap.size, 0, none⟩ = some (.int .i64 ok) := by rw [cell_of_row _ _ _ _ _ _ (unhide HB82)]; rfl
      have e1 : w2.cell? ⟨wr.heap.size, 1, none⟩ = some (.int .u64 ox) := by rw [cell_of_row _ _ _ _ _ _ (unhide HB82)]; rfl
      have e2 : w2.cell? ⟨wr.heap.size, 2, none⟩ = some (.int .i64 on) := by rw [cell_of_row _ _ _ _ _ _ (unhide HB82)]; rfl
      have e3 : w2.cell? ⟨wr.heap.size, 3, none⟩ = some (.slice ao2 n2 c2) := by rw [cell_of_row _ _ _ _ _ _ (unhide HB82)]; rfl
      have kA2 : Kept [] w2 (w2.alloc (.cells #[.int .i64 ok, .int .u64 ox, .int .i64 on, .slice ao2 n2 c2] 44)) := (Kept.refl [] w2).alloc _
      have HB10 := hide (heap_alloc_new w2 (.cells #[.int .i64 ok, .int .u64 ox, .int .i64 on, .slice ao2 n2 c2] 44))
      have HKA2 := hide kA2
      have e4 : (w2.alloc (.cells #[.int .i64 ok, .int .u64 ox, .int .i64 on, .slice ao2 n2 c2] 44)).cell? ⟨wr.heap.size, 3, none⟩ = some (.slice ao2 n2 c2) := kA2.cell e3 (by simp)
      have HI2 := hide ((unhide HIw).pass kA2)
      clear hr2 k2 hb2 HI1 HA1 HB8 kA2 HIw
      go_wp2_with fail
      obtain ⟨W2, hW2⟩ : ∃ W, w2.alloc (.cells #[.int .i64 ok, .int .u64 ox, .int .i64 on, .slice ao2 n2 c2] 44) = W := ⟨_, rfl⟩
      rw [hW2] at HI2 HB10 HKA2 e4 ⊢
      have hz22 : W2.heap.size = w2.heap.size + 1 := by rw [← hW2]; simp
      clear hW2 e0 e1 e2 e3 e4
      refine (spare_gv _ op W2 (by exact (unhide HRo).old (unhide HI2).k (by simp)) (by omega)).mono ?_
      rintro e w3 ⟨g, gc, rfl, G3, k3⟩
      have hg3 := G3.lt
      have hgl := G3.lo
      have HNG := hide ((unhide HI2).new hgl)
      have HB103 := hide (k3.heap (unhide HB10) (by simp))
      have f3 : w3.frozen? ⟨w2.heap.size, 3, none⟩ = false := frozen_of_row _ _ _ _ _ (unhide HB103)
      have c3' : w3.cell? ⟨w2.heap.size, 3, none⟩ = some (.slice ao2 n2 c2) := by rw [cell_of_row _ _ _ _ _ _ (unhide HB103)]; rfl
      have kS := (Kept.refl [w2.heap.size] w3).setCell (p := ⟨w2.heap.size, 3, none⟩) (by simp) (.slice (some ⟨g, 0, none⟩) op.length gc)
      have HI3 := hide (((unhide HI2).pass k3).passN kS (by intro x hx; simp at hx; subst hx; exact ⟨unhide HNB, by have := (unhide HI2).k.size; have := (unhide HI2).wr.lt; have := hz2; omega⟩))
      have HG3 := hide (G3.pass kS (by simp; omega))
      have HB1033 := hide (heap_setCell_same w3 w2.heap.size 3 _ _ (.slice (some ⟨g, 0, none⟩) op.length gc) (unhide HB103))
      have HK3 := hide (((unhide HKA2).trans k3 (by simp)).join kS : Kept ([] ++ [w2.heap.size]) w2 _)
      clear G3 k3 HI2 HB10 HB103 HKA2 kS
      obtain ⟨W3, hW3⟩ : ∃ W, w3.setCell ⟨w2.heap.size, 3, none⟩ (.slice (some ⟨g, 0, none⟩) op.length gc) = W := ⟨_, rfl⟩
      have HW3 := hide hW3
      rw [hW3] at HI3 HG3 HB1033 HK3
      have hz3 : W3.heap.size = w3.heap.size := by rw [← hW3]; simp [World.setCell]
      clear hW3
      have q0 : W3.cell? ⟨w2.heap.size, 0, none⟩ = some (.int .i64 ok) := by rw [cell_of_row _ _ _ _ _ _ (unhide HB1033)]; rfl
      have q1 : W3.cell? ⟨w2.heap.size, 1, none⟩ = some (.int .u64 ox) := by rw [cell_of_row _ _ _ _ _ _ (unhide HB1033)]; rfl
      have q2 : W3.cell? ⟨w2.heap.size, 2, none⟩ = some (.int .i64 on) := by rw [cell_of_row _ _ _ _ _ _ (unhide HB1033)]; rfl
      have q3 : W3.cell? ⟨w2.heap.size, 3, none⟩ = some (.slice (some ⟨g, 0, none⟩) op.length gc) := by rw [cell_of_row _ _ _ _ _ _ (unhide HB1033)]; rfl
      rw [← unhide HW3] at q0 q1 q2 q3
      go_wp2_with fail
      simp only [unhide HW3] at q0 q1 q2 q3 ⊢
      clear q0 q1 q2 q3 f3 c3'
      refine (lay_any w.heap.size v bs ok ox on _ op W3 (unhide HI3).wr (by
        intro w' kw
        have h9 := ((unhide HG3).pass kw (by
          intro hm
          have hn := unhide HNG
          rcases List.mem_cons.1 hm with h8 | h8
          · exact hn.2.2.1 h8
          · exact hn.2.2.2 (by simpa using h8))).rdn op.length (by rw [unhide HXL]; omega)
        rw [unhide HXT] at h9; exact h9) a1 (by omega)).mono ?_
      rintro e w4 ⟨rfl, v4, h4w, k4⟩
      rw [← unhide Hzs] at h4w
      have HI4 := hide ((unhide HI3).lay h4w k4)
      have HNG4 := hide ((unhide HNG).lay k4 (by omega))
      have hgn := unhide HNG
      have HG4 := hide ((unhide HG3).pass k4.kept (by
        intro hm
        rcases List.mem_cons.1 hm with h8 | h8
        · exact hgn.2.2.1 h8
        · exact hgn.2.2.2 (by simpa using h8)))
      have HK4 := hide ((unhide HK3).join k4.kept)
      have HB84 := hide ((unhide HK4).heap (unhide HB82) (by
        simp only [List.nil_append, List.cons_append, List.mem_cons, Option.mem_toList, not_or]
        exact ⟨by omega, by omega, fun e => by have := unhide HVO _ e; omega⟩))
      have e3 : w4.cell? ⟨wr.heap.size, 3, none⟩ = some (.slice ao2 n2 c2) := by rw [cell_of_row _ _ _ _ _ _ (unhide HB84)]; rfl
      clear h4w k4 hgn HI3 HNG HG3 HK3 HB82 HW3 HB1033
      go_wp2_with fail
      have hg9 := (unhide HG4).rd
      rw [unhide HXL] at hg9
      refine (kept_any _ _ op w4 hg9 (by exact (unhide HRo).old (unhide HI4).k (by simp)) (by omega)).mono ?_
      rintro e w5 ⟨rfl, d5, h5⟩
      have kD : Kept [] w4 w5 := by rw [h5]; exact (Kept.refl [] w4).drewN d5
      have HI5 := hide ((unhide HI4).pass kD)
      have HG5 := hide ((unhide HG4).pass kD (by simp))
      have HK5 := hide ((unhide HK4).join kD)
      clear h5 kD hg9 HI4 HG4 HK4 HB84 e3
      go_wp2_with fail
      refine (over_gv W2.heap.size g gc (op.length + 40) (op ++ marks 40) w5 (unhide HG5) (by rw [unhide HXL]; omega)).mono ?_
      rintro e w6 ⟨rfl, k6, _⟩
      have HI6 := hide ((unhide HI5).passN k6 (by intro x hx; simp at hx; subst hx; exact ⟨unhide HNG4, by have := (unhide HI5).bl; omega⟩))
      have HK6 := hide ((unhide HK5).join k6)
      have HR6 := hide ((unhide HR2).keptE (unhide HK6) (by
        intro x hx hm
        have h8 := unhide HRb x hx
        simp only [List.nil_append, List.append_nil, List.cons_append, List.append_assoc, List.mem_cons, List.mem_append, Option.mem_toList, List.not_mem_nil, or_false] at hm
        rcases hm with h9 | h9 | h9 | h9
        · omega
        · omega
        · have := unhide HVO _ h9; omega
        · omega))
      have HA6 := hide ((unhide HA2).keptE (unhide HK6) (by
        intro x hx hm
        have h8 := unhide HAb x hx
        simp only [List.nil_append, List.append_nil, List.cons_append, List.append_assoc, List.mem_cons, List.mem_append, Option.mem_toList, List.not_mem_nil, or_false] at hm
        rcases hm with h9 | h9 | h9 | h9
        · omega
        · exact h8.2.1 h9
        · exact h8.2.2.1 h9
        · omega))
      have hlb := congrArg List.length (unhide Hzs)
      rw [List.length_append] at hlb
      clear k6 HI5 HG5 HK5 HK6 HR2 HA2 HAb HNB HNG4 HRb
      go_wp2_with fail
      refine (join_any _ _ bs (layB ok ox op) w6 (unhide HA6) (unhide HR6) (by omega)).mono ?_
      rintro e w7 ⟨lv7, rfl, hr7, k7, hb7⟩
      rw [← unhide Hzs] at hr7
      obtain ⟨ao4, n4, c4, rfl, hn4⟩ : ∃ ao n c, lv7 = .slice ao n c ∧ (scriptB (ops.take (k + 1))).length = n := by obtain ⟨ao, n, c, e, h, _⟩ := hr7; exact ⟨ao, n, c, e, h⟩
      subst hn4
      generalize hB : scriptB (ops.take (k + 1)) = B at *
      have hBl : B.length ≤ 4194304 := by omega
      have HB := hide hB
      have HR7 := hide hr7
      have HI7 := hide ((unhide HI6).pass k7)
      have HAN := hide (fun x hx => (by
        have h5 := hb7 x (by unfold eblk at hx; split at hx; simp at hx; exact hx)
        have h6 := rd_ltF hr7 x hx
        have h7 := (unhide HI6).wr.lt
        exact ⟨h6, by omega, fun h => by have := (unhide HI6).wr.ownlt h; omega, fun hm => by have := ((unhide HI6).fa x (.inl hm)).1; omega, fun hm => by have := ((unhide HI6).fa x (.inr hm)).1; omega⟩) : ∀ x ∈ eblk (.slice ao4 B.length c4) B, x < w7.heap.size ∧ x ≠ w.heap.size ∧ v4.ownBlock ≠ some x ∧ x ∉ fp ∧ x ∉ fq)
      have hz7 := (unhide HI7).k.size
      clear hr7 k7 hb7 hB hlb HI6 HR6 HA6 hle1
      go_wp2_with fail
      refine (wbytes_any w.heap.size v4 B w7 (unhide HI7).wr (by omega)).mono ?_
      rintro e w8 ⟨rfl, k8, r8⟩
      have HI8 := hide ((unhide HI7).pass k8)
      have HN8 := hide ((unhide HI7).new (Nat.le_refl _))
      have HR8 := hide ((unhide HR7).old k8 (by simp))
      have HF8 := hide r8
      have hz8 := lt_of_block r8
      clear k8 r8
      go_wp2_with fail
      refine (wbytes_any w.heap.size v4 B w8 (unhide HI8).wr (by omega)).mono ?_
      rintro e w9 ⟨rfl, k9, r9⟩
      have HI9 := hide ((unhide HI8).pass k9)
      have HN9 := hide ((unhide HI8).new (Nat.le_refl _))
      have HR9 := hide ((unhide HR8).old k9 (by simp))
      have HF89 := hide (k9.heap (unhide HF8) (by simp))
      have HF9 := hide r9
      have hz9 := lt_of_block r9
      clear k9 r9 HI7 HI8 HR7 HR8 HF8
      go_wp2_with fail
      refine (same_any _ _ B B w9 (rd_fresh (unhide HF89) (unhide HI9).wr.byte (by omega)) (unhide HR9)).mono ?_
      rintro e w10 ⟨rfl, d10, h10⟩
      have k10 : Kept [] w9 w10 := by rw [h10]; exact (Kept.refl [] w9).drewN d10
      have HI10 := hide ((unhide HI9).pass k10)
      have HR10 := hide ((unhide HR9).old k10 (by simp))
      have HF810 := hide (k10.heap (unhide HF89) (by simp))
      have HF910 := hide (k10.heap (unhide HF9) (by simp))
      have hz10 := k10.size
      clear k10 h10 HI9 HR9 HF89 HF9
      rw [decide_eq_true (rfl : B = B)]
      go_wp2_with fail
      refine (same_any _ _ B B w10 (rd_fresh (unhide HF910) (unhide HI10).wr.byte (by omega)) (unhide HR10)).mono ?_
      rintro e w11 ⟨rfl, d11, h11⟩
      have k11 : Kept [] w10 w11 := by rw [h11]; exact (Kept.refl [] w10).drewN d11
      have HI11 := hide ((unhide HI10).pass k11)
      have HR11 := hide ((unhide HR10).old k11 (by simp))
      have HF811 := hide (k11.heap (unhide HF810) (by simp))
      have HF911 := hide (k11.heap (unhide HF910) (by simp))
      have hz11 := k11.size
      clear k11 h11 HI10 HR10 HF810 HF910
      rw [decide_eq_true (rfl : B = B)]
      by_cases h24 : L.length < 24
      · have h24' : (L.length : Int) < 24 := by omega
        have HLWL := hide (by rw [(unhide HI11).s.len, (unhide HI11).t.len] : LW.length = L.length)
        have HO11 := hide (ows_two (base := w.heap.size) (unhide HF811) (unhide HF911) rfl (by omega) (by omega) (by omega) (by omega))
        have HRA := hide (rd_fresh (unhide HF811) (unhide HI11).wr.byte (by omega))
        have HRB := hide (rd_fresh (unhide HF911) (unhide HI11).wr.byte (by omega))
        have HN12 := hide (by
          intro x hx
          rcases hx with hx | hx <;> simp only [vT, Value.ownBlock, Option.some.injEq] at hx <;> subst hx
          · exact ⟨unhide HN8, by omega⟩
          · exact ⟨unhide HN9, by omega⟩ : ∀ x, (vT (some ⟨w7.heap.size, 0, none⟩, B.length, B.length)).ownBlock = some x ∨ (vT (some ⟨w8.heap.size, 0, none⟩, B.length, B.length)).ownBlock = some x → WkN w.heap.size v4 fp fq x ∧ x < w11.heap.size)
        go_wp2_with (at_builtin; go_must (refine wpList_told2 rfl (.tmp 57) (.tmp 60) rfl rfl w11 w.heap.size _ L xs fp (some ⟨w7.heap.size, 0, none⟩, B.length, B.length) (some ⟨w8.heap.size, 0, none⟩, B.length, B.length) B B (unhide HI11).t (unhide HO11) (unhide HRA) (unhide HRB) (fun x hx => (unhide HN12 x hx).1.1) (by omega) (by omega) rfl rfl ?_; intro a12 c12 w12 HT12 HG12 HH12))
        have HI12 := hide ((unhide HI11).tellT (unhide HN12) (unhide HT12) (unhide HG12) (unhide HH12))
        have kW : Kept (Value.slice ta L.length tc).ownBlock.toList (w11.alloc (.cells #[.slice (some ⟨w7.heap.size, 0, none⟩) B.length B.length, .slice (some ⟨w8.heap.size, 0, none⟩) B.length B.length] 22)) w12 := (Kept.refl _ _).grown (unhide HG12) (by intro k hk; left; simp [hk])
        have hz12 := kW.size
        have hz12' : (w11.alloc (.cells #[.slice (some ⟨w7.heap.size, 0, none⟩) B.length B.length, .slice (some ⟨w8.heap.size, 0, none⟩) B.length B.length] 22)).heap.size = w11.heap.size + 1 := by simp
        have HR12 := hide (((unhide HR11).old ((Kept.refl [] w11).alloc (.cells #[.slice (some ⟨w7.heap.size, 0, none⟩) B.length B.length, .slice (some ⟨w8.heap.size, 0, none⟩) B.length B.length] 22)) (by simp)).keptE kW (fun x hx hm => (unhide HAN x hx).2.2.2.1 ((unhide HI11).t.fr x (by simpa using hm))))
        have HAN12 := hide (by
          intro x hx
          have h8 := unhide HAN x hx
          refine ⟨by omega, h8.2.1, h8.2.2.1, fun hm => ?_, h8.2.2.2.2⟩
          rcases List.mem_append.1 hm with hm | hm
          · have hm' : (Value.slice a12 (L.length + 2) c12).ownBlock = some x := by simpa using hm
            rcases unhide HH12 with h9 | h9
            · rw [h9] at hm'; exact h8.2.2.2.1 ((unhide HI11).t.fr x hm')
            · rw [h9] at hm'; simp only [Option.some.injEq] at hm'; omega
          · rcases List.mem_append.1 hm with hm | hm
            · rcases blks2 hm with h9 | h9 <;> simp only [vT, Value.ownBlock, Option.some.injEq] at h9 <;> omega
            · exact h8.2.2.2.1 hm : ∀ x ∈ eblk (.slice ao4 B.length c4) B, x < w12.heap.size ∧ x ≠ w.heap.size ∧ v4.ownBlock ≠ some x ∧ x ∉ (Value.slice a12 (L.length + 2) c12).ownBlock.toList ++ (blks [(some ⟨w7.heap.size, 0, none⟩, B.length, B.length), (some ⟨w8.heap.size, 0, none⟩, B.length, B.length)] ++ fp) ∧ x ∉ fq)
        have HLB12 := hide (by
          intro t ht
          rcases List.mem_append.1 ht with ht | ht
          · exact unhide HLB t ht
          · simp only [List.mem_cons, List.not_mem_nil, or_false] at ht
            rcases ht with rfl | rfl <;> exact hBl : ∀ t ∈ L ++ [((some ⟨w7.heap.size, 0, none⟩ : Option Addr), B.length, B.length), (some ⟨w8.heap.size, 0, none⟩, B.length, B.length)], t.2.1 ≤ 4194304)
        have HL12 := hide (by simp : (L ++ [((some ⟨w7.heap.size, 0, none⟩ : Option Addr), B.length, B.length), (some ⟨w8.heap.size, 0, none⟩, B.length, B.length)]).length = L.length + 2)
        clear kW HT12 HG12 HH12 HI11 HR11 HO11 HRA HRB HN12 HAN HF811 HF911 HN8 HN9 HLB
        generalize (Value.slice a12 (L.length + 2) c12).ownBlock.toList ++ (blks [(some ⟨w7.heap.size, 0, none⟩, B.length, B.length), (some ⟨w8.heap.size, 0, none⟩, B.length, B.length)] ++ fp) = fp2 at HI12 HAN12
        generalize L ++ [((some ⟨w7.heap.size, 0, none⟩ : Option Addr), B.length, B.length), (some ⟨w8.heap.size, 0, none⟩, B.length, B.length)] = L2 at HI12 HLB12 HL12
        go_wp2_with fail
        refine (twin_any _ B w12 (unhide HR12)).mono ?_
        rintro e w13 ⟨rfl, k13, r13⟩
        have HI13 := hide ((unhide HI12).pass k13)
        have HN13 := hide ((unhide HI12).new (Nat.le_refl _))
        have HR13 := hide ((unhide HR12).old k13 (by simp))
        have HF13 := hide r13
        have hz13 := lt_of_block r13
        clear k13 r13
        go_wp2_with fail
        refine (twin_any _ B w13 (unhide HR13)).mono ?_
        rintro e w14 ⟨rfl, k14, r14⟩
        have HI14 := hide ((unhide HI13).pass k14)
        have HN14 := hide ((unhide HI13).new (Nat.le_refl _))
        have HR14 := hide ((unhide HR13).old k14 (by simp))
        have HF134 := hide (k14.heap (unhide HF13) (by simp))
        have HF14 := hide r14
        have hz14 := lt_of_block r14
        clear k14 r14 HI12 HI13 HR12 HR13 HF13
        have HO14 := hide (ows_two (base := w.heap.size) (unhide HF134) (unhide HF14) rfl (by omega) (by omega) (by omega) (by omega))
        have HRA := hide (rd_fresh (unhide HF134) (unhide HI14).wr.byte (by omega))
        have HRB := hide (rd_fresh (unhide HF14) (unhide HI14).wr.byte (by omega))
        have HN15 := hide (by
          intro x hx
          rcases hx with hx | hx <;> simp only [vT, Value.ownBlock, Option.some.injEq] at hx <;> subst hx
          · exact ⟨(unhide HN13).sym, by omega⟩
          · exact ⟨(unhide HN14).sym, by omega⟩ : ∀ x, (vT (some ⟨w12.heap.size, 0, none⟩, B.length, B.length)).ownBlock = some x ∨ (vT (some ⟨w13.heap.size, 0, none⟩, B.length, B.length)).ownBlock = some x → WkN w.heap.size v4 fq fp2 x ∧ x < w14.heap.size)
        go_wp2_with (at_builtin; go_must (refine wpList_told2 rfl (.tmp 62) (.tmp 67) rfl rfl w14 w.heap.size _ LW xs fq (some ⟨w12.heap.size, 0, none⟩, B.length, B.length) (some ⟨w13.heap.size, 0, none⟩, B.length, B.length) B B (unhide HI14).s (unhide HO14) (unhide HRA) (unhide HRB) (fun x hx => (unhide HN15 x hx).1.1) (by omega) (by omega) rfl rfl ?_; intro a15 c15 w15 HT15 HG15 HH15))
        have HI15 := hide ((unhide HI14).sym.tellT (unhide HN15) (unhide HT15) (unhide HG15) (unhide HH15)).sym
        have kW : Kept (Value.slice wa LW.length wc).ownBlock.toList (w14.alloc (.cells #[.slice (some ⟨w12.heap.size, 0, none⟩) B.length B.length, .slice (some ⟨w13.heap.size, 0, none⟩) B.length B.length] 22)) w15 := (Kept.refl _ _).grown (unhide HG15) (by intro k hk; left; simp [hk])
        have hz15 := kW.size
        have hz15' : (w14.alloc (.cells #[.slice (some ⟨w12.heap.size, 0, none⟩) B.length B.length, .slice (some ⟨w13.heap.size, 0, none⟩) B.length B.length] 22)).heap.size = w14.heap.size + 1 := by simp
        have HR15 := hide (((unhide HR14).old ((Kept.refl [] w14).alloc (.cells #[.slice (some ⟨w12.heap.size, 0, none⟩) B.length B.length, .slice (some ⟨w13.heap.size, 0, none⟩) B.length B.length] 22)) (by simp)).keptE kW (fun x hx hm => (unhide HAN12 x hx).2.2.2.2 ((unhide HI14).s.fr x (by simpa using hm))))
        have HLW2 := hide (by simp : (LW ++ [((some ⟨w12.heap.size, 0, none⟩ : Option Addr), B.length, B.length), (some ⟨w13.heap.size, 0, none⟩, B.length, B.length)]).length = LW.length + 2)
        have HREL : ∃ (L' LW' : List LT) (xs' : List (List Nat)) (fp' fq' : List Nat), L'.length = L.length + 2 ∧ LW'.length = LW.length + 2 ∧ Hid (∀ x ∈ eblk (.slice ao4 B.length c4) B, x < w15.heap.size ∧ x ≠ w.heap.size ∧ v4.ownBlock ≠ some x ∧ x ∉ fp') ∧ Hid (∀ t ∈ L', t.2.1 ≤ 4194304) ∧ Hid (WkI w w15 w.heap.size v4 B (.slice a12 (L.length + 2) c12) (.slice a15 (LW.length + 2) c15) L' LW' xs' xs' fp' fq') :=
          ⟨L2, _, _, fp2, _, unhide HL12, unhide HLW2, hide (fun x hx => ⟨by have := (unhide HAN12 x hx).1; omega, (unhide HAN12 x hx).2.1, (unhide HAN12 x hx).2.2.1, (unhide HAN12 x hx).2.2.2.1⟩), HLB12, HI15⟩
        clear kW HT15 HG15 HH15 HI14 HR14 HO14 HRA HRB HN15 HAN12 HF134 HF14 HN13 HN14 HLB12 HI15 HL12 HLW2
        obtain ⟨L', LW', xs', fp', fq', hl1, hl2, HQ1, HQ2, HQ3⟩ := HREL
        rw [← hl1, ← hl2] at HQ3
        have HL1 := hide hl1
        have HL2 := hide hl2
        clear hl1 hl2
        go_wp2
        go_roundw
        case rel => exact ⟨k + 1, v4, B, ao4, a12, a15, c4, c12, c15, L', LW', xs', fp', fq', by omega, by go_num, rfl, by rw [unhide HL1], by rw [unhide HL2], hBl, by rw [unhide HL1]; omega, by rw [unhide HL2, unhide HLWL]; omega, hide (unhide HB).symm, HR15, HQ1, HQ2, HQ3⟩
        case measure => simp [intOf]; omega
      · have h24' : ¬ (L.length : Int) < 24 := by omega
        go_wp2
        go_roundw
        case rel => exact ⟨k + 1, v4, B, ao4, ta, wa, c4, tc, wc, L, LW, xs, fp, fq, by omega, by go_num, rfl, rfl, rfl, hBl, hL25, hLW25, hide (unhide HB).symm, HR11, hide (fun x hx => ⟨by have := (unhide HAN x hx).1; omega, (unhide HAN x hx).2.1, (unhide HAN x hx).2.2.1, (unhide HAN x hx).2.2.2.1⟩), HLB, HI11⟩
        case measure => simp [intOf]; omega
    · have hlt' : ¬ (k : Int) < (ops.length : Int) := by omega
      go_wp2_with fail
      refine (sameAll_any _ _ xs xs wr (unhide HI).t.rdl (unhide HI).s.rdl).mono ?_
      rintro e w1 ⟨rfl, d1, h1⟩
      have k1 : Kept [] wr w1 := by rw [h1]; exact (Kept.refl [] wr).drewN d1
      have HI1 := hide ((unhide HI).pass k1)
      have HA1 := hide ((unhide HA).old k1 (by simp))
      clear k1 h1 HA HI
      rw [decide_eq_true (rfl : xs = xs)]
      go_wp2_with fail
      refine (apart_own w.heap.size w.heap.size _ L w1 (unhide HI1).t.row (unhide HI1).t.ows (unhide HLB) (by omega)).mono ?_
      rintro e w2 ⟨rfl, k2⟩
      have hfp : ∀ x ∈ blks L, x ∈ fp := by
        intro x hx
        obtain ⟨t, ht, h9⟩ := List.mem_flatMap.1 hx
        exact (unhide HI1).t.fl t ht x (by simpa using h9)
      have HA2 := hide ((unhide HA1).keptE k2 (fun x hx hm => (unhide HAb x hx).2.2.2 (hfp x hm)))
      have HW2 := hide ((unhide HI1).wr.kept k2 (fun hm => ((unhide HI1).fa _ (.inl (hfp _ hm))).2.1 rfl) (fun g hg hm => ((unhide HI1).fa g (.inl (hfp g hm))).2.2 hg))
      have HK2 := hide ((unhide HI1).k.trans k2 (fun x hx => .inr ((unhide HI1).t.ows.blks_lo x hx)))
      clear k2 hfp
      go_wp2_with fail
      refine (wbytes_any w.heap.size v bs w2 (unhide HW2) (by omega)).mono ?_
      rintro e w3 ⟨rfl, k3, r3⟩
      have HR3 := hide (rd_fresh r3 (unhide HW2).byte (by omega))
      have HA3 := hide ((unhide HA2).old k3 (by simp))
      have HK3 := hide ((unhide HK2).trans k3 (by simp))
      clear k3 r3
      go_wp2_with fail
      refine (same_any _ _ bs bs w3 (unhide HR3) (unhide HA3)).mono ?_
      rintro e w4 ⟨rfl, d4, h4⟩
      have HK4 := hide (by rw [h4]; exact (unhide HK3).drewN d4 : Kept [] w w4)
      clear h4
      rw [decide_eq_true (rfl : bs = bs)]
      go_wp2
      go_ret
      exact ⟨rfl, unhide HK4⟩
end Go.Proofs.Ytbbjbpjpejekgaa
namespace Go.Proofs.Ytbbjbpjpejekgaa
open Go.RowKit Go.BigFrame
set_option linter.unusedVariables false
set_option linter.unusedSimpArgs false

theorem row3r {w : World} {b : Nat} {x0 x1 x2 : Value} {t : TypeId} (y0 y1 y2 : Value) (h : w.heap[b]? = some (.cells #[x0, x1, x2] t (0, 0))) :
    (((w.setCell ⟨b, 0, none⟩ y0).setCell ⟨b, 1, none⟩ y1).setCell ⟨b, 2, none⟩ y2).heap[b]? = some (.cells #[y0, y1, y2] t (0, 0)) := by
  have h1 : (w.setCell ⟨b, 0, none⟩ y0).heap[b]? = some (.cells #[y0, x1, x2] t (0, 0)) := by rw [heap_setCell_same w b 0 _ t _ h]; rfl
  have h2 : ((w.setCell ⟨b, 0, none⟩ y0).setCell ⟨b, 1, none⟩ y1).heap[b]? = some (.cells #[y0, y1, x2] t (0, 0)) := by rw [heap_setCell_same _ b 1 _ t _ h1]; rfl
  rw [heap_setCell_same _ b 2 _ t _ h2]; rfl
theorem opcells {w : World} {b : Nat} {x0 x1 x2 x3 : Value} {t : TypeId} (h : w.heap[b]? = some (.cells #[x0, x1, x2, x3] t (0, 0))) : w.cell? ⟨b, 0, none⟩ = some x0 ∧ w.cell? ⟨b, 1, none⟩ = some x1 ∧ w.cell? ⟨b, 2, none⟩ = some x2 ∧ w.cell? ⟨b, 3, none⟩ = some x3 := by
  refine ⟨?_, ?_, ?_, ?_⟩ <;> rw [cell_of_row _ _ _ _ _ _ h] <;> rfl
theorem rRaw_len (p : List Nat) (i e : Nat) (n : Int) : (rRaw p i e n).1.length ≤ p.length := by
  unfold rRaw
  split; · simp
  split; · simp
  split; · simp
  simp only [List.length_take, List.length_drop]; omega
theorem rBlob_len (p : List Nat) (i e : Nat) (n : Int) : (rBlob p i e n).1.length ≤ p.length := by
  unfold rBlob
  split; · simp
  split; · simp
  split; · simp
  split; · simp
  split; · simp
  simp only [List.length_take, List.length_drop]; omega
theorem rTake_len (p : List Nat) (i e : Nat) (k n : Int) : (rTake p i e k n).2.1.length ≤ p.length := by
  unfold rTake
  split; · simp
  split; · simp
  split; · simp
  split; · simp
  split; · simp
  split; · exact rRaw_len _ _ _ _
  split; · exact rBlob_len _ _ _ _
  simp
theorem Stay.of {base : Nat} {w w' : World} {R : World → Prop} {M : List Nat} (h : Stay base w R) (k : Kept M w w') (hM : ∀ x ∈ M, x < base) : Stay base w' R := h.pass k hM

set_option maxRecDepth 100000 in
set_option maxHeartbeats 16000000 in
theorem reads_any (pv : Value) (P : List Nat) (sv : Value) (ops : List OpD) (w : World) (hp : Rd w pv P) (hpl : P.length ≤ 1048576) (hs : SRd w sv ops) (hlen : ops.length ≤ 1048576) :
    Calls Try.prog 6 #[pv, sv] w fun e w' => e = .returned (.bool true) ∧ Kept [] w w' := by
  have HS := hide hs
  have HPr := hide hp
  have hbn := fun (o : OpD) (ho : o ∈ ops) => (by obtain ⟨_, _, _, _, _, _, h3, _⟩ := id hs; exact (h3 o ho).2.2.2.1 : -9223372036854775808 ≤ o.n)
  have hbn2 := fun (o : OpD) (ho : o ∈ ops) => (by obtain ⟨_, _, _, _, _, _, h3, _⟩ := id hs; exact (h3 o ho).2.2.2.2.1 : o.n ≤ 9223372036854775807)
  obtain ⟨pa, pn, pc, rfl, hpn, _⟩ := id hp
  subst hpn
  obtain ⟨ao, cap, rfl, h1, h2, h2', h3, h4⟩ := hs
  have Hbn := hide hbn
  have Hbn2 := hide hbn2
  have Hby := hide hp.byte
  clear h3 h4 hbn hbn2 hp
  have HXL := hide (by rw [List.length_append, marks_len] : (P ++ marks 40).length = P.length + 40)
  have HXT := hide (List.take_left : (P ++ marks 40).take P.length = P)
  go_enter Try.func6, Try.ntmps6
  go_wp2_with fail
  refine (spare_gv _ P w (unhide HPr) (by omega)).mono ?_
  rintro e w1 ⟨g, gc, rfl, G1, k1⟩
  have HG1 := hide G1
  have HK1 := hide k1
  have hg1 := G1.lt
  have hg0 := G1.lo
  clear G1 k1
  have HR1 := hide (by have h9 := (unhide HG1).rdn P.length (by rw [unhide HXL]; omega); rw [unhide HXT] at h9; exact h9 : Rd w1 (.slice (some ⟨g, 0, none⟩) P.length gc) P)
  go_wp2_with fail
  refine (newReader_any _ P w1 (unhide HR1)).mono ?_
  rintro e w2 ⟨b1, gv1, rfl, hb1, r2, hgv1, k2⟩
  have HRe1 := hide r2
  have HGv1 := hide hgv1
  have HG2 := hide ((unhide HG1).pass k2 (by simp))
  have HK2 := hide ((unhide HK1).trans k2 (by simp))
  have hb1' : b1 < w2.heap.size := r2.lt
  have hz2 := k2.size
  clear r2 hgv1 k2 HR1 HG1
  go_wp2_with fail
  have hg9 := (unhide HG2).rd
  rw [unhide HXL] at hg9
  refine (kept_any _ _ P w2 hg9 ((unhide HPr).old (unhide HK2) (by simp)) (by omega)).mono ?_
  rintro e w3 ⟨rfl, d3, h3⟩
  have k3 : Kept [] w2 w3 := by rw [h3]; exact (Kept.refl [] w2).drewN d3
  have HRe3 := hide ((unhide HRe1).kept k3 (by simp) (by simp))
  have HG3 := hide ((unhide HG2).pass k3 (by simp))
  have HK3 := hide ((unhide HK2).trans k3 (by simp))
  have hz3 := k3.size
  clear k3 h3 hg9 HRe1 HG2
  go_wp2_with fail
  refine (over_gv w.heap.size g gc (P.length + 40) (P ++ marks 40) w3 (unhide HG3) (by rw [unhide HXL]; omega)).mono ?_
  rintro e w4 ⟨rfl, k4, G4⟩
  have HRe4 := hide ((unhide HRe3).kept k4 (by simp; omega) (fun x hx => by have := unhide HGv1 x hx; simp; omega))
  have HG4 := hide G4
  have HK4 := hide ((unhide HK3).trans k4 (by simp; omega))
  have hz4 := k4.size
  obtain ⟨X, hX⟩ : ∃ X, ovr (P ++ marks 40) (P.length + 40) = X := ⟨_, rfl⟩
  have hXl : X.length = P.length + 40 := by rw [← hX, ovr_len _ _ (by rw [unhide HXL]; omega), unhide HXL]
  rw [hX] at HG4
  obtain ⟨Q, hQ⟩ : ∃ Q, X.take P.length = Q := ⟨_, rfl⟩
  have hQl : Q.length = P.length := by rw [← hQ, List.length_take]; omega
  have HQL := hide hQl
  have HXLen := hide hXl
  have HR4 := hide (by have h9 := (unhide HG4).rdn P.length (by omega); rw [hQ] at h9; exact h9 : Rd w4 (.slice (some ⟨g, 0, none⟩) P.length gc) Q)
  clear k4 G4 HRe3 HG3 hX hXl hQ hQl
  go_wp2_with fail
  refine (newReader_any _ Q w4 (unhide HR4)).mono ?_
  rintro e w5 ⟨b2, gv2, rfl, hb2, r5, hgv2, k5⟩
  have HRe2 := hide r5
  have HGv2 := hide hgv2
  have HRe5 := hide ((unhide HRe4).kept k5 (by simp) (by simp))
  have HG5 := hide ((unhide HG4).pass k5 (by simp))
  have HR5 := hide ((unhide HR4).old k5 (by simp))
  have HK5 := hide ((unhide HK4).trans k5 (by simp))
  have hb2' : b2 < w5.heap.size := r5.lt
  have hz5 := k5.size
  clear r5 hgv2 k5 HRe4 HG4 HR4
  go_wp2_with fail
  refine (twin_any _ Q w5 (unhide HR5)).mono ?_
  rintro e w6 ⟨rfl, k6, q6⟩
  have k6' := k6.trans ((Kept.refl [] w6).alloc (.cells #[.slice (some ⟨w5.heap.size, 0, none⟩) Q.length Q.length, .int .i64 0, .int .i64 0] 56)) (by simp)
  have HD2 := hide ((rd_fresh q6 (unhide HR5).byte (by rw [unhide HQL]; omega)).old ((Kept.refl [] w6).alloc (.cells #[.slice (some ⟨w5.heap.size, 0, none⟩) Q.length Q.length, .int .i64 0, .int .i64 0] 56)) (by simp))
  have HN2 := hide (heap_alloc_new w6 (.cells #[.slice (some ⟨w5.heap.size, 0, none⟩) Q.length Q.length, .int .i64 0, .int .i64 0] 56))
  have hz6 : w5.heap.size < w6.heap.size := lt_of_block q6
  have HRe26 := hide ((unhide HRe2).kept k6' (by simp) (by simp))
  have HRe6 := hide ((unhide HRe5).kept k6' (by simp) (by simp))
  have HG6 := hide ((unhide HG5).pass k6' (by simp))
  have HK6 := hide ((unhide HK5).trans k6' (by simp))
  clear k6 k6' q6 HRe2 HRe5 HG5
  go_wp2_with fail
  obtain ⟨W6, hW6⟩ : ∃ W, w6.alloc (.cells #[.slice (some ⟨w5.heap.size, 0, none⟩) Q.length Q.length, .int .i64 0, .int .i64 0] 56) = W := ⟨_, rfl⟩
  have HZ6 := hide (by rw [← hW6]; simp : W6.heap.size = w6.heap.size + 1)
  rw [hW6] at HD2 HN2 HRe26 HRe6 HG6 HK6 ⊢
  clear hW6
  refine (twin_any _ P W6 ((unhide HPr).old (unhide HK6) (by simp))).mono ?_
  rintro e w7 ⟨rfl, k7, q7⟩
  have k7' := k7.trans ((Kept.refl [] w7).alloc (.cells #[.slice (some ⟨W6.heap.size, 0, none⟩) P.length P.length, .int .i64 0, .int .i64 0] 56)) (by simp)
  have HD1 := hide ((rd_fresh q7 (unhide Hby) (by omega)).old ((Kept.refl [] w7).alloc (.cells #[.slice (some ⟨W6.heap.size, 0, none⟩) P.length P.length, .int .i64 0, .int .i64 0] 56)) (by simp))
  have HN1 := hide (heap_alloc_new w7 (.cells #[.slice (some ⟨W6.heap.size, 0, none⟩) P.length P.length, .int .i64 0, .int .i64 0] 56))
  have hz7 : W6.heap.size < w7.heap.size := lt_of_block q7
  have HRe27 := hide ((unhide HRe26).kept k7' (by simp) (by simp))
  have HRe7 := hide ((unhide HRe6).kept k7' (by simp) (by simp))
  have HG7 := hide ((unhide HG6).pass k7' (by simp))
  have HK7 := hide ((unhide HK6).trans k7' (by simp))
  have HN27 := hide (k7'.heap (unhide HN2) (by simp))
  have HD27 := hide ((unhide HD2).old k7' (by simp))
  clear k7 k7' q7 HRe26 HRe6 HG6 HN2 HD2
  go_wp2_with fail
  obtain ⟨W7, hW7⟩ : ∃ W, w7.alloc (.cells #[.slice (some ⟨W6.heap.size, 0, none⟩) P.length P.length, .int .i64 0, .int .i64 0] 56) = W := ⟨_, rfl⟩
  have HZ7 := hide (by rw [← hW7]; simp : W7.heap.size = w7.heap.size + 1)
  rw [hW7] at HD1 HN1 HRe27 HRe7 HG7 HK7 HN27 HD27 ⊢
  clear hW7
  have hz6' := unhide HZ6
  have hz7' := unhide HZ7
  have HI0 := hide (⟨unhide HRe7, unhide HRe27, unhide HN1, unhide HN27, unhide HD1, unhide HD27, unhide HG7, unhide HK7, Told.start _ _, Told.start _ _, by simp, by simp, by omega, by omega, by omega, fun x hx => by have := unhide HGv1 x hx; omega, fun x hx => by have := unhide HGv2 x hx; omega⟩ :
    RkI w W7 W7.heap.size b1 b2 w7.heap.size w6.heap.size W6.heap.size w5.heap.size g gc gv1 gv2 P Q X 0 0 0 0 0 0 0 0 (.slice none 0 0) (.slice none 0 0) [] [] [] [] [] [])
  obtain ⟨zz, hzz⟩ : ∃ z, W7.heap.size = z := ⟨_, rfl⟩
  obtain ⟨s, hs9⟩ : ∃ z, w7.heap.size = z := ⟨_, rfl⟩
  obtain ⟨n, hn9⟩ : ∃ z, w6.heap.size = z := ⟨_, rfl⟩
  obtain ⟨d1, hd1⟩ : ∃ z, W6.heap.size = z := ⟨_, rfl⟩
  obtain ⟨d2, hd2⟩ : ∃ z, w5.heap.size = z := ⟨_, rfl⟩
  have hzw : zz ≤ W7.heap.size := by omega
  have HZW := hide hzw
  clear hzw
  rw [hzz, hs9, hn9, hd1, hd2] at HI0
  rw [hs9, hn9]
  clear HRe7 HRe27 HN1 HN27 HD1 HD27 HG7 HK7 HGv1 HGv2 HK1 HK2 HK3 HK4 HK5 HK6 HR5 hzz hs9 hn9 hd1 hd2 hb1 hb1' hb2 hb2' hz2 hz3 hz4 hz5 hz6 hz6' hz7 hz7' HZ6 HZ7 hg1 hg0
  go_loopw [11, 12, 54] (fun t11 t12 t54 wr => ∃ (k i f j h : Nat) (ta wa : Option Addr) (tc wc : Nat) (L LW : List LT) (xs : List (List Nat)) (fp fq : List Nat), k ≤ ops.length ∧ t54 = .int .i64 k ∧ t11 = .slice ta L.length tc ∧ t12 = .slice wa LW.length wc ∧ zz ≤ wr.heap.size ∧ Hid (L.length = 2 * k) ∧ Hid (LW.length = 2 * k) ∧ Hid (∀ t ∈ L, t.2.1 ≤ 4194304) ∧ Hid (RkI w wr zz b1 b2 s n d1 d2 g gc gv1 gv2 P Q X i f i f j h j h (.slice ta L.length tc) (.slice wa LW.length wc) L LW xs xs fp fq)) (fun _ _ i _ => ops.length - (intOf i).toNat)
  case atStart => exact ⟨0, 0, 0, 0, 0, none, none, 0, 0, [], [], [], [], [], Nat.zero_le _, rfl, rfl, rfl, unhide HZW, hide rfl, hide rfl, hide (by simp), HI0⟩
  case round =>
    obtain ⟨k, i, f, j, h, ta, wa, tc, wc, L, LW, xs, fp, fq, hk, rfl, rfl, rfl, hzwr, HLL, HLW, HLB, HI⟩ := hrel
    by_cases hlt : k < ops.length
    · have hko : ops[k]? = some ops[k] := List.getElem?_eq_getElem hlt
      have hg := (unhide HS).get (unhide HI).k k _ hko
      have hm1 := unhide Hbn _ (List.getElem_mem hlt)
      have hm2 := unhide Hbn2 _ (List.getElem_mem hlt)
      generalize ops[k] = o at hg hm1 hm2
      obtain ⟨bo, off, ao2, n2, c2, he, hpv, d0', d1', d2', d3', a1, hbl, hrd⟩ := hg
      cases he
      obtain ⟨ok, ox, on, opv, op⟩ := o
      simp only at hpv d0' d1' d2' d3' a1 hrd hm1 hm2
      subst hpv
      have a1' : (ox : Int) ≤ 18446744073709551615 := by omega
      have hkl : (k : Int) < (ops.length : Int) := by omega
      clear hrd hko
      obtain ⟨z1, q1, i3, e3, hT1⟩ : ∃ z q j e, rTake P i f ok on = (z, q, j, e) := ⟨_, _, _, _, rfl⟩
      obtain ⟨z2, q2, j3, f3, hT2⟩ : ∃ z q j' e, rTake Q j h ok on = (z, q, j', e) := ⟨_, _, _, _, rfl⟩
      have HT1 := hide hT1
      have HT2 := hide hT2
      clear hT1 hT2
      have hiP : i ≤ P.length := (unhide HI).r1.le
      have hjQ : j ≤ Q.length := (unhide HI).r2.le
      have HFA := hide (fun x hx => ((unhide HI).fa x hx).2 : ∀ x, x ∈ fp ∨ x ∈ fq → x < wr.heap.size)
      have HHI := hide (unhide HI).hi
      have HI1 := hide ((unhide HI).pass ((Kept.refl [] wr).alloc (.cells #[.int .i64 ok, .int .u64 ox, .int .i64 on, .slice ao2 n2 c2] 44)))
      have HB1 := hide (heap_alloc_new wr (.cells #[.int .i64 ok, .int .u64 ox, .int .i64 on, .slice ao2 n2 c2] 44))
      clear HI
      go_wp2_with fail
      obtain ⟨W1, hW1⟩ : ∃ W, wr.alloc (.cells #[.int .i64 ok, .int .u64 ox, .int .i64 on, .slice ao2 n2 c2] 44) = W := ⟨_, rfl⟩
      have hz1 : wr.heap.size < W1.heap.size := by rw [← hW1]; simp
      rw [hW1] at HI1 HB1 ⊢
      clear hW1
      refine (take_own b1 gv1 P i f ok ox on _ W1 (unhide HI1).r1 ⟨hm1, hm2⟩).mono ?_
      rintro e w2 ⟨rv2, rfl, hr2, hre2, k2, n2'⟩
      rw [unhide HT1] at hr2 hre2 n2' ⊢
      simp only at hr2 hre2 n2' ⊢
      obtain ⟨aq, cq, rfl, oq, lq⟩ := n2'.lt
      have HI2 := hide ((unhide HI1).take1 k2 hre2)
      have HSq := hide n2'.stay
      have HOq := hide (Ows.one oq lq)
      have HB2 := hide (k2.heap (unhide HB1) (by have := unhide HHI; simp; omega))
      have hz2 := k2.size
      obtain ⟨e0, e1, e2, e3'⟩ := opcells (unhide HB2)
      obtain ⟨⟨s0, s1, s2⟩, _⟩ := three (unhide HI2).s1
      clear hr2 hre2 k2 n2' oq lq HI1 HB1
      go_wp2_with fail
      refine (taken_any _ _ P i f ok ox on _ w2 (unhide HI2).d1 hiP ⟨hm1, hm2⟩).mono ?_
      rintro e w3 ⟨rv3, rfl, hr3, k3, hb3⟩
      rw [unhide HT1] at hr3 ⊢
      simp only at hr3 ⊢
      obtain ⟨ay, ny, cy, rfl, hny⟩ : ∃ ao n c, rv3 = .slice ao n c ∧ q1.length = n := by obtain ⟨ao, n, c, e, h, _⟩ := hr3; exact ⟨ao, n, c, e, h⟩
      subst hny
      have HSy := hide (hr3.stay hb3)
      have HI3 := hide ((unhide HI2).pass k3)
      have HSq3 := hide ((unhide HSq).pass k3 (by simp))
      have HOq3 := hide ((unhide HOq).pass k3 (by simp))
      have HB3 := hide (k3.heap (unhide HB2) (by simp))
      have hz3 := k3.size
      obtain ⟨⟨t0, t1, t2⟩, f0, f1, f2⟩ := three (unhide HI3).s1
      have hs3 : s < w3.heap.size := lt_of_block (unhide HI3).s1
      have HC4 := hide (((Kept.refl [] _).alloc (.cells #[.slice (some ⟨d1, 0, none⟩) P.length P.length, .int .i64 i3, .int .i64 e3] 56)).heap (row3r (.slice (some ⟨d1, 0, none⟩) P.length P.length) (.int .i64 i3) (.int .i64 e3) (unhide HI3).s1) (by simp))
      have k4 := ((((Kept.refl [s] w3).setCell (p := ⟨s, 0, none⟩) (by simp) (.slice (some ⟨d1, 0, none⟩) P.length P.length)).setCell (p := ⟨s, 1, none⟩) (by simp) (.int .i64 i3)).setCell (p := ⟨s, 2, none⟩) (by simp) (.int .i64 e3)).alloc (.cells #[.slice (some ⟨d1, 0, none⟩) P.length P.length, .int .i64 i3, .int .i64 e3] 56)
      have HI4 := hide ((unhide HI3).set1 k4 (unhide HC4))
      have hsz4 : ∀ b ∈ [s], b < W1.heap.size := by have := unhide HHI; simp; omega
      have HSq4 := hide ((unhide HSq3).pass k4 hsz4)
      have HOq4 := hide ((unhide HOq3).pass k4 hsz4)
      have HSy4 := hide ((unhide HSy).pass k4 (by have := unhide HHI; simp; omega))
      have HB4 := hide (k4.heap (unhide HB3) (by have := unhide HHI; simp; omega))
      have hz4 := k4.size
      obtain ⟨E0, E1, E2, E3⟩ := opcells (unhide HB4)
      clear hr3 k3 hb3 k4 HI2 HI3 HSq HSq3 HOq HOq3 HSy HB2 HB3 HC4 e0 e1 e2 e3' s0 s1 s2
      go_wp2_with fail
      obtain ⟨W4, hW4⟩ : ∃ W, (((w3.setCell ⟨s, 0, none⟩ (.slice (some ⟨d1, 0, none⟩) P.length P.length)).setCell ⟨s, 1, none⟩ (.int .i64 i3)).setCell ⟨s, 2, none⟩ (.int .i64 e3)).alloc (.cells #[.slice (some ⟨d1, 0, none⟩) P.length P.length, .int .i64 i3, .int .i64 e3] 56) = W := ⟨_, rfl⟩
      rw [hW4] at HI4 HSq4 HOq4 HSy4 HB4 hz4 ⊢
      clear hW4 E0 E1 E2 E3 t0 t1 t2 f0 f1 f2
      refine (take_own b2 gv2 Q j h ok ox on _ W4 (unhide HI4).r2 ⟨hm1, hm2⟩).mono ?_
      rintro e w5 ⟨rv5, rfl, hr5, hre5, k5, n5⟩
      rw [unhide HT2] at hr5 hre5 n5 ⊢
      simp only at hr5 hre5 n5 ⊢
      obtain ⟨ab, cb, rfl, ob, lb⟩ := n5.lt
      have hb2M : ∀ b ∈ [b2], b < W1.heap.size := by have := unhide HHI; simp; omega
      have HI5 := hide ((unhide HI4).take2 k5 hre5)
      have HSb := hide n5.stay
      have HO5 := hide ((unhide HOq4).join (Ows.one ob lb) k5 hb2M (Nat.le_refl _) (by omega))
      have HSq5 := hide ((unhide HSq4).pass k5 hb2M)
      have HSy5 := hide ((unhide HSy4).pass k5 (by have := unhide HHI; simp; omega))
      have HB5 := hide (k5.heap (unhide HB4) (by have := unhide HHI; simp; omega))
      have hz5 := k5.size
      obtain ⟨e0, e1, e2, e3'⟩ := opcells (unhide HB5)
      obtain ⟨⟨s0, s1, s2⟩, _⟩ := three (unhide HI5).s2
      clear hr5 hre5 k5 n5 ob lb HI4 HB4 HOq4 HSq4 HSy4
      go_wp2_with fail
      refine (taken_any _ _ Q j h ok ox on _ w5 (unhide HI5).d2 hjQ ⟨hm1, hm2⟩).mono ?_
      rintro e w6 ⟨rv6, rfl, hr6, k6, hb6⟩
      rw [unhide HT2] at hr6 ⊢
      simp only at hr6 ⊢
      obtain ⟨ad, nd, cd, rfl, hnd⟩ : ∃ ao n c, rv6 = .slice ao n c ∧ q2.length = n := by obtain ⟨ao, n, c, e, h, _⟩ := hr6; exact ⟨ao, n, c, e, h⟩
      subst hnd
      have HSd := hide (hr6.stay hb6)
      have HI6 := hide ((unhide HI5).pass k6)
      have HSq6 := hide ((unhide HSq5).pass k6 (by simp))
      have HSb6 := hide ((unhide HSb).pass k6 (by simp))
      have HSy6 := hide ((unhide HSy5).pass k6 (by simp))
      have HO6 := hide ((unhide HO5).pass k6 (by simp))
      have hz6 := k6.size
      obtain ⟨⟨t0, t1, t2⟩, f0, f1, f2⟩ := three (unhide HI6).s2
      have hs6 : n < w6.heap.size := lt_of_block (unhide HI6).s2
      have HC7 := hide (((Kept.refl [] _).alloc (.cells #[.slice (some ⟨d2, 0, none⟩) Q.length Q.length, .int .i64 j3, .int .i64 f3] 56)).heap (row3r (.slice (some ⟨d2, 0, none⟩) Q.length Q.length) (.int .i64 j3) (.int .i64 f3) (unhide HI6).s2) (by simp))
      have k7 := ((((Kept.refl [n] w6).setCell (p := ⟨n, 0, none⟩) (by simp) (.slice (some ⟨d2, 0, none⟩) Q.length Q.length)).setCell (p := ⟨n, 1, none⟩) (by simp) (.int .i64 j3)).setCell (p := ⟨n, 2, none⟩) (by simp) (.int .i64 f3)).alloc (.cells #[.slice (some ⟨d2, 0, none⟩) Q.length Q.length, .int .i64 j3, .int .i64 f3] 56)
      have HI7 := hide ((unhide HI6).set2 k7 (unhide HC7))
      have hszn : ∀ b ∈ [n], b < W1.heap.size := by have := unhide HHI; simp; omega
      have hszn2 : ∀ b ∈ [n], b < w2.heap.size := fun b hb => by have := hszn b hb; omega
      have hszn4 : ∀ b ∈ [n], b < W4.heap.size := fun b hb => by have := hszn b hb; omega
      have hszn5 : ∀ b ∈ [n], b < w5.heap.size := fun b hb => by have := hszn b hb; omega
      have HSq7 := hide ((unhide HSq6).pass k7 hszn)
      have HSb7 := hide ((unhide HSb6).pass k7 hszn4)
      have HSy7 := hide ((unhide HSy6).pass k7 hszn2)
      have HSd7 := hide ((unhide HSd).pass k7 hszn5)
      have HO7 := hide ((unhide HO6).pass k7 hszn)
      have hz7 := k7.size
      clear hr6 k6 hb6 k7 HI5 HI6 HSq5 HSq6 HSb HSb6 HSy5 HSy6 HSd HO5 HO6 HB5 HC7 e0 e1 e2 e3' s0 s1 s2
      go_wp2_with fail
      obtain ⟨W7, hW7⟩ : ∃ W, (((w6.setCell ⟨n, 0, none⟩ (.slice (some ⟨d2, 0, none⟩) Q.length Q.length)).setCell ⟨n, 1, none⟩ (.int .i64 j3)).setCell ⟨n, 2, none⟩ (.int .i64 f3)).alloc (.cells #[.slice (some ⟨d2, 0, none⟩) Q.length Q.length, .int .i64 j3, .int .i64 f3] 56) = W := ⟨_, rfl⟩
      rw [hW7] at HI7 HSq7 HSb7 HSy7 HSd7 HO7 hz7 ⊢
      clear hW7 t0 t1 t2 f0 f1 f2
      refine (same_any _ _ q1 q1 W7 (unhide HSq7).now (unhide HSy7).now).mono ?_
      rintro e w8 ⟨rfl, d8, h8⟩
      have k8 : Kept [] W7 w8 := by rw [h8]; exact (Kept.refl [] W7).drewN d8
      have HK8 := hide k8
      clear h8 k8
      rw [decide_eq_true (rfl : q1 = q1)]
      go_wp2_with fail
      refine (same_any _ _ q2 q2 w8 ((unhide HSb7).pass (unhide HK8) (by simp)).now ((unhide HSd7).pass (unhide HK8) (by simp)).now).mono ?_
      rintro e w9 ⟨rfl, d9, h9⟩
      have k9 : Kept [] W7 w9 := by rw [h9]; exact (unhide HK8).drewN d9
      have HI9 := hide ((unhide HI7).pass k9)
      have HSq9 := hide ((unhide HSq7).pass k9 (by simp))
      have HSb9 := hide ((unhide HSb7).pass k9 (by simp))
      have HSy9 := hide ((unhide HSy7).pass k9 (by simp))
      have HSd9 := hide ((unhide HSd7).pass k9 (by simp))
      have HO9 := hide ((unhide HO7).pass k9 (by simp))
      have hz9 := k9.size
      clear h9 k9 HK8 HI7 HSq7 HSb7 HSy7 HSd7 HO7
      rw [decide_eq_true (rfl : q2 = q2)]
      have hq1l : q1.length ≤ 4194304 := by have h8 := rTake_len P i f ok on; rw [unhide HT1] at h8; simp only at h8; omega
      have hq2l : q2.length ≤ 4194304 := by have h8 := rTake_len Q j h ok on; rw [unhide HT2] at h8; simp only at h8; have := unhide HQL; omega
      have HN9 := hide (by
        intro x hx
        have hlo := (unhide HO9).lo
        have hlt : ∀ t ∈ [((aq, q1.length, cq) : LT)] ++ [(ab, q2.length, cb)], ∀ b, (vT t).ownBlock = some b → W1.heap.size ≤ b ∧ b < w9.heap.size := fun t ht b hb => ⟨hlo t ht b hb, ((unhide HO9).own t ht).lt hb⟩
        have h8 : W1.heap.size ≤ x ∧ x < w9.heap.size := by
          rcases hx with hx | hx
          · exact hlt _ (by simp) x hx
          · exact hlt _ (by simp) x hx
        refine ⟨by omega, h8.2, ?_, ?_⟩
        · exact fun hm => by have h7 := unhide HFA x (.inl hm); omega
        · exact fun hm => by have h7 := unhide HFA x (.inr hm); omega : ∀ x, (vT (aq, q1.length, cq)).ownBlock = some x ∨ (vT (ab, q2.length, cb)).ownBlock = some x → zz ≤ x ∧ x < w9.heap.size ∧ x ∉ fp ∧ x ∉ fq)
      have HRq := hide (unhide HSq9).now
      have HRb := hide (unhide HSb9).now
      have HOz := hide ((unhide HO9).weak (b2 := zz) (by omega))
      go_wp2_with (at_builtin; go_must (refine wpList_told2 rfl (.tmp 106) (.tmp 109) rfl rfl w9 zz _ L xs fp (aq, q1.length, cq) (ab, q2.length, cb) q1 q2 (unhide HI9).t (unhide HOz) (unhide HRq) (unhide HRb) (fun x hx => (unhide HN9 x hx).2.2.1) (by have := unhide HLL; omega) (by omega) rfl rfl ?_; intro a10 c10 w10 HT10 HG10 HH10))
      have HI10 := hide ((unhide HI9).tellT (fun x hx => ⟨(unhide HN9 x hx).1, (unhide HN9 x hx).2.1, (unhide HN9 x hx).2.2.2⟩) (unhide HT10) (unhide HG10) (unhide HH10))
      have kW : Kept (Value.slice ta L.length tc).ownBlock.toList (w9.alloc (.cells #[.slice aq q1.length cq, .slice ab q2.length cb] 22)) w10 := (Kept.refl _ _).grown (unhide HG10) (by intro k hk; left; simp [hk])
      have hz10 := kW.size
      have hz10' : w9.heap.size < (w9.alloc (.cells #[.slice aq q1.length cq, .slice ab q2.length cb] 22)).heap.size := by simp
      have htv : ∀ x ∈ (Value.slice ta L.length tc).ownBlock.toList, x < w2.heap.size := fun x hx => by have h7 := unhide HFA x (.inl ((unhide HI9).t.fr x (by simpa using hx))); omega
      have htv5 : ∀ x ∈ (Value.slice ta L.length tc).ownBlock.toList, x < w5.heap.size := fun x hx => by have h7 := htv x hx; omega
      have HSy10 := hide (((unhide HSy9).pass ((Kept.refl [] w9).alloc (.cells #[.slice aq q1.length cq, .slice ab q2.length cb] 22)) (by simp)).pass kW htv)
      have HSd10 := hide (((unhide HSd9).pass ((Kept.refl [] w9).alloc (.cells #[.slice aq q1.length cq, .slice ab q2.length cb] 22)) (by simp)).pass kW htv5)
      have HLB10 := hide (by
        intro t ht
        rcases List.mem_append.1 ht with ht | ht
        · exact unhide HLB t ht
        · simp only [List.mem_cons, List.not_mem_nil, or_false] at ht
          rcases ht with rfl | rfl
          · exact hq1l
          · exact hq2l : ∀ t ∈ L ++ [((aq, q1.length, cq) : LT), (ab, q2.length, cb)], t.2.1 ≤ 4194304)
      have HL10 := hide (by simp : (L ++ [((aq, q1.length, cq) : LT), (ab, q2.length, cb)]).length = L.length + 2)
      clear kW htv htv5 HT10 HG10 HH10 HI9 HSq9 HSb9 HSy9 HSd9 HO9 HOz HRq HRb HN9 HLB
      generalize (Value.slice a10 (L.length + 2) c10).ownBlock.toList ++ (blks [(aq, q1.length, cq), (ab, q2.length, cb)] ++ fp) = fp2 at HI10
      generalize L ++ [((aq, q1.length, cq) : LT), (ab, q2.length, cb)] = L2 at HI10 HLB10 HL10
      go_wp2_with fail
      refine (twin_any _ q1 w10 (unhide HSy10).now).mono ?_
      rintro e w11 ⟨rfl, k11, r11⟩
      have HI11 := hide ((unhide HI10).pass k11)
      have HF11 := hide r11
      have HBq1 := hide (unhide HSy10).now.byte
      have HSd11 := hide ((unhide HSd10).pass k11 (by simp))
      have hz11 := lt_of_block r11
      clear k11 r11
      go_wp2_with fail
      refine (twin_any _ q2 w11 (unhide HSd11).now).mono ?_
      rintro e w12 ⟨rfl, k12, r12⟩
      have HI12 := hide ((unhide HI11).pass k12)
      have HF112 := hide (k12.heap (unhide HF11) (by simp))
      have HF12 := hide r12
      have HBq2 := hide (unhide HSd11).now.byte
      have hz12 := lt_of_block r12
      clear k12 r12 HI11 HF11 HSd11 HSd10 HSy10
      have HO12 := hide (ows_pair (base := zz) (unhide HF112) (unhide HF12) rfl rfl (by omega) (by omega) (by omega) (by omega) (by omega))
      have HRA := hide (rd_fresh (unhide HF112) (unhide HBq1) (by omega))
      have HRB := hide (rd_fresh (unhide HF12) (unhide HBq2) (by omega))
      have HFB := hide (unhide HI10).fa
      have HN12 := hide (by
        intro x hx
        have h8 : w10.heap.size ≤ x ∧ x < w12.heap.size := by rcases hx with hx | hx <;> simp only [vT, Value.ownBlock, Option.some.injEq] at hx <;> omega
        refine ⟨by omega, h8.2, ?_, ?_⟩
        · exact fun hm => by have h7 := (unhide HFB x (.inr hm)).2; omega
        · exact fun hm => by have h7 := (unhide HFB x (.inl hm)).2; omega : ∀ x, (vT (some ⟨w10.heap.size, 0, none⟩, q1.length, q1.length)).ownBlock = some x ∨ (vT (some ⟨w11.heap.size, 0, none⟩, q2.length, q2.length)).ownBlock = some x → zz ≤ x ∧ x < w12.heap.size ∧ x ∉ fq ∧ x ∉ fp2)
      clear HI10
      go_wp2_with (at_builtin; go_must (refine wpList_told2 rfl (.tmp 111) (.tmp 116) rfl rfl w12 zz _ LW xs fq (some ⟨w10.heap.size, 0, none⟩, q1.length, q1.length) (some ⟨w11.heap.size, 0, none⟩, q2.length, q2.length) q1 q2 (unhide HI12).u (unhide HO12) (unhide HRA) (unhide HRB) (fun x hx => (unhide HN12 x hx).2.2.1) (by have := unhide HLW; omega) (by omega) rfl rfl ?_; intro a13 c13 w13 HT13 HG13 HH13))
      have HI13 := hide ((unhide HI12).sym.tellT (fun x hx => ⟨(unhide HN12 x hx).1, (unhide HN12 x hx).2.1, (unhide HN12 x hx).2.2.2⟩) (unhide HT13) (unhide HG13) (unhide HH13)).sym
      have hz13 : w12.heap.size < w13.heap.size := by
        have kW : Kept (Value.slice wa LW.length wc).ownBlock.toList (w12.alloc (.cells #[.slice (some ⟨w10.heap.size, 0, none⟩) q1.length q1.length, .slice (some ⟨w11.heap.size, 0, none⟩) q2.length q2.length] 22)) w13 := (Kept.refl _ _).grown (unhide HG13) (by intro k hk; left; simp [hk])
        have := kW.size
        simp at this
        omega
      have HREL : ∃ (L' LW' : List LT) (xs' : List (List Nat)) (fp' fq' : List Nat), L'.length = L.length + 2 ∧ LW'.length = LW.length + 2 ∧ Hid (∀ t ∈ L', t.2.1 ≤ 4194304) ∧ Hid (RkI w w13 zz b1 b2 s n d1 d2 g gc gv1 gv2 P Q X i3 e3 i3 e3 j3 f3 j3 f3 (.slice a10 (L.length + 2) c10) (.slice a13 (LW.length + 2) c13) L' LW' xs' xs' fp' fq') :=
        ⟨L2, _, _, fp2, _, unhide HL10, by simp, HLB10, HI13⟩
      clear HT13 HG13 HH13 HI12 HO12 HRA HRB HN12 HF112 HF12 HLB10 HI13 HL10 HFB
      obtain ⟨L', LW', xs', fp', fq', hl1, hl2, HQ2, HQ3⟩ := HREL
      rw [← hl1, ← hl2] at HQ3
      have HL1 := hide hl1
      have HL2 := hide hl2
      clear hl1 hl2
      go_wp2
      go_roundw
      case rel => exact ⟨k + 1, i3, e3, j3, f3, a10, a13, c10, c13, L', LW', xs', fp', fq', by omega, by go_num, by rw [unhide HL1], by rw [unhide HL2], by omega, hide (by rw [unhide HL1, unhide HLL]; omega), hide (by rw [unhide HL2, unhide HLW]; omega), HQ2, HQ3⟩
      case measure => simp [intOf]; omega
    · have hlt' : ¬ (k : Int) < (ops.length : Int) := by omega
      go_wp2_with fail
      refine (sameAll_any _ _ xs xs wr (unhide HI).t.rdl (unhide HI).u.rdl).mono ?_
      rintro e w1 ⟨rfl, d1', h1⟩
      have k1 : Kept [] wr w1 := by rw [h1]; exact (Kept.refl [] wr).drewN d1'
      have HI1 := hide ((unhide HI).pass k1)
      have hz1 := k1.size
      clear k1 h1 HI
      rw [decide_eq_true (rfl : xs = xs)]
      have HOW := hide (by rw [unhide HXLen]; omega : P.length ≤ X.length)
      go_wp2_with (at_builtin; go_must (refine wpList_app1G rfl (.tmp 123) (.tmp 125) rfl rfl w1 zz _ L (some ⟨g, 0, none⟩, P.length, gc) (unhide HI1).t.row (by have := unhide HLL; omega) (by omega) rfl rfl ?_; intro a2 c2' w2 HO2 HG2))
      have HOs := hide ((((unhide HI1).t.ows.low (b0 := w.heap.size) (t := (some ⟨g, 0, none⟩, P.length, gc)) ((unhide HI1).gv.ow P.length (unhide HOW)) (by intro b hb; simp only [vT, Value.ownBlock, Option.some.injEq] at hb; have h9 := (unhide HI1).hi; have h8 := (unhide HI1).gv.lo; omega) ((unhide HI1).lo.2.2.2.2)).pass ((Kept.refl [] w1).alloc (.cells #[.slice (some ⟨g, 0, none⟩) P.length gc] 22)) (by simp)).growT (((Kept.refl [] w1).alloc (.cells #[.slice (some ⟨g, 0, none⟩) P.length gc] 22)).owns (unhide HI1).t.row (by simp)) (unhide HG2))
      have kW : Kept (Value.slice ta L.length tc).ownBlock.toList (w1.alloc (.cells #[.slice (some ⟨g, 0, none⟩) P.length gc] 22)) w2 := (Kept.refl _ _).grown (unhide HG2) (by intro k hk; left; simp [hk])
      have kW' := ((Kept.refl [] w1).alloc (.cells #[.slice (some ⟨g, 0, none⟩) P.length gc] 22)).join kW
      have HKW := hide kW'
      have htv : ∀ x ∈ [] ++ (Value.slice ta L.length tc).ownBlock.toList, zz ≤ x := fun x hx => (((unhide HI1).fa x (.inl ((unhide HI1).t.fr x (by simpa using hx)))).1)
      have HTV := hide htv
      have HLN := hide (by rw [List.length_append, unhide HLL]; simp : (L ++ [((some ⟨g, 0, none⟩ : Option Addr), P.length, gc)]).length = 2 * k + 1)
      clear kW kW' htv
      go_wp2_with fail
      refine (apart_own w.heap.size zz _ (L ++ [(some ⟨g, 0, none⟩, P.length, gc)]) w2 (by rw [List.length_append]; have h9 := unhide HO2; rw [List.length_append] at h9; exact h9) (unhide HOs) (by
        intro t ht
        rcases List.mem_append.1 ht with ht | ht
        · exact unhide HLB t ht
        · rw [List.mem_singleton] at ht; subst ht; show P.length ≤ 4194304; omega) (by rw [unhide HLN]; omega)).mono ?_
      rintro e w3 ⟨rfl, k3⟩
      have hbl : ∀ x ∈ blks (L ++ [((some ⟨g, 0, none⟩ : Option Addr), P.length, gc)]), zz ≤ x ∨ x = g := by
        intro x hx
        obtain ⟨t, ht, h9⟩ := List.mem_flatMap.1 hx
        rcases List.mem_append.1 ht with ht | ht
        · left; exact (unhide HI1).t.ows.lo t ht x (by simpa using h9)
        · rw [List.mem_singleton] at ht; subst ht; right; simp [vT, Value.ownBlock] at h9; exact h9
      have kE := (unhide HKW).join k3
      have hnot : ∀ x, x < zz → x ≠ g → x ∉ ([] ++ (Value.slice ta L.length tc).ownBlock.toList) ++ blks (L ++ [((some ⟨g, 0, none⟩ : Option Addr), P.length, gc)]) := by
        intro x hx hg9 hm
        rcases List.mem_append.1 hm with hm | hm
        · have := unhide HTV x hm; omega
        · rcases hbl x hm with h9 | h9 <;> omega
      have hi := (unhide HI1).hi
      have hne := (unhide HI1).ne
      have HR3 := hide ((unhide HI1).r1.kept kE (hnot b1 hi.1 (by omega)) (fun x hx => hnot x ((unhide HI1).gn1 x hx).1 ((unhide HI1).gn1 x hx).2.2.2.2))
      have HC3 := hide (kE.heap (unhide HI1).s1 (hnot s hi.2.2.1 (by omega)))
      have HK3 := hide ((unhide HI1).k.trans kE (by
        intro x hx
        right
        have hlo := (unhide HI1).lo
        have hgl := (unhide HI1).gv.lo
        rcases List.mem_append.1 hx with hm | hm
        · have := unhide HTV x hm; omega
        · rcases hbl x hm with h9 | h9 <;> omega))
      obtain ⟨⟨s0, s1, s2⟩, _⟩ := three (unhide HC3)
      clear k3 hbl kE hnot hi hne
      go_wp2_with fail
      refine (tells_any b1 gv1 _ _ P i f w3 (unhide HR3)).mono ?_
      rintro e w4 ⟨rfl, k4⟩
      have HK4 := hide ((unhide HK3).trans k4 (by simp))
      clear k4
      go_wp2
      go_ret
      exact ⟨rfl, unhide HK4⟩
end Go.Proofs.Ytbbjbpjpejekgaa
namespace Go.Proofs.Ytbbjbpjpejekgaa
open Go.RowKit Go.BigFrame
set_option linter.unusedVariables false
set_option linter.unusedSimpArgs false

set_option maxRecDepth 100000 in
set_option maxHeartbeats 1000000 in
theorem wireKeeps_walk (pv : Value) (P : List Nat) (sv : Value) (ops : List OpD) (w : World) (hp : Rd w pv P) (hpl : P.length ≤ 1048576) (hs : SRd w sv ops) (hl : (scriptB ops).length ≤ 4194304) (hop : ∀ o ∈ ops, o.p.length ≤ 1048576) (hlen : ops.length ≤ 1048576) :
    Calls Try.prog 3 #[pv, sv] w fun e w' => e = .returned (.bool true) ∧ Below w.heap.size w w' := by
  have HS := hide hs
  have HP := hide hp
  have HO := hide hop
  clear hs hp hop
  go_enter Try.func3, Try.ntmps3
  go_wp2_with fail
  refine (awake_any _).mono ?_
  rintro e w1 ⟨rfl, k1⟩
  have HK1 := hide k1
  clear k1
  go_wp2_with fail
  refine (writes_any _ ops w1 ((unhide HS).old (unhide HK1) (by simp)) hl (unhide HO) hlen).mono ?_
  rintro e w2 ⟨rfl, k2⟩
  have HK2 := hide ((unhide HK1).trans k2 (by simp))
  clear k2
  go_wp2_with fail
  refine (reads_any _ P _ ops w2 ((unhide HP).old (unhide HK2) (by simp)) hpl ((unhide HS).old (unhide HK2) (by simp)) hlen).mono ?_
  rintro e w3 ⟨rfl, k3⟩
  have HK3 := hide ((unhide HK2).trans k3 (by simp))
  clear k3
  go_wp2
  go_ret
  exact ⟨rfl, (unhide HK3).below (Nat.le_refl _) (by simp)⟩
end Go.Proofs.Ytbbjbpjpejekgaa
