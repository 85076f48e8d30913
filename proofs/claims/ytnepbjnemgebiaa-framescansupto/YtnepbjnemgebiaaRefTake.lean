import Derived.Test.YtnepbjnemgebiaaGen
namespace Go.Proofs.Ytnepbjnemgebiaa
open Go.RowKit
set_option linter.unusedVariables false
set_option linter.unusedSimpArgs false
attribute [local go_sem ↓] Go.wp_at_zero Go.wp_at_succ

/-- A variable of three cells, as a walk wants it. -/
theorem three {w : World} {b : Nat} {v0 v1 v2 : Value} {t : TypeId} (h : w.heap[b]? = some (.cells #[v0, v1, v2] t (0, 0))) :
    (w.cell? ⟨b, 0, none⟩ = some v0 ∧ w.cell? ⟨b, 1, none⟩ = some v1 ∧ w.cell? ⟨b, 2, none⟩ = some v2) ∧ (w.frozen? ⟨b, 0, none⟩ = false ∧ w.frozen? ⟨b, 1, none⟩ = false ∧ w.frozen? ⟨b, 2, none⟩ = false) := by
  refine ⟨⟨?_, ?_, ?_⟩, ?_, ?_, ?_⟩ <;> first | (rw [cell_of_row _ _ _ _ _ _ h]; rfl) | exact frozen_of_row _ _ _ _ _ h

/-- The document's reader as a value. -/
abbrev rrV (gv : Value) (i e : Int) : Value := .agg #[gv, .int .i64 i, .int .i64 e]

set_option maxRecDepth 100000 in
set_option maxHeartbeats 1000000 in
theorem fault_any (ao : Option Addr) (n c : Nat) (i e f : Int) (w : World) :
    Calls Try.prog 51 #[rrV (.slice ao n c) i e, .int .i64 f] w fun r w' => r = .returned (rrV (.slice ao n c) i f) ∧ Kept [] w w' := by
  go_enter Try.func51, Try.ntmps51
  go_wp2
  exact bodyPost_ret (v := .agg #[.slice ao n c, .int .i64 i, .int .i64 f]) (by simp [results, Try.results51, go_sem]) rfl ⟨rfl, ((Kept.refl [] w).alloc _).alloc _⟩

set_option maxRecDepth 100000 in
set_option maxHeartbeats 4000000 in
theorem takeWide_any (ao : Option Addr) (c : Nat) (p : List Nat) (i e n : Nat) (w : World) (h : Rd w (.slice ao p.length c) p) (hi : i ≤ p.length) (hn : n ≤ 8) :
    Calls Try.prog 31 #[rrV (.slice ao p.length c) i e, .int .i64 n] w fun r w' => r = .returned (.tuple #[.int .u64 (rNum p i e n).1, rrV (.slice ao p.length c) (rNum p i e n).2.1 (rNum p i e n).2.2]) ∧ Kept [] w w' := by
  have hl := h.len
  by_cases he : e = 0
  · subst he
    by_cases hs : p.length - i < n
    · have HV := hide (by simp [rNum, hs] : rNum p i 0 n = (0, i, 3))
      have hs' : (p.length : Int) - i < n := by omega
      clear h
      go_enter Try.func31, Try.ntmps31
      go_wp2_with fail
      refine (fault_any ao p.length c i 0 3 _).mono ?_
      rintro r w1 ⟨rfl, k1⟩
      obtain ⟨⟨c0, c1, c2⟩, f0, f1, f2⟩ := three (k1.heap (heap_alloc2_new w _ _) (by simp))
      have HK1 := hide ((((Kept.refl [] w).alloc _).alloc _).trans k1 (by simp))
      have hsz : w.heap.size ≤ w.heap.size + 1 := by omega
      clear k1
      go_wp2
      refine bodyPost_ret (v := .tuple #[.int .u64 0, rrV (.slice ao p.length c) i 3]) (by simp [results, Try.results31, go_sem, c0, c1, c2]) rfl ⟨by rw [unhide HV]; rfl, ?_⟩
      exact (((unhide HK1).setCell (by simp) _).setCell (by simp) _).setCell (by simp) _
    · have HV := hide (by simp [rNum, hs] : rNum p i 0 n = (beL ((p.drop i).take n), i + n, 0))
      have hs' : ¬ (p.length : Int) - i < n := by omega
      have hq : ∀ k, k < n → (p.drop i).getD k 0 = p.getD (i + k) 0 := fun k hk => by simp [List.getD_eq_getElem?_getD]
      have hsn : ∀ k, k < n → beL (((p.drop i).take n).take (k + 1)) = (beL (((p.drop i).take n).take k) * 256 + p.getD (i + k) 0) % 18446744073709551616 := fun k hk => by
        rw [beL_snoc _ k (by simp; omega)]
        congr 2
        simp [List.getD_eq_getElem?_getD, List.getElem?_take, hk]
      have hlt64 : ∀ k, beL (((p.drop i).take n).take k) < 18446744073709551616 := fun k => beL_lt _
      have hfull : ((p.drop i).take n).take n = (p.drop i).take n := by rw [List.take_take, Nat.min_self]
      obtain ⟨ao', len', cap', hE, _, h2, ⟨h3, h3'⟩, h4, h5, h6⟩ := h
      cases hE
      have hgb := fun k => getD_byte h5 k
      have H6 := hide h6
      have Hsn := hide hsn
      have Hlt := hide hlt64
      have Hgb := hide hgb
      obtain ⟨q, hqq⟩ : ∃ q, (p.drop i).take n = q := ⟨_, rfl⟩
      rw [hqq] at HV Hsn Hlt hfull
      have Hfull := hide hfull
      clear h6 h4 h5 hsn hlt64 hgb hq hqq hfull
      go_enter Try.func31, Try.ntmps31
      go_wp2_with fail
      go_loopw [6, 7] (fun t6 t7 wr => ∃ k : Nat, k ≤ n ∧ t7 = .int .i64 k ∧ t6 = .int .u64 (beL (q.take k)) ∧ wr = (w.alloc (.cells #[.slice ao p.length c, .int .i64 i, .int .i64 0] 66)).alloc (.cells #[.slice none 0 0, .int .i64 0, .int .i64 0] 66)) (fun _ i _ => n - (intOf i).toNat)
      case atStart => exact ⟨0, Nat.zero_le _, rfl, by simp [beL], rfl⟩
      case round =>
        obtain ⟨k, hk, rfl, rfl, rfl⟩ := hrel
        by_cases hlt : k < n
        · obtain ⟨bb, oo, rfl, hc⟩ := unhide H6 (by omega)
          have hck := hc (i + k) (by omega)
          have hbb : bb < w.heap.size := block_lt_of_cell hck
          have hb1 := unhide Hgb (i + k)
          have hs1 := unhide Hsn k hlt
          have ha1 := unhide Hlt k
          obtain ⟨z, hz⟩ : ∃ z, p.getD (i + k) 0 = z := ⟨_, rfl⟩
          obtain ⟨a, ha⟩ : ∃ a, beL (q.take k) = a := ⟨_, rfl⟩
          obtain ⟨a', ha'⟩ : ∃ a', beL (q.take (k + 1)) = a' := ⟨_, rfl⟩
          rw [hz] at hck hb1 hs1
          rw [ha] at hs1 ha1 ⊢
          rw [ha'] at hs1
          have Ha' := hide ha'
          have hval : IntKind.u64.wrap (IntKind.u64.wrap ((a : Int) * 256) + (z : Int)) = (a' : Int) := by rw [hs1, IntKind.wrap_u64, IntKind.wrap_u64]; omega
          have hval2 : IntKind.u64.wrap ((a : Int) * 256 % 18446744073709551616 + (z : Int)) = (a' : Int) := by rw [hs1, IntKind.wrap_u64]; omega
          have hi0 : (0 : Int) ≤ (i : Int) + k := by omega
          have hi1 : (i : Int) + k < p.length := by omega
          have hlt' : (k : Int) < n := by omega
          have Hv := hide hval
          have Hs1 := hide hs1
          clear hc hz ha ha' hs1
          go_wp2
          go_roundw
          case rel => exact ⟨k + 1, by omega, by go_num, by rw [unhide Ha'], trivial⟩
          case measure => simp [intOf]; omega
        · have hkn : k = n := by omega
          subst hkn
          have hlt' : ¬ (k : Int) < k := by omega
          rw [unhide Hfull]
          obtain ⟨a, ha⟩ : ∃ a, beL q = a := ⟨_, rfl⟩
          rw [ha] at HV ⊢
          clear ha
          go_wp2_with fail
          go_region
          all_goals go_wp2
          refine bodyPost_ret (v := .tuple #[.int .u64 a, rrV (.slice ao p.length c) ((i : Int) + k) 0]) (by simp [results, Try.results31, go_sem]) rfl ⟨by rw [unhide HV]; simp, (by repeat (first | exact Kept.refl _ _ | apply Kept.drew | apply Kept.alloc | (refine Kept.setCell ?_ (by simp) _)))⟩
  · have he' : ((e : Int) != 0) = true := by rw [bne_iff_ne]; omega
    have HV := hide (by simp [rNum, he] : rNum p i e n = (0, i, e))
    clear he h
    go_enter Try.func31, Try.ntmps31
    go_wp2_with fail
    go_region
    all_goals go_wp2
    refine bodyPost_ret (v := .tuple #[.int .u64 0, rrV (.slice ao p.length c) i e]) (by simp [results, Try.results31, go_sem]) rfl ⟨by rw [unhide HV]; rfl, (by repeat (first | exact Kept.refl _ _ | apply Kept.drew | apply Kept.alloc | (refine Kept.setCell ?_ (by simp) _)))⟩

end Go.Proofs.Ytnepbjnemgebiaa
