import Derived.Test.YtkcanelboloihaaERoTak2
import Derived.Test.YtkcanelboloihaaEDone
namespace Go.Proofs.Ytkcanelboloihaa
open Go.RowKit Go.BigFrame
set_option linter.unusedVariables false
set_option linter.unusedSimpArgs false

theorem rRaw_bad {p : List Nat} {i e : Nat} (k : Int) (h : e ≠ 0) : rRaw p i e k = ([], i, e) := by unfold rRaw; rw [if_pos h]
theorem rRaw_ok {p : List Nat} {i k : Nat} (h : i + k ≤ p.length) : rRaw p i 0 k = ((p.drop i).take k, i + k, 0) := by
  unfold rRaw; rw [if_neg (by simp), if_neg (by omega), if_neg (by omega), Int.toNat_natCast]
theorem rRaw_short {p : List Nat} {i k : Nat} (h : p.length < i + k) (hi : i ≤ p.length) : rRaw p i 0 k = ([], i, 3) := by
  unfold rRaw; rw [if_neg (by simp), if_neg (by omega), if_pos (by omega)]
def docDR (k : Nat) (p : List Nat) : Nat × List Nat × List Nat × Nat :=
  if doneE p (docR p k 0 0).2.1 (docR p k 0 0).2.2 ≠ 0 then (0, z32, z32, doneE p (docR p k 0 0).2.1 (docR p k 0 0).2.2) else ((docR p k 0 0).1.1, (docR p k 0 0).1.2.1, (docR p k 0 0).1.2.2, 0)
theorem docDR_eq {k : Nat} (p : List Nat) (hk : 1 ≤ k ∧ k ≤ 32) : docDR k p = decR k p := by
  have hw : ¬ widthB k = false := by simp [widthB]; omega
  unfold decR
  rw [if_neg hw]
  unfold docDR docR
  by_cases h8 : p.length < 8
  · have e1 : rNum p 0 0 8 = (0, 0, 3) := by unfold rNum; rw [if_neg (by simp), if_pos (by omega)]
    rw [e1, rRaw_bad k (by decide), rRaw_bad k (by decide), if_pos (by omega : (p.length : Int) ≠ 8 + 2 * (k : Int))]
    simp [doneE]
  · have e1 : rNum p 0 0 8 = (beL (p.take 8), 8, 0) := by unfold rNum; rw [if_neg (by simp), if_neg (by omega)]; simp
    rw [e1]
    simp only
    by_cases h9 : p.length < 8 + k
    · rw [rRaw_short h9 (by omega), rRaw_bad k (by decide), if_pos (by omega : (p.length : Int) ≠ 8 + 2 * (k : Int))]
      simp [doneE]
    · rw [rRaw_ok (by omega)]
      simp only
      by_cases ha : p.length < 8 + k + k
      · rw [rRaw_short ha (by omega), if_pos (by omega : (p.length : Int) ≠ 8 + 2 * (k : Int))]
        simp [doneE]
      · rw [rRaw_ok (by omega)]
        simp only
        by_cases hb : p.length = 8 + 2 * k
        · rw [if_neg (by omega : ¬ (p.length : Int) ≠ 8 + 2 * (k : Int))]
          have hd : doneE p (8 + k + k) 0 = 0 := by unfold doneE; rw [if_neg (by omega)]
          rw [hd, if_neg (by simp), Int.toNat_natCast]
        · rw [if_pos (by omega : (p.length : Int) ≠ 8 + 2 * (k : Int))]
          have hd : doneE p (8 + k + k) 0 = 3 := by unfold doneE; rw [if_pos (by omega)]
          rw [hd, if_pos (by simp)]

set_option maxRecDepth 100000 in
set_option maxHeartbeats 1000000 in
theorem docDecodeRoot_any (z : Int) (v : Value) (p : List Nat) (w : World) (hz : -9223372036854775808 ≤ z ∧ z ≤ 9223372036854775807) (h : Rd w v p) :
    Calls Try.prog 16 #[.int .i64 z, v] w fun e w' => e = .returned (.tuple #[.agg (rootC (decR z p).1 (decR z p).2.1 (decR z p).2.2.1).toArray, .int .i64 (decR z p).2.2.2]) ∧ Kept [] w w' := by
  have H := hide h
  obtain ⟨a1, n1, c1, hv1, hn1, _, ⟨_, hlen⟩, _⟩ := id h
  subst hv1
  subst hn1
  clear h
  obtain ⟨D, hD⟩ : ∃ D, decR z p = D := ⟨_, rfl⟩
  rw [hD]
  have HD := hide hD
  clear hD
  go_enter Try.func16, Try.ntmps16
  go_wp2_with fail
  rw [zRoot_eq]
  have HA := hide (heap_alloc_new w (.cells zRoot 31))
  have HKA := hide ((Kept.refl [] w).alloc (.cells zRoot 31))
  obtain ⟨W, hW⟩ : ∃ W, w.alloc (.cells zRoot 31) = W := ⟨_, rfl⟩
  rw [hW] at HA HKA ⊢
  clear hW
  refine Calls.mono (refWide5_any z _ hz) ?_
  rintro e w1 ⟨rfl, rfl⟩
  by_cases hw : widthB z = false
  · have HE := hide (by have h9 := unhide HD; unfold decR at h9; rw [if_pos hw] at h9; exact h9.symm : D = (0, z32, z32, 1))
    rw [hw]
    clear hw
    go_wp2_with (refine wpList_store_row rfl 31 _ _ rfl w.heap.size Try.zeroCells31 rfl rfl _ zRoot (unhide HA) zRoot_size2 rfl zRoot_one ?_)
    refine bodyPost_ret (v := .tuple #[.agg Try.zeroCells31, .int .i64 1]) ?_ rfl ⟨by rw [unhide HE, zRoot_eq]; rfl, (unhide HKA).setRow (Or.inr (Nat.le_refl _)) _⟩
    exact results_row_tmp rfl _ _ w.heap.size _ _ (0, 0) _ rfl (setRow_heap _ _ _ _ _ _ (unhide HA)) Try.underlying31 rfl zRoot_size2 _ rfl
  replace hw : widthB z = true := by simpa using hw
  rw [hw]
  have hwd : 1 ≤ z ∧ z ≤ 32 := by simpa [widthB] using hw
  clear hw
  obtain ⟨k, rfl⟩ : ∃ k : Nat, z = k := ⟨z.toNat, by omega⟩
  have hk : 1 ≤ k ∧ k ≤ 32 := by omega
  rw [← docDR_eq p hk] at HD
  unfold docDR at HD
  have HLL := hide (show (docR p k 0 0).1.2.1.length = 32 ∧ (docR p k 0 0).1.2.2.length = 32 from ⟨pad32_len (Nat.le_trans (rRaw_len _ _ _ k) hk.2), pad32_len (Nat.le_trans (rRaw_len _ _ _ k) hk.2)⟩)
  go_wp2_with fail
  refine Calls.mono (takeRoot_any a1 c1 k p 0 0 w1 ((unhide H).old (unhide HKA) (by simp)) (by omega) hk) ?_
  rintro r w2 ⟨rfl, k2⟩
  have HA2 := hide (k2.heap (unhide HA) (by simp))
  have HK2 := hide ((unhide HKA).trans k2 (by simp))
  clear k2
  obtain ⟨X, hX⟩ : ∃ X, docR p k 0 0 = X := ⟨_, rfl⟩
  rw [hX] at HD HLL ⊢
  clear hX
  obtain ⟨⟨s, l, m⟩, i1, e1⟩ := X
  simp only at HD HLL ⊢
  have HSZ2 := hide (rootC_size s (unhide HLL).1 (unhide HLL).2)
  have HS2 := hide (by have h9 := (unhide HSZ2).symm.trans zRoot_size2; exact (Option.some.inj h9).symm : Try.zeroCells31.size = (rootC s l m).toArray.size)
  have HS3 := hide (by have h9 := (unhide HSZ2).symm.trans zRoot_size; exact (Option.some.inj h9).symm : zRoot.size = (rootC s l m).toArray.size)
  have HO1 := hide (rootC_one s l m)
  have HZN := hide (heap_alloc2_old w2 (.cells Try.zeroCells31 31) (.cells #[.slice none 0 0, .int .i64 0, .int .i64 0] 103))
  have HRN := hide (heap_alloc2_new w2 (.cells Try.zeroCells31 31) (.cells #[.slice none 0 0, .int .i64 0, .int .i64 0] 103))
  have ka := (((Kept.refl [] w2).alloc (.cells Try.zeroCells31 31)).alloc (.cells #[.slice none 0 0, .int .i64 0, .int .i64 0] 103)).setRow (g := w2.heap.size) (Or.inr (Nat.le_refl _)) (rootC s l m).toArray
  have kb := (Kept.refl [w2.heap.size] ((w2.alloc (.cells Try.zeroCells31 31)).alloc (.cells #[.slice none 0 0, .int .i64 0, .int .i64 0] 103))).setRow (g := w2.heap.size) (Or.inl (by simp)) (rootC s l m).toArray
  have HG3 := hide (setRow_heap ((w2.alloc (.cells Try.zeroCells31 31)).alloc (.cells #[.slice none 0 0, .int .i64 0, .int .i64 0] 103)) w2.heap.size _ (rootC s l m).toArray 31 (0, 0) (unhide HZN))
  have HR3 := hide (kb.heap (unhide HRN) (by simp))
  have HA3 := hide (ka.heap (unhide HA2) (by simp))
  have HK3 := hide ((unhide HK2).trans ka (by simp))
  clear ka kb
  obtain ⟨A, hA⟩ : ∃ A, (rootC s l m).toArray = A := ⟨_, rfl⟩
  have HAA := hide hA
  rw [hA] at HSZ2 HS2 HS3 HO1 HG3 HR3 HA3 HK3 ⊢
  clear hA
  go_wp2_with (refine wpList_store_row rfl 31 _ _ rfl w2.heap.size A rfl rfl _ Try.zeroCells31 (unhide HZN) (unhide HSZ2) (unhide HS2) (unhide HO1) ?_; obtain ⟨W3, hW3⟩ : ∃ W, ((w2.alloc (.cells Try.zeroCells31 31)).alloc (.cells #[.slice none 0 0, .int .i64 0, .int .i64 0] 103)).setRow w2.heap.size A = W := ⟨_, rfl⟩; rw [hW3]; rw [hW3] at HG3 HR3 HA3 HK3; clear hW3; obtain ⟨⟨s0, s1, s2⟩, t0, t1, t2⟩ := three (unhide HR3))
  clear s0 s1 s2 t0 t1 t2
  have q := eput3_kept (Kept.refl [w2.heap.size + 1] W3) (w2.heap.size + 1) (Or.inl (by simp)) (.slice a1 p.length c1) (.int .i64 (i1 : Int)) (.int .i64 (e1 : Int))
  have hw2 : w.heap.size < w2.heap.size := lt_of_block (unhide HA2)
  have HG4 := hide (q.heap (unhide HG3) (by simp))
  have HA4 := hide (q.heap (unhide HA3) (by simp; omega))
  have HK4 := hide ((unhide HK3).trans q (by simp; omega))
  clear q HG3 HA3 HK3 HR3 HZN HRN
  refine Calls.mono (refDone_any a1 c1 p i1 e1 _) ?_
  rintro r w4 ⟨rfl, k4⟩
  have HG5 := hide (k4.heap (unhide HG4) (by simp))
  have HA5 := hide (k4.heap (unhide HA4) (by simp))
  have HK5 := hide ((unhide HK4).trans k4 (by simp))
  clear k4 HG4 HA4 HK4
  obtain ⟨f, hf⟩ : ∃ f, doneE p i1 e1 = f := ⟨_, rfl⟩
  rw [hf] at HD ⊢
  clear hf
  by_cases h0 : f = 0
  · subst h0
    have HE := hide (by have h9 := unhide HD; rw [if_neg (by simp)] at h9; exact h9.symm : D = (s, l, m, 0))
    go_wp2_with (first
      | (refine wpList_load_row rfl 31 _ rfl w2.heap.size rfl _ A (0, 0) _ (unhide HG5) Try.underlying31 rfl (unhide HSZ2) ?_)
      | (refine wpList_store_row rfl 31 _ _ rfl w.heap.size A rfl rfl _ zRoot (unhide HA5) (unhide HSZ2) (unhide HS3) (unhide HO1) ?_))
    refine bodyPost_ret (v := .tuple #[.agg A, .int .i64 0]) ?_ rfl ⟨by rw [unhide HE, ← unhide HAA]; rfl, (unhide HK5).setRow (Or.inr (Nat.le_refl _)) _⟩
    exact results_row_tmp rfl _ _ w.heap.size _ _ (0, 0) _ rfl (setRow_heap _ _ _ _ _ _ (unhide HA5)) Try.underlying31 rfl (unhide HSZ2) _ rfl
  · have HE := hide (by have h9 := unhide HD; rw [if_pos h0] at h9; exact h9.symm : D = (0, z32, z32, f))
    have hb0 : ((f : Int) != 0) = true := by rw [bne_iff_ne]; omega
    go_wp2_with (refine wpList_store_row rfl 31 _ _ rfl w.heap.size Try.zeroCells31 rfl rfl _ zRoot (unhide HA5) zRoot_size2 rfl zRoot_one ?_)
    refine bodyPost_ret (v := .tuple #[.agg Try.zeroCells31, .int .i64 f]) ?_ rfl ⟨by rw [unhide HE, zRoot_eq]; rfl, (unhide HK5).setRow (Or.inr (Nat.le_refl _)) _⟩
    exact results_row_tmp rfl _ _ w.heap.size _ _ (0, 0) _ rfl (setRow_heap _ _ _ _ _ _ (unhide HA5)) Try.underlying31 rfl zRoot_size2 _ rfl
end Go.Proofs.Ytkcanelboloihaa
