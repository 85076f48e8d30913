import Derived.Test.YtkcanelboloihaaERootEq
import Derived.Test.YtkcanelboloihaaEAw
import Derived.Test.YtkcanelboloihaaERoDec
namespace Go.Proofs.Ytkcanelboloihaa
open Go.RowKit Go.BigFrame
set_option linter.unusedVariables false
set_option linter.unusedSimpArgs false

theorem calls_agg {P : Program} {f : Nat} {a : Value} {X Y : Array Value} {w : World} {Q : Ending → World → Prop} (hX : X = Y) (h : Calls P f #[a, .agg Y] w Q) : Calls P f #[a, .agg X] w Q := hX ▸ h
def r7 : List Nat := 7 :: 8 :: List.replicate 30 0
def r9 : List Nat := 9 :: List.replicate 31 0
theorem r_len : r7.length = 32 ∧ r9.length = 32 := by simp [r7, r9]
theorem r_byte : (∀ x ∈ r7, x < 256) ∧ (∀ x ∈ r9, x < 256) := by decide
theorem r_E : rootE 2 r7 r9 = 0 := by decide
theorem r_W : rootW 2 258 r7 r9 = [0, 0, 0, 0, 0, 0, 1, 2, 7, 8, 9, 0] := by decide

set_option maxRecDepth 100000 in
set_option maxHeartbeats 1000000 in
theorem entryRoots_walk (z : Int) (s : Nat) (l m : List Nat) (v : Value) (p : List Nat) (w : World) (hz : -9223372036854775808 ≤ z ∧ z ≤ 9223372036854775807) (hs : s < 18446744073709551616) (hl : l.length = 32 ∧ ∀ x ∈ l, x < 256) (hm : m.length = 32 ∧ ∀ x ∈ m, x < 256) (h : Rd w v p) (hp : p.length ≤ 1048576) :
    Calls Try.prog 4 #[.int .i64 z, .agg (rootC s l m).toArray, v] w fun r w' => r = .returned (.bool true) ∧ Below w.heap.size w w' := by
  have H := hide h
  obtain ⟨a1, m1, c1, rfl, hm1, _⟩ := h
  subst hm1
  have HL := hide hl
  have HM := hide hm
  clear hl hm
  obtain ⟨A, hA⟩ : ∃ A, (rootC s l m).toArray = A := ⟨_, rfl⟩
  have HAA := hide hA
  rw [hA]
  clear hA
  go_enter Try.func4, Try.ntmps4
  go_wp2_with fail
  have HK0 := hide ((Kept.refl [] w).alloc (.cells A 31))
  have HZ0 := hide (heap_alloc_new w (.cells A 31))
  refine Calls.mono (eawake_any _) ?_
  rintro r w1 ⟨rfl, k1⟩
  have HZ1 := hide (k1.heap (unhide HZ0) (by simp))
  have HK1 := hide ((unhide HK0).trans k1 (by simp))
  clear k1 HZ0 HK0
  go_wp2_with fail
  refine calls_agg (Y := (rootC 258 r7 r9).toArray) (by kernel_rfl) (Calls.mono (encodeRoot_any 2 258 r7 r9 w1 (by omega) (by omega) r_len.1 r_len.2 r_byte.1 r_byte.2) ?_)
  rintro r w2 ⟨v2, rfl, n2, k2⟩
  rw [r_E, if_pos rfl, show (2 : Int).toNat = 2 from rfl, r_W] at n2
  rw [r_E]
  have HZ2 := hide (k2.heap (unhide HZ1) (by simp))
  have HK2 := hide ((unhide HK1).trans k2 (by simp))
  have HR2 := hide n2.1
  obtain ⟨a2, m2, c2, hu2, _⟩ := id n2.1
  subst hu2
  clear n2 k2 HZ1 HK1
  go_wp2_with fail
  have ka := (Kept.refl [] w2).alloc (.cells #[.int .u8 0, .int .u8 0, .int .u8 0, .int .u8 0, .int .u8 0, .int .u8 0, .int .u8 1, .int .u8 2, .int .u8 7, .int .u8 8, .int .u8 9, .int .u8 0] 5)
  refine Calls.mono (same_any _ _ [0, 0, 0, 0, 0, 0, 1, 2, 7, 8, 9, 0] [0, 0, 0, 0, 0, 0, 1, 2, 7, 8, 9, 0] _ ((unhide HR2).old ka (by simp)) (rd_lit (heap_alloc_new w2 _) rfl (by decide) 12 rfl (by omega))) ?_
  rintro r w3 ⟨rfl, n3, hw3⟩
  rw [decide_eq_true rfl]
  have k3 : Kept [] w2 w3 := by rw [hw3]; exact ka.drewN n3
  have HZ3 := hide (k3.heap (unhide HZ2) (by simp))
  have HK3 := hide ((unhide HK2).trans k3 (by simp))
  clear hw3 k3 ka HR2 HZ2 HK2
  have HSZ := hide (by rw [← unhide HAA]; exact rootC_size s (unhide HL).1 (unhide HM).1 : (Try.prog.info? 31).map (·.size) = some A.size)
  go_wp2_with (refine wpList_load_row rfl 31 _ rfl w.heap.size rfl _ A (0, 0) _ (unhide HZ3) Try.underlying31 rfl (unhide HSZ) ?_)
  rw [← unhide HAA]
  refine Calls.mono (encodeRoot_any z s l m w3 hz hs (unhide HL).1 (unhide HM).1 (unhide HL).2 (unhide HM).2) ?_
  rintro r w4 ⟨v4, rfl, n4, k4⟩
  rw [unhide HAA]
  have HZ4 := hide (k4.heap (unhide HZ3) (by simp))
  have HK4 := hide ((unhide HK3).trans k4 (by simp))
  have HR4 := hide n4.1
  obtain ⟨a4, m4, c4, hu4, _⟩ := id n4.1
  subst hu4
  clear n4 k4 HZ3 HK3
  go_wp2_with (refine wpList_load_row rfl 31 _ rfl w.heap.size rfl _ A (0, 0) _ (unhide HZ4) Try.underlying31 rfl (unhide HSZ) ?_)
  rw [← unhide HAA]
  refine Calls.mono (docEncodeRoot_any z s l m w4 hz hs (unhide HL).1 (unhide HM).1 (unhide HL).2 (unhide HM).2) ?_
  rintro r w5 ⟨v5, rfl, r5, k5⟩
  rw [unhide HAA]
  have HK5 := hide ((unhide HK4).trans k5 (by simp))
  have HR5 := hide r5
  have HR54 := hide ((unhide HR4).old k5 (by simp))
  obtain ⟨a5, m5, c5, hu5, _⟩ := id r5
  subst hu5
  clear r5 k5 HR4 HK4 HZ4
  obtain ⟨B, hB⟩ : ∃ B, (if rootE z l m = 0 then rootW z.toNat s l m else []) = B := ⟨_, rfl⟩
  rw [hB] at HR5 HR54
  clear hB
  obtain ⟨g, hg⟩ : ∃ g, rootE z l m = g := ⟨_, rfl⟩
  rw [hg]
  clear hg
  go_wp2_with fail
  refine Calls.mono (twin_any _ p w5 ((unhide H).old (unhide HK5) (by simp))) ?_
  rintro r w6 ⟨rfl, k6, h6⟩
  have HRT := hide (rd_fresh h6 (unhide H).byte (by omega))
  have HK6 := hide ((unhide HK5).trans k6 (by simp))
  have HR6 := hide ((unhide HR5).old k6 (by simp))
  have HR64 := hide ((unhide HR54).old k6 (by simp))
  clear h6 k6 HR5 HR54 HK5
  go_wp2_with fail
  refine Calls.mono (decodeRoot_any z _ p w6 hz (unhide HRT)) ?_
  rintro r w7 ⟨rfl, k7⟩
  have HK7 := hide ((unhide HK6).trans k7 (by simp))
  have HR7 := hide ((unhide HR6).old k7 (by simp))
  have HR74 := hide ((unhide HR64).old k7 (by simp))
  clear k7 HR6 HR64 HK6 HRT
  have HOK := hide (decR_ok z p (unhide H).byte)
  obtain ⟨D, hD⟩ : ∃ D, decR z p = D := ⟨_, rfl⟩
  have HDD := hide hD
  rw [hD] at HOK ⊢
  clear hD
  obtain ⟨s2, l2, m2', f2⟩ := D
  simp only at HOK ⊢
  have HSZ2 := hide (rootC_size s2 (unhide HOK).2.1 (unhide HOK).2.2.1)
  have HS2 := hide (by have h9 := (unhide HSZ2).symm.trans zRoot_size2; exact (Option.some.inj h9).symm : Try.zeroCells31.size = (rootC s2 l2 m2').toArray.size)
  have HO1 := hide (rootC_one s2 l2 m2')
  have HZN := hide (heap_alloc_new w7 (.cells Try.zeroCells31 31))
  have ka := ((Kept.refl [] w7).alloc (.cells Try.zeroCells31 31)).setRow (g := w7.heap.size) (Or.inr (Nat.le_refl _)) (rootC s2 l2 m2').toArray
  have HK8 := hide ((unhide HK7).trans ka (by simp))
  have HR8 := hide ((unhide HR7).old ka (by simp))
  have HR84 := hide ((unhide HR74).old ka (by simp))
  have HG8 := hide (setRow_heap (w7.alloc (.cells Try.zeroCells31 31)) w7.heap.size _ (rootC s2 l2 m2').toArray 31 (0, 0) (unhide HZN))
  clear ka
  obtain ⟨A2, hA2⟩ : ∃ A, (rootC s2 l2 m2').toArray = A := ⟨_, rfl⟩
  have HA2 := hide hA2
  rw [hA2] at HSZ2 HS2 HO1 HK8 HR8 HR84 HG8 ⊢
  clear hA2
  go_wp2_with (refine wpList_store_row rfl 31 _ _ rfl w7.heap.size A2 rfl rfl _ Try.zeroCells31 (unhide HZN) (unhide HSZ2) (unhide HS2) (unhide HO1) ?_; obtain ⟨W8, hW8⟩ : ∃ W, (w7.alloc (.cells Try.zeroCells31 31)).setRow w7.heap.size A2 = W := ⟨_, rfl⟩; rw [hW8]; rw [hW8] at HG8 HR8 HR84 HK8; clear hW8)
  refine Calls.mono (docDecodeRoot_any z _ p W8 hz ((unhide H).old (unhide HK8) (by simp))) ?_
  rintro r w9 ⟨rfl, k9⟩
  have HK9 := hide ((unhide HK8).trans k9 (by simp))
  have HR9 := hide ((unhide HR8).old k9 (by simp))
  have HR94 := hide ((unhide HR84).old k9 (by simp))
  have HG9 := hide (k9.heap (unhide HG8) (by simp))
  clear k9 HR8 HR84 HK8 HG8 HZN
  rw [unhide HDD]
  simp only
  rw [unhide HA2]
  have HZN := hide (heap_alloc_new w9 (.cells Try.zeroCells31 31))
  have ka := ((Kept.refl [] w9).alloc (.cells Try.zeroCells31 31)).setRow (g := w9.heap.size) (Or.inr (Nat.le_refl _)) A2
  have HKa := hide ((unhide HK9).trans ka (by simp))
  have HRa := hide ((unhide HR9).old ka (by simp))
  have HRa4 := hide ((unhide HR94).old ka (by simp))
  have HGs := hide (ka.heap (unhide HG9) (by simp))
  have HGt := hide (setRow_heap (w9.alloc (.cells Try.zeroCells31 31)) w9.heap.size _ A2 31 (0, 0) (unhide HZN))
  clear ka
  have hff : ((g : Int) == (g : Int)) = true := by simp
  have hf2 : ((f2 : Int) == (f2 : Int)) = true := by simp
  go_wp2_with (refine wpList_store_row rfl 31 _ _ rfl w9.heap.size A2 rfl rfl _ Try.zeroCells31 (unhide HZN) (unhide HSZ2) (unhide HS2) (unhide HO1) ?_; obtain ⟨Wa, hWa⟩ : ∃ W, (w9.alloc (.cells Try.zeroCells31 31)).setRow w9.heap.size A2 = W := ⟨_, rfl⟩; rw [hWa]; rw [hWa] at HGs HGt HRa HRa4 HKa; clear hWa)
  refine Calls.mono (same_any _ _ B B _ (unhide HRa4) (unhide HRa)) ?_
  rintro r wb ⟨rfl, nb, hwb⟩
  rw [decide_eq_true rfl]
  have kb : Kept [] Wa wb := by rw [hwb]; exact (Kept.refl [] Wa).drewN nb
  have HKb := hide ((unhide HKa).trans kb (by simp))
  have HGs2 := hide (kb.heap (unhide HGs) (by simp))
  have HGt2 := hide (kb.heap (unhide HGt) (by simp))
  clear hwb kb HKa HGs HGt HRa HRa4
  have heq : ∀ W, (Op.equalIn 10000 31 (.agg A2) (.agg A2)).run Try.prog W = .ok true W := fun W => by
    have h9 := root_eq W s2 s2 l2 m2' l2 m2' (unhide HOK).2.1 (unhide HOK).2.2.1 (unhide HOK).2.1 (unhide HOK).2.2.1
    rw [unhide HA2] at h9
    rw [h9]; simp
  go_wp2_with (first
    | (refine wpList_load_rowG rfl 31 _ rfl w7.heap.size rfl _ A2 (0, 0) _ (unhide HGs2) Try.underlying31 rfl (unhide HSZ2) ?_)
    | (refine wpList_load_rowG rfl 31 _ rfl w9.heap.size rfl _ A2 (0, 0) _ (unhide HGt2) Try.underlying31 rfl (unhide HSZ2) ?_))
  go_ret
  exact ⟨rfl, (unhide HKb).below (Nat.le_refl _) (by simp)⟩
end Go.Proofs.Ytkcanelboloihaa
