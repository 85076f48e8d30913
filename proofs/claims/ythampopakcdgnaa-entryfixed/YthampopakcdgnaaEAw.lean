import Derived.Test.YthampopakcdgnaaEOne
import Derived.Lib.SlBytesConst
namespace Go.Proofs.Ythampopakcdgnaa
open Go.RowKit Go.BigFrame
set_option linter.unusedVariables false
set_option linter.unusedSimpArgs false

theorem rd_row {w : World} {g : Nat} (bs : List Nat) {cs : Array Value} {fr : Nat × Nat} (h : w.heap[g]? = some (.cells cs 5 fr)) (hc : cs = (bs.map u8).toArray) (hb : ∀ x ∈ bs, x < 256) (n : Nat) (hn : bs.length = n) (hl : n ≤ 140737488355328) : Rd w (.slice (some ⟨g, 0, none⟩) n n) bs := by
  refine ⟨_, n, n, rfl, hn, Nat.le_refl _, ⟨by omega, hl⟩, fun h => by simp at h, hb, fun hp => ⟨g, 0, rfl, fun i hi => ?_⟩⟩
  subst hc
  have hi' : i < bs.length := by omega
  rw [cell_of_row _ _ _ _ _ _ h, Nat.zero_add, List.getElem?_toArray, List.getElem?_map, List.getElem?_eq_getElem hi', List.getD_eq_getElem?_getD, List.getElem?_eq_getElem hi']
  rfl
theorem RdN.one {w : World} {g : Nat} {e : En} {kv vv : Value} {t : TypeId} {fr : Nat × Nat} (h : w.heap[g]? = some (.cells (enC e kv vv) t fr)) (ho : OkE w e kv vv) : RdN w (.slice (some ⟨g, 0, none⟩) 1 1) [e] := by
  refine ⟨_, 1, 1, fun _ => kv, fun _ => vv, rfl, rfl, Nat.le_refl _, by omega, fun i hi => ?_, fun _ => ⟨g, 0, rfl, fun i hi => ?_⟩⟩
  · have : i = 0 := by simpa using hi
    subst this; exact ho
  · have : i = 0 := by simpa using hi
    subst this
    intro j v hv
    rw [cell_of_row _ _ _ _ _ _ h, Nat.zero_mul, Nat.add_zero, Nat.zero_add, ← Array.getElem?_toList]
    exact hv
theorem heap_alloc3e (w : World) (a b c : Obj) : (((w.alloc a).alloc b).alloc c).heap[w.heap.size]? = some a ∧ (((w.alloc a).alloc b).alloc c).heap[w.heap.size + 1]? = some b ∧ (((w.alloc a).alloc b).alloc c).heap[w.heap.size + 1 + 1]? = some c := by
  refine ⟨?_, ?_, ?_⟩
  · exact (((Kept.refl [] (w.alloc a)).alloc b).alloc c).heap (heap_alloc_new w a) (by simp)
  · exact ((Kept.refl [] ((w.alloc a).alloc b)).alloc c).heap (alloc_at w a b) (by simp)
  · have h9 := alloc_at (w.alloc a) b c
    rw [show (w.alloc a).heap.size = w.heap.size + 1 from Array.size_push _] at h9
    exact h9
theorem decE_k : decE [1, 1, 107, 1, 118] = (⟨1, [107], [118]⟩, 0) := by decide +kernel
theorem decB_k : decB [172, 2, 1, 2, 0] = (300, [⟨2, [], []⟩], 0) := by decide +kernel
theorem chkB_k : chkB 300 [⟨2, [], []⟩] = 0 := by decide
theorem uv300 : uv 300 = [172, 2] := by rw [uv_ge (by decide), uv_lt (by decide)]
theorem batB_k : batB 300 [⟨2, [], []⟩] = [172, 2, 1, 2, 0] := by
  unfold batB entB enB
  rw [uv300]
  simp [uv_lt]
theorem enB_k : enB ⟨1, [107], [118]⟩ = [1, 1, 107, 1, 118] := by
  unfold enB
  simp [uv_lt]

set_option maxRecDepth 100000 in
set_option maxHeartbeats 2000000 in
theorem eawake_any (w : World) :
    Calls Try.prog 4 #[] w fun r w' => r = .returned (.bool true) ∧ Kept [] w w' := by
  have hc1 := Lib.run_convert_bytes_const (P := Try.prog) w 23 5 #[.int .u8 107] 1 1 Try.underlying23 Try.underlying5
  have hc2 := Lib.run_convert_bytes_const (P := Try.prog) (w.alloc (.cells #[.int .u8 107] 5 (1, 2))) 23 5 #[.int .u8 118] 1 1 Try.underlying23 Try.underlying5
  rw [show (w.alloc (.cells #[.int .u8 107] 5 (1, 2))).heap.size = w.heap.size + 1 from Array.size_push _] at hc2
  have hc3 : #[Value.int IntKind.u8 107].size = 1 := rfl
  have hc4 : #[Value.int IntKind.u8 118].size = 1 := rfl
  rw [hc3] at hc1
  rw [hc4] at hc2
  clear hc3 hc4
  go_enter Try.func4, Try.ntmps4
  have HW0 := hide (heap_alloc3e w (.cells #[.int .u8 107] 5 (1, 2)) (.cells #[.int .u8 118] 5 (1, 2)) (.cells #[.int .u8 1, .slice (some ⟨w.heap.size, 0, none⟩) 1 1, .slice (some ⟨w.heap.size + 1, 0, none⟩) 1 1] 25))
  have HK0 := hide ((((Kept.refl [] w).alloc (.cells #[.int .u8 107] 5 (1, 2))).alloc (.cells #[.int .u8 118] 5 (1, 2))).alloc (.cells #[.int .u8 1, .slice (some ⟨w.heap.size, 0, none⟩) 1 1, .slice (some ⟨w.heap.size + 1, 0, none⟩) 1 1] 25))
  go_wp2_with fail
  obtain ⟨W0, hW0⟩ : ∃ W, ((w.alloc (.cells #[.int .u8 107] 5 (1, 2))).alloc (.cells #[.int .u8 118] 5 (1, 2))).alloc (.cells #[.int .u8 1, .slice (some ⟨w.heap.size, 0, none⟩) 1 1, .slice (some ⟨w.heap.size + 1, 0, none⟩) 1 1] 25) = W := ⟨_, rfl⟩
  rw [hW0] at HW0 HK0 ⊢
  clear hW0 hc1 hc2
  have HO0 := hide (⟨by show (1 : Nat) < 256; omega, rd_row [107] (unhide HW0).1 rfl (by decide) 1 rfl (by decide), rd_row [118] (unhide HW0).2.1 rfl (by decide) 1 rfl (by decide)⟩ : OkE W0 ⟨1, [107], [118]⟩ (.slice (some ⟨w.heap.size, 0, none⟩) 1 1) (.slice (some ⟨w.heap.size + 1, 0, none⟩) 1 1))
  have HG0 := hide (unhide HW0).2.2
  clear HW0
  refine Calls.mono (eencode_any ⟨1, [107], [118]⟩ _ _ W0 (unhide HO0)) ?_
  rintro r w1 ⟨v1, rfl, n1, k1⟩
  rw [show chkE ⟨1, [107], [118]⟩ = 0 by decide, if_pos rfl, enB_k] at n1
  rw [show chkE ⟨1, [107], [118]⟩ = 0 by decide]
  have HR1 := hide n1.1
  obtain ⟨a1, m1, c1, hu1, _⟩ := id n1.1
  subst hu1
  have HG1 := hide (k1.heap (unhide HG0) (by simp))
  have HO1 := hide ((unhide HO0).old k1)
  have HK1 := hide ((unhide HK0).trans k1 (by simp))
  clear n1 k1
  go_wp2_with fail
  refine Calls.mono (same_any _ _ [1, 1, 107, 1, 118] [1, 1, 107, 1, 118] _ ((unhide HR1).old ((Kept.refl [] w1).alloc _) (by simp)) (rd_row [1, 1, 107, 1, 118] (heap_alloc_new w1 _) rfl (by decide) 5 rfl (by decide))) ?_
  rintro r w2 ⟨rfl, n2, rfl⟩
  rw [decide_eq_true rfl]
  have k2 := ((Kept.refl [] w1).alloc (.cells #[.int .u8 1, .int .u8 1, .int .u8 107, .int .u8 1, .int .u8 118] 5)).drewN n2
  have HG2 := hide (k2.heap (unhide HG1) (by simp))
  have HO2 := hide ((unhide HO1).old k2)
  have HK2 := hide ((unhide HK1).trans k2 (by simp))
  clear k2
  obtain ⟨W2, hW2⟩ : ∃ W, (w1.alloc (.cells #[.int .u8 1, .int .u8 1, .int .u8 107, .int .u8 1, .int .u8 118] 5)).drewN n2 = W := ⟨_, rfl⟩
  rw [hW2] at HG2 HO2 HK2 ⊢
  clear hW2
  go_wp2_with (refine wpList_load_rowG rfl 25 _ rfl (w.heap.size + 1 + 1) rfl _ _ (0, 0) _ (unhide HG2) Try.underlying25 rfl Try.size_entry ?_)
  refine Calls.mono (check_any ⟨1, [107], [118]⟩ _ _ W2 (unhide HO2)) ?_
  rintro r w3 ⟨rfl, k3⟩
  rw [show chkE ⟨1, [107], [118]⟩ = 0 by decide]
  have HG3 := hide (k3.heap (unhide HG2) (by simp))
  have HO3 := hide ((unhide HO2).old k3)
  have HK3 := hide ((unhide HK2).trans k3 (by simp))
  clear k3
  have HB3 := hide (alloc_at w3 (.cells #[.int .u8 2, .slice none 0 0, .slice none 0 0] 25) (.cells #[.int .u64 300, .slice (some ⟨w3.heap.size, 0, none⟩) 1 1] 34))
  have HE3 := hide (((Kept.refl [] (w3.alloc (.cells #[.int .u8 2, .slice none 0 0, .slice none 0 0] 25))).alloc (.cells #[.int .u64 300, .slice (some ⟨w3.heap.size, 0, none⟩) 1 1] 34)).heap (heap_alloc_new w3 (.cells #[.int .u8 2, .slice none 0 0, .slice none 0 0] 25)) (by simp))
  have k4 := (((Kept.refl [] w3).alloc (.cells #[.int .u8 2, .slice none 0 0, .slice none 0 0] 25)).alloc (.cells #[.int .u64 300, .slice (some ⟨w3.heap.size, 0, none⟩) 1 1] 34))
  have HG4 := hide (k4.heap (unhide HG3) (by simp))
  have HO4 := hide ((unhide HO3).old k4)
  have HK4 := hide ((unhide HK3).trans k4 (by simp))
  clear k4
  go_wp2_with fail
  have HN4 := hide (RdN.one (e := ⟨2, [], []⟩) (unhide HE3) ⟨by show (2 : Nat) < 256; omega, Rd.nil _, Rd.nil _⟩)
  obtain ⟨W4, hW4⟩ : ∃ W, (w3.alloc (.cells #[.int .u8 2, .slice none 0 0, .slice none 0 0] 25)).alloc (.cells #[.int .u64 300, .slice (some ⟨w3.heap.size, 0, none⟩) 1 1] 34) = W := ⟨_, rfl⟩
  rw [hW4] at HB3 HE3 HG4 HO4 HK4 HN4 ⊢
  clear hW4 HE3
  refine Calls.mono (encodeBatch_any 300 _ [⟨2, [], []⟩] W4 (by decide) (unhide HN4)) ?_
  rintro r w5 ⟨v5, rfl, n5, k5⟩
  rw [chkB_k, if_pos rfl, batB_k] at n5
  rw [chkB_k]
  have HR5 := hide n5.1
  obtain ⟨a5, m5, c5, hu5, _⟩ := id n5.1
  subst hu5
  have HG5 := hide (k5.heap (unhide HG4) (by simp))
  have HB5 := hide (k5.heap (unhide HB3) (by simp))
  have HO5 := hide ((unhide HO4).old k5)
  have HN5 := hide ((unhide HN4).old k5)
  have HK5 := hide ((unhide HK4).trans k5 (by simp))
  clear n5 k5
  go_wp2_with fail
  refine Calls.mono (same_any _ _ [172, 2, 1, 2, 0] [172, 2, 1, 2, 0] _ ((unhide HR5).old ((Kept.refl [] w5).alloc _) (by simp)) (rd_row [172, 2, 1, 2, 0] (heap_alloc_new w5 _) rfl (by decide) 5 rfl (by decide))) ?_
  rintro r w6 ⟨rfl, n6, rfl⟩
  rw [decide_eq_true rfl]
  have k6 := ((Kept.refl [] w5).alloc (.cells #[.int .u8 172, .int .u8 2, .int .u8 1, .int .u8 2, .int .u8 0] 5)).drewN n6
  have HG6 := hide (k6.heap (unhide HG5) (by simp))
  have HB6 := hide (k6.heap (unhide HB5) (by simp))
  have HO6 := hide ((unhide HO5).old k6)
  have HN6 := hide ((unhide HN5).old k6)
  have HK6 := hide ((unhide HK5).trans k6 (by simp))
  clear k6
  obtain ⟨W6, hW6⟩ : ∃ W, (w5.alloc (.cells #[.int .u8 172, .int .u8 2, .int .u8 1, .int .u8 2, .int .u8 0] 5)).drewN n6 = W := ⟨_, rfl⟩
  rw [hW6] at HG6 HB6 HO6 HN6 HK6 ⊢
  clear hW6
  go_wp2_with fail
  refine Calls.mono (decode_any _ [1, 1, 107, 1, 118] _ (rd_row [1, 1, 107, 1, 118] (heap_alloc_new W6 _) rfl (by decide) 5 rfl (by decide))) ?_
  rintro r w7 ⟨kv7, vv7, rfl, ok7, k7, _⟩
  rw [decE_k] at ok7 ⊢
  obtain ⟨a7, m7, c7, hu7, _⟩ := id ok7.key
  subst hu7
  obtain ⟨a8, m8, c8, hu8, _⟩ := id ok7.val
  subst hu8
  have k07 := ((Kept.refl [] W6).alloc (.cells #[.int .u8 1, .int .u8 1, .int .u8 107, .int .u8 1, .int .u8 118] 5)).trans k7 (by simp)
  have HG7 := hide (k07.heap (unhide HG6) (by simp))
  have HB7 := hide (k07.heap (unhide HB6) (by simp))
  have HO7 := hide ((unhide HO6).old k07)
  have HN7 := hide ((unhide HN6).old k07)
  have HK7 := hide ((unhide HK6).trans k07 (by simp))
  have HD7 := hide ok7
  clear k7 k07 ok7
  simp only [enC]
  have HE7 := hide (((Kept.refl [] (w7.alloc (.cells #[.int .u8 1, .slice a7 m7 c7, .slice a8 m8 c8] 25))).alloc (.cells #[.int .u8 172, .int .u8 2, .int .u8 1, .int .u8 2, .int .u8 0] 5)).heap (heap_alloc_new w7 (.cells #[.int .u8 1, .slice a7 m7 c7, .slice a8 m8 c8] 25)) (by simp))
  have HL7 := hide (alloc_at w7 (.cells #[.int .u8 1, .slice a7 m7 c7, .slice a8 m8 c8] 25) (.cells #[.int .u8 172, .int .u8 2, .int .u8 1, .int .u8 2, .int .u8 0] 5))
  have k8 := ((Kept.refl [] w7).alloc (.cells #[.int .u8 1, .slice a7 m7 c7, .slice a8 m8 c8] 25)).alloc (.cells #[.int .u8 172, .int .u8 2, .int .u8 1, .int .u8 2, .int .u8 0] 5)
  have HG8 := hide (k8.heap (unhide HG7) (by simp))
  have HB8 := hide (k8.heap (unhide HB7) (by simp))
  have HO8 := hide ((unhide HO7).old k8)
  have HD8 := hide ((unhide HD7).old k8)
  have HN8 := hide ((unhide HN7).old k8)
  have HK8 := hide ((unhide HK7).trans k8 (by simp))
  clear k8
  go_wp2_with fail
  obtain ⟨W8, hW8⟩ : ∃ W, (w7.alloc (.cells #[.int .u8 1, .slice a7 m7 c7, .slice a8 m8 c8] 25)).alloc (.cells #[.int .u8 172, .int .u8 2, .int .u8 1, .int .u8 2, .int .u8 0] 5) = W := ⟨_, rfl⟩
  rw [hW8] at HE7 HL7 HG8 HB8 HO8 HD8 HN8 HK8 ⊢
  clear hW8
  refine Calls.mono (decodeBatch_any _ [172, 2, 1, 2, 0] W8 (rd_row [172, 2, 1, 2, 0] (unhide HL7) rfl (by decide) 5 rfl (by decide))) ?_
  rintro r w9 ⟨bv9, rfl, ok9, k9⟩
  rw [decB_k] at ok9 ⊢
  obtain ⟨a9, m9, c9, _, _, hu9, _⟩ := id ok9.rdN
  subst hu9
  have k99 := k9.trans ((Kept.refl [] w9).alloc (.cells #[.int .u64 300, .slice a9 m9 c9] 34)) (by simp)
  have HC9 := hide (heap_alloc_new w9 (.cells #[.int .u64 300, .slice a9 m9 c9] 34))
  have HE9 := hide (k99.heap (unhide HE7) (by simp))
  have HG9 := hide (k99.heap (unhide HG8) (by simp))
  have HB9 := hide (k99.heap (unhide HB8) (by simp))
  have HO9 := hide ((unhide HO8).old k99)
  have HD9 := hide ((unhide HD8).old k99)
  have HN9 := hide ((unhide HN8).old k99)
  have HK9 := hide ((unhide HK8).trans k99 (by simp))
  have HM9 := hide (ok9.rdN.old ((Kept.refl [] w9).alloc (.cells #[.int .u64 300, .slice a9 m9 c9] 34)))
  clear k9 k99 ok9
  go_wp2_with (first
    | (refine wpList_load_rowG rfl 25 _ rfl w7.heap.size rfl _ _ (0, 0) _ (unhide HE9) Try.underlying25 rfl Try.size_entry ?_)
    | (refine wpList_load_rowG rfl 25 _ rfl (w.heap.size + 1 + 1) rfl _ _ (0, 0) _ (unhide HG9) Try.underlying25 rfl Try.size_entry ?_))
  obtain ⟨W9, hW9⟩ : ∃ W, w9.alloc (.cells #[.int .u64 300, .slice a9 m9 c9] 34) = W := ⟨_, rfl⟩
  rw [hW9] at HC9 HE9 HG9 HB9 HO9 HD9 HN9 HK9 HM9 ⊢
  clear hW9
  refine Calls.mono (sameEntry_any ⟨1, [107], [118]⟩ ⟨1, [107], [118]⟩ _ _ _ _ W9 (unhide HD9) (unhide HO9)) ?_
  rintro r w10 ⟨rfl, k10⟩
  rw [decide_eq_true rfl]
  have HC10 := hide (k10.heap (unhide HC9) (by simp))
  have HB10 := hide (k10.heap (unhide HB9) (by simp))
  have HN10 := hide ((unhide HN9).old k10)
  have HM10 := hide ((unhide HM9).old k10)
  have HK10 := hide ((unhide HK9).trans k10 (by simp))
  clear k10
  go_wp2_with (first
    | (refine wpList_load_rowG rfl 34 _ rfl w9.heap.size rfl _ _ (0, 0) _ (unhide HC10) Try.underlying34 rfl Try.size_batch ?_)
    | (refine wpList_load_rowG rfl 34 _ rfl (w3.heap.size + 1) rfl _ _ (0, 0) _ (unhide HB10) Try.underlying34 rfl Try.size_batch ?_))
  refine Calls.mono (sameBatch_any 300 300 _ _ [⟨2, [], []⟩] [⟨2, [], []⟩] w10 (unhide HM10) (unhide HN10)) ?_
  rintro r w11 ⟨rfl, k11⟩
  have HK11 := hide ((unhide HK10).trans k11 (by simp))
  clear k11
  rw [show (decide ((300 : Nat) = 300) && decide ([(⟨2, [], []⟩ : En)] = [⟨2, [], []⟩])) = true by decide]
  go_wp2
  go_ret
  exact ⟨rfl, unhide HK11⟩
end Go.Proofs.Ythampopakcdgnaa
