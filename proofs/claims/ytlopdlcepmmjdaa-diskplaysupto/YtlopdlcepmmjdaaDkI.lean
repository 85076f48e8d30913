import Derived.Test.YtlopdlcepmmjdaaDkH
namespace Go.Proofs.Ytlopdlcepmmjdaa
open Go.RowKit Go.BigFrame Go.Maps Go.Sort
set_option linter.unusedVariables false
set_option linter.unusedSimpArgs false

theorem DK.old {w w' : World} {d nb bb : Nat} {B : List Nat} {σ : DSt} (h : DK w d B nb bb σ) (k : Kept [] w w') : DK w' d B nb bb σ := h.kept k (by simp)
theorem Kept.ev {w0 w w' : World} {B B' : List Nat} (k : Kept [] w0 w) (hb : ∀ x ∈ B, w0.heap.size ≤ x) (e : Ev w w' B B') : Kept [] w0 w' ∧ ∀ x ∈ B', w0.heap.size ≤ x := by
  refine ⟨k.trans e.1 (fun x hx => .inr (hb x hx)), ?_⟩
  intro x hx
  rcases e.2 x hx with h | h
  · exact hb x h
  · exact Nat.le_trans k.size h

set_option maxRecDepth 100000 in
set_option maxHeartbeats 2000000 in
theorem dawake_any (w : World) : Calls Try.prog 7 #[] w fun e w' => e = .returned (.bool true) ∧ Kept [] w w' := by
  go_enter Try.func7, Try.ntmps7
  go_wp2_with fail
  refine Calls.mono (newM_D 8 w (by decide) (by decide)) ?_
  rintro e w1 ⟨d, B1, rfl, hd1, hk1, hb1⟩
  have HD1 := hide hd1
  have HK1 := hide (And.intro hk1 hb1)
  clear hd1 hk1 hb1
  go_wp2_with fail
  have hc := create_D d 0 0 B1 _ sA w1 (unhide HD1) (by decide) (by decide)
  rw [show (stCreate ⟨8, 0, 0, false, fun _ => none, []⟩ sA) = _ from aw1] at hc
  refine Calls.mono hc ?_
  clear hc
  rintro e w2 ⟨B2, rfl, hd2, hv2⟩
  have HD2 := hide hd2
  have HK2 := hide ((unhide HK1).1.ev (unhide HK1).2 hv2)
  clear hd2 hv2
  go_wp2_with fail
  obtain ⟨W2, hW2⟩ : ∃ W, w2.alloc (.cells #[.int .u8 1, .int .u8 2] 5 (0, 0)) = W := ⟨_, rfl⟩
  have hk := (Kept.refl [] w2).alloc (.cells #[.int .u8 1, .int .u8 2] 5 (0, 0))
  have hg := heap_alloc_new w2 (.cells #[.int .u8 1, .int .u8 2] 5 (0, 0))
  rw [hW2] at hk hg ⊢
  have hc := append_D d 1 0 B2 _ sA (.slice (some ⟨w2.heap.size, 0, none⟩) 2 2) [1, 2] W2 ((unhide HD2).old hk) (by decide) (by decide) (rd_lit hg rfl (by simp) 2 rfl (by omega)) (by
    intro x hx hy
    replace hx := (mem_zblk hx).1
    simp only [blk, List.mem_singleton] at hx
    subst hx
    have := (unhide HD2).lt _ hy
    omega) (by simp)
  rw [aw2] at hc
  refine Calls.mono hc ?_
  clear hc hg
  rintro e w3 ⟨B3, rfl, hd3, hv3⟩
  have HD3 := hide hd3
  have HK3 := hide (((unhide HK2).1.trans hk (by simp)).ev (unhide HK2).2 hv3)
  clear hd3 hv3 hk hW2
  go_wp2_with fail
  have hc := sync_D d 2 2 B3 _ sA w3 (unhide HD3) (by decide) (by decide)
  rw [aw3] at hc
  refine Calls.mono hc ?_
  clear hc
  rintro e w4 ⟨B4, rfl, hd4, hv4⟩
  have HD4 := hide hd4
  have HK4 := hide ((unhide HK3).1.ev (unhide HK3).2 hv4)
  clear hd4 hv4
  go_wp2_with fail
  obtain ⟨W4, hW4⟩ : ∃ W, w4.alloc (.cells #[.int .u8 3, .int .u8 4] 5 (0, 0)) = W := ⟨_, rfl⟩
  have hk := (Kept.refl [] w4).alloc (.cells #[.int .u8 3, .int .u8 4] 5 (0, 0))
  have hg := heap_alloc_new w4 (.cells #[.int .u8 3, .int .u8 4] 5 (0, 0))
  rw [hW4] at hk hg ⊢
  have hc := append_D d 3 2 B4 _ sA (.slice (some ⟨w4.heap.size, 0, none⟩) 2 2) [3, 4] W4 ((unhide HD4).old hk) (by decide) (by decide) (rd_lit hg rfl (by simp) 2 rfl (by omega)) (by
    intro x hx hy
    replace hx := (mem_zblk hx).1
    simp only [blk, List.mem_singleton] at hx
    subst hx
    have := (unhide HD4).lt _ hy
    omega) (by simp)
  rw [aw4] at hc
  refine Calls.mono hc ?_
  clear hc hg
  rintro e w5 ⟨B5, rfl, hd5, hv5⟩
  have HD5 := hide hd5
  have HK5 := hide (((unhide HK4).1.trans hk (by simp)).ev (unhide HK4).2 hv5)
  clear hd5 hv5 hk hW4
  go_wp2_with fail
  have hc := sync_D d 4 4 B5 _ sB w5 (unhide HD5) (by decide) (by decide)
  rw [aw5] at hc
  refine Calls.mono hc ?_
  clear hc
  rintro e w6 ⟨B6, rfl, hd6, hv6⟩
  have HD6 := hide hd6
  have HK6 := hide ((unhide HK5).1.ev (unhide HK5).2 hv6)
  clear hd6 hv6
  go_wp2_with fail
  obtain ⟨W6, hW6⟩ : ∃ W, w6.alloc (.cells #[.string ⟨#[97]⟩, .int .i64 1, .bool true] 72 (0, 0)) = W := ⟨_, rfl⟩
  have hk := (Kept.refl [] w6).alloc (.cells #[.string ⟨#[97]⟩, .int .i64 1, .bool true] 72 (0, 0))
  have hg := heap_alloc_new w6 (.cells #[.string ⟨#[97]⟩, .int .i64 1, .bool true] 72 (0, 0))
  rw [hW6] at hk hg ⊢
  have hc := restart_D d 5 4 B6 _ 1 (.slice (some ⟨w6.heap.size, 0, none⟩) 1 1) [⟨sA, 1, true⟩] W6 ((unhide HD6).old hk) (by decide) (by decide) (by
    refine ⟨_, _, _, rfl, rfl, Nat.le_refl _, by omega, fun _ => ⟨_, _, rfl, ?_⟩⟩
    intro i hi
    have hi0 : i = 0 := by simp at hi; omega
    subst hi0
    intro j v hv
    have h9 := cell_of_row _ _ (0 + 0 * 3 + j) _ _ _ hg
    rw [h9]
    rw [← hv]
    simp only [List.map_cons, List.getElem_cons_zero, keC]
    rw [show 0 + 0 * 3 + j = j by omega, ← Array.getElem?_toList]
    rfl) (by
    intro x hx hy
    replace hx := (mem_zblk hx).1
    simp only [blk, List.mem_singleton] at hx
    subst hx
    have := (unhide HD6).lt _ hy
    omega) (by simp; decide) (by decide)
  rw [aw6] at hc
  refine Calls.mono hc ?_
  clear hc hg
  rintro e w7 ⟨B7, rfl, hd7, hv7⟩
  have HD7 := hide hd7
  have HK7 := hide (((unhide HK6).1.trans hk (by simp)).ev (unhide HK6).2 hv7)
  clear hd7 hv7 hk hW6
  go_wp2_with fail
  have hc := read_D d 5 4100 B7 _ sA w7 (unhide HD7) (by decide) (by decide)
  rw [aw7] at hc
  refine Calls.mono hc ?_
  clear hc
  rintro e w8 ⟨v8, rfl, hn8, hk8⟩
  have HN8 := hide hn8
  have HD8 := hide ((unhide HD7).old hk8)
  have HK8 := hide ((unhide HK7).1.trans hk8 (by simp))
  clear hn8 hk8
  go_wp2_with fail
  obtain ⟨W8, hW8⟩ : ∃ W, w8.alloc (.cells #[.int .u8 1, .int .u8 2, .int .u8 3, .int .u8 0, .int .u8 0, .int .u8 0, .int .u8 0, .int .u8 0] 5 (0, 0)) = W := ⟨_, rfl⟩
  have hk := (Kept.refl [] w8).alloc (.cells #[.int .u8 1, .int .u8 2, .int .u8 3, .int .u8 0, .int .u8 0, .int .u8 0, .int .u8 0, .int .u8 0] 5 (0, 0))
  have hg := heap_alloc_new w8 (.cells #[.int .u8 1, .int .u8 2, .int .u8 3, .int .u8 0, .int .u8 0, .int .u8 0, .int .u8 0, .int .u8 0] 5 (0, 0))
  rw [hW8] at hk hg ⊢
  have hs := same_any v8 (.slice (some ⟨w8.heap.size, 0, none⟩) 8 8) [1, 2, 3, 0, 0, 0, 0, 0] [1, 2, 3, 0, 0, 0, 0, 0] W8 ((unhide HN8).rd.kept hk (by simp)) (rd_lit hg rfl (by simp) 8 rfl (by omega))
  refine Calls.mono hs ?_
  clear hs
  rintro e w9 ⟨rfl, n9, rfl⟩
  rw [decide_eq_true rfl]
  have HK9 := hide (((unhide HK8).trans hk (by simp)).drewN n9)
  have HD9 := hide (((unhide HD8).old hk).old ((Kept.refl [] W8).drewN n9))
  clear hk hg hW8
  go_wp2_with fail
  have hc := namesOf_D d 5 4100 B7 _ (W8.drewN n9) (unhide HD9) (by decide)
  rw [aw8] at hc
  refine Calls.mono hc ?_
  clear hc
  rintro e w10 ⟨v10, rfl, ho10, hk10⟩
  have HO10 := hide ho10
  have HK10 := hide ((unhide HK9).trans hk10 (by simp))
  clear ho10 hk10
  go_wp2_with fail
  obtain ⟨W10, hW10⟩ : ∃ W, w10.alloc (.cells #[.string ⟨#[97]⟩] 9 (0, 0)) = W := ⟨_, rfl⟩
  have hk := (Kept.refl [] w10).alloc (.cells #[.string ⟨#[97]⟩] 9 (0, 0))
  have hg := heap_alloc_new w10 (.cells #[.string ⟨#[97]⟩] 9 (0, 0))
  rw [hW10] at hk hg ⊢
  have hs := names_any v10 (.slice (some ⟨w10.heap.size, 0, none⟩) 1 1) [[97]] [[97]] W10 ((rds_owns (unhide HO10)).kept hk (by simp)) (by
    refine ⟨_, _, _, rfl, rfl, Nat.le_refl _, by omega, fun _ => ⟨_, _, rfl, ?_⟩⟩
    intro i hi
    have hi0 : i = 0 := by simp at hi; omega
    subst hi0
    exact cell_of_row _ _ 0 _ _ _ hg)
  refine Calls.mono hs ?_
  clear hs
  rintro e w11 ⟨rfl, n11, rfl⟩
  rw [decide_eq_true rfl]
  have HK11 := hide (((unhide HK10).trans hk (by simp)).drewN n11)
  clear hk hg hW10
  go_wp2_with fail
  go_ret
  exact ⟨rfl, unhide HK11⟩
end Go.Proofs.Ytlopdlcepmmjdaa
