import Derived.Test.YtbbjbpjpejekgaaJoin
import Derived.Test.YtbbjbpjpejekgaaSame
import Derived.Test.YtbbjbpjpejekgaaCat
import Derived.BigFrame
namespace Go.Proofs.Ytbbjbpjpejekgaa
open Go.RowKit
set_option linter.unusedVariables false
set_option linter.unusedSimpArgs false

/-- The byte that 'behind' answers. -/
def behindN (j : Nat) : Nat := (j * j * 3 + j * 7 + 91) % 256

set_option maxRecDepth 100000 in
set_option maxHeartbeats 1000000 in
theorem behind_any (j : Nat) (w : World) (hj : j ≤ 1048576) :
    Calls Try.prog 40 #[.int .i64 j] w fun e w' => e = .returned (.int .u8 (behindN j)) ∧ w' = w := by
  have hb : j * j ≤ 1048576 * 1048576 := Nat.mul_le_mul hj hj
  obtain ⟨q, hq⟩ : ∃ q, j * j = q := ⟨_, rfl⟩
  have hq2 : (j : Int) * j = q := by rw [← hq]; simp
  have Hv := hide (by unfold behindN; rw [hq] : behindN j = (q * 3 + j * 7 + 91) % 256)
  rw [hq] at hb
  clear hq
  go_enter Try.func40, Try.ntmps40
  go_wp2
  go_ret
  exact ⟨by rw [unhide Hv]; simp, rfl⟩

def overN (i b : Nat) : Nat := (b * 3 + i + 85) % 256
def overL (bs : List Nat) (k : Nat) : List Nat := bs.mapIdx fun i b => if i < k then overN i b else b
theorem overL_len (bs : List Nat) (k : Nat) : (overL bs k).length = bs.length := by simp [overL]
theorem overL_zero (bs : List Nat) : overL bs 0 = bs := by
  apply List.ext_getElem
  · simp [overL]
  · intro i h1 h2; simp [overL]
theorem overL_get (bs : List Nat) (k i : Nat) (h : i < bs.length) : (overL bs k)[i]? = some (if i < k then overN i bs[i] else bs[i]) := by
  simp [overL, h]
theorem overL_succ (bs : List Nat) (k : Nat) (h : k < bs.length) : ((overL bs k).map u8).toArray.setIfInBounds k (u8 (overN k bs[k])) = ((overL bs (k + 1)).map u8).toArray := by
  apply Array.ext
  · simp [overL]
  · intro i h1 h2
    simp [overL] at h1 h2
    by_cases hik : i = k
    · subst hik; simp [overL]
    · have hki : ¬ k = i := fun e => hik e.symm
      by_cases hlt : i < k
      · have : i < k + 1 := by omega
        simp [overL, hki, hlt, this, Array.getElem_setIfInBounds]
      · have : ¬ i < k + 1 := by omega
        simp [overL, hki, hlt, this, Array.getElem_setIfInBounds]

theorem overR_succ (bs : List Nat) (rs : List Value) (k : Nat) (h : k < bs.length) : ((overL bs k).map u8 ++ rs).toArray.setIfInBounds k (u8 (overN k bs[k])) = ((overL bs (k + 1)).map u8 ++ rs).toArray := by
  have h1 := congrArg Array.toList (overL_succ bs k h)
  simp only [List.setIfInBounds_toArray, List.toList_toArray] at h1
  rw [List.setIfInBounds_toArray, List.set_append_left _ _ (by simp [overL_len]; exact h), h1]

set_option maxRecDepth 100000 in
set_option maxHeartbeats 2000000 in
theorem over_gen (g cap : Nat) (bs : List Nat) (rs : List Value) (w : World) (h : w.heap[g]? = some (.cells (bs.map u8 ++ rs).toArray 5 (0, 0))) (hb : ∀ x ∈ bs, x < 256) (hl : bs.length ≤ 140737488355328) (hc : bs.length ≤ cap) :
    Calls Try.prog 22 #[.slice (some ⟨g, 0, none⟩) bs.length cap] w fun e w' => e = .returned (.tuple #[]) ∧ Kept [g] w w' ∧ w'.heap[g]? = some (.cells ((overL bs bs.length).map u8 ++ rs).toArray 5 (0, 0)) := by
  have HB := hide hb
  have HR := hide (by rw [overL_zero]; exact h : w.heap[g]? = some (.cells ((overL bs 0).map u8 ++ rs).toArray 5 (0, 0)))
  clear h hb
  go_enter Try.func22, Try.ntmps22
  go_wp2
  go_loopw [2, 5] (fun t2 t5 wr => ∃ (k : Nat), k ≤ bs.length ∧ t5 = .int .i64 k ∧ Hid (wr.heap[g]? = some (.cells ((overL bs k).map u8 ++ rs).toArray 5 (0, 0))) ∧ Hid (Kept [g] w wr)) (fun _ i _ => bs.length - (intOf i).toNat)
  case atStart => exact ⟨0, Nat.zero_le _, rfl, HR, hide (Kept.refl _ _)⟩
  case round =>
    obtain ⟨k, hk, rfl, HR, HK⟩ := hrel
    by_cases hlt : k < bs.length
    · have hkl : (k : Int) < (bs.length : Int) := by omega
      have hbk := unhide HB _ (List.getElem_mem hlt)
      have cg : wr.cell? ⟨g, k, none⟩ = some (.int .u8 (bs[k] : Nat)) := by
        rw [cell_of_row _ _ _ _ _ _ (unhide HR)]
        rw [List.getElem?_toArray, List.getElem?_append_left (by simp [overL_len]; exact hlt)]
        simp [overL_get bs k k hlt, Go.Proofs.Ytbbjbpjpejekgaa.u8]
      have fg : wr.frozen? ⟨g, k, none⟩ = false := frozen_of_row _ _ _ _ _ (unhide HR)
      have HN := hide (by
        have h1 := heap_setCell_same wr g k _ 5 (Go.Proofs.Ytbbjbpjpejekgaa.u8 (overN k bs[k])) (unhide HR)
        rw [overR_succ bs rs k hlt] at h1
        exact h1 : (wr.setCell ⟨g, k, none⟩ (Go.Proofs.Ytbbjbpjpejekgaa.u8 (overN k bs[k]))).heap[g]? = some (.cells ((overL bs (k + 1)).map Go.Proofs.Ytbbjbpjpejekgaa.u8 ++ rs).toArray 5 (0, 0)))
      have HKN := hide ((unhide HK).setCell (p := ⟨g, k, none⟩) (by simp) (Go.Proofs.Ytbbjbpjpejekgaa.u8 (overN k bs[k])))
      have HU := hide (by simp [Go.Proofs.Ytbbjbpjpejekgaa.u8, overN] : Go.Proofs.Ytbbjbpjpejekgaa.u8 (overN k bs[k]) = .int .u8 (((bs[k] : Nat) * 3 + k + 85 : Int) % 256))
      rw [unhide HU] at HN HKN
      generalize bs[k] = c at *
      go_wp2
      go_roundw
      case rel => exact ⟨k + 1, by omega, by go_num, HN, HKN⟩
      case measure => simp [intOf]; omega
    · have hlt' : ¬ (k : Int) < (bs.length : Int) := by omega
      have hkn : k = bs.length := by omega
      subst hkn
      go_wp2
      go_end0
      exact ⟨rfl, unhide HK, unhide HR⟩

theorem Rd.cut {w : World} {ao : Option Addr} {len cap : Nat} {p : List Nat} (h : Rd w (.slice ao len cap) p) (n : Nat) (hn : n ≤ p.length) : Rd w (.slice ao n cap) (p.take n) := by
  obtain ⟨ao', len', cap', he, h1, h2, ⟨h3, h3'⟩, h4, h5, h6⟩ := h
  cases he
  refine ⟨_, _, _, rfl, by simp; omega, by omega, ⟨h3, by omega⟩, h4, fun x hx => h5 x (List.mem_of_mem_take hx), fun hp => ?_⟩
  obtain ⟨b, off, rfl, hc⟩ := h6 (by omega)
  refine ⟨b, off, rfl, fun i hi => ?_⟩
  rw [hc i (by omega)]
  simp [List.getD_eq_getElem?_getD, List.getElem?_take, hi]
/-- The marks behind a list. -/
def marks (k : Nat) : List Nat := (List.range k).map behindN
theorem marks_succ (k : Nat) : marks (k + 1) = marks k ++ [behindN k] := by simp [marks, List.range_succ]
theorem marks_len (k : Nat) : (marks k).length = k := by simp [marks]
theorem behind_lt (j : Nat) : behindN j < 256 := Nat.mod_lt _ (by decide)
theorem marks_byte (k : Nat) : ∀ x ∈ marks k, x < 256 := by intro x hx; simp [marks] at hx; obtain ⟨j, _, rfl⟩ := hx; exact behind_lt j

set_option maxRecDepth 100000 in
set_option maxHeartbeats 1000000 in
theorem spare_any (v : Value) (p : List Nat) (w : World) (h : Rd w v p) (hl : p.length ≤ 140737488351232) :
    Calls Try.prog 19 #[v] w fun e w' => ∃ g cap, e = .returned (.tuple #[.slice (some ⟨g, 0, none⟩) p.length cap, .slice (some ⟨g, 0, none⟩) (p.length + 40) cap]) ∧ w'.ownsRow w.heap.size 5 1 (.slice (some ⟨g, 0, none⟩) (p.length + 40) cap) (p.length + 40) ((p ++ marks 40).map u8) ∧ Kept [] w w' := by
  have HP := hide h
  obtain ⟨ao, len, cap, rfl, rfl, h2, ⟨h3, h3'⟩, h4, h5, h6⟩ := h
  clear h4 h5 h6
  obtain ⟨i0, hi, hz0, hz1, hz2⟩ := info_parts Try.info5
  have hmk : ∀ W : World, (Instr.makeSlice 22 (.int .i64 0) (.int .i64 ((p.length : Int) + 40))).run Try.prog W =
      .ok (.slice (some ⟨W.heap.size, 0, none⟩) 0 (p.length + 40)) (W.alloc (.cells (zeros (p.length + 40)).toArray 5)) := fun W => by
    have h := run_make (P := Try.prog) W 22 5 i0 (.int .u8 0) Try.underlying22 hi hz0 .i64 .i64 0 ((p.length : Int) + 40) (by omega) (by omega) (by rw [hz2]; omega) (by omega)
    have e : ((p.length : Int) + 40).toNat = p.length + 40 := by omega
    rw [e] at h
    simpa [hz1, Value.cells, madeZeros] using h
  clear hi hz0 hz1 hz2
  have HO := hide (World.ownsRow_made (base := w.heap.size) (e := 5) (size := 1) w (zeros (p.length + 40)).toArray (p.length + 40) (Nat.le_refl _) (by unfold maxLen; omega) (by simp [zeros]))
  have HP1 := hide ((unhide HP).old ((Kept.refl [] w).alloc (.cells (zeros (p.length + 40)).toArray 5)) (by simp))
  go_enter Try.func19, Try.ntmps19
  go_wp2_with (at_builtin; go_must (refine wpList_appendAll rfl (.tmp 10) (.tmp 11) rfl rfl _ w.heap.size (.slice (some ⟨w.heap.size, 0, none⟩) 0 (p.length + 40)) [] p ao p.length cap (by exact unhide HO) (by exact unhide HP1) (by simp; omega) (by simp) rfl rfl ?_; intro ao1 cap1 w1 HO1 HG1 HA1; simp only [List.nil_append, List.length_nil, Nat.zero_add] at HO1 HG1 HA1 ⊢; have HK1 := hide (((Kept.refl [] w).alloc _).grown (unhide HG1) (by intro k hk; right; simp [Value.ownBlock] at hk; omega)); clear HG1 HA1))
  go_loopw [4, 5] (fun t4 t5 wr => ∃ (k : Nat) (ao2 : Option Addr) (cap2 : Nat), k ≤ 40 ∧ t4 = .slice ao2 (p.length + k) cap2 ∧ t5 = .int .i64 k ∧ Hid (wr.ownsRow w.heap.size 5 1 (.slice ao2 (p.length + k) cap2) (p.length + k) ((p ++ marks k).map u8)) ∧ Hid (Kept [] w wr)) (fun _ t _ => 40 - (intOf t).toNat)
  case atStart => exact ⟨0, ao1, cap1, by omega, rfl, rfl, hide (by simpa [marks] using unhide HO1), HK1⟩
  case round =>
    obtain ⟨k, ao2, cap2, hk, rfl, rfl, HO2, HK⟩ := hrel
    by_cases hlt : k < 40
    · have hlt' : (k : Int) < 40 := by omega
      have hsz := (unhide HK).size
      have hpl : (p ++ marks k).length = p.length + k := by rw [List.length_append, marks_len]
      have HS := hide (by rw [marks_succ, ← List.append_assoc] : p ++ marks (k + 1) = (p ++ marks k) ++ [behindN k])
      have hzb := behind_lt k
      have HO' := hide (by rw [hpl]; exact unhide HO2 : wr.ownsRow w.heap.size 5 1 (.slice ao2 (p.length + k) cap2) (p ++ marks k).length ((p ++ marks k).map Go.Proofs.Ytbbjbpjpejekgaa.u8))
      have Hpl := hide hpl
      clear hpl
      go_wp2_with fail
      refine (behind_any k _ (by omega)).mono ?_
      rintro e w2 ⟨rfl, rfl⟩
      generalize behindN k = z at HS hzb
      have hrs : Rd (w2.alloc (.cells #[.int .u8 (z : Int)] 5)) (.slice (some ⟨w2.heap.size, 0, none⟩) 1 1) [z] := rd_lit (heap_alloc_new w2 _) rfl (by simp; omega) 1 rfl (by omega)
      have HRs := hide hrs
      clear hrs
      go_wp2_with (at_builtin; go_must (refine wpList_appendAll rfl (.tmp 17) (.tmp 20) rfl rfl _ w.heap.size (.slice ao2 (p.length + k) cap2) (p ++ marks k) [z] _ 1 1 (by exact (unhide HO').alloc _) (by exact unhide HRs) (by rw [unhide Hpl]; simp; omega) (by simp; omega) rfl rfl ?_; intro ao3 cap3 w3 HO3 HG3 HA3; rw [unhide Hpl] at HO3 HA3 ⊢; simp only [List.length_cons, List.length_nil, Nat.zero_add] at HO3 HG3 HA3))
      have hk3 := ((unhide HK).alloc (.cells #[.int .u8 (z : Int)] 5)).grown (unhide HG3) (by intro j hj; right; exact ((unhide HO2).lt j hj).1)
      have HK3 := hide hk3
      have HO4 := hide (by
        have h5 := unhide HO3
        have e : ((p ++ marks k) ++ [z]).length = p.length + (k + 1) := by rw [List.length_append, unhide Hpl]; rfl
        rw [e] at h5
        rw [unhide HS]
        exact h5 : w3.ownsRow w.heap.size 5 1 (.slice ao3 (p.length + (k + 1)) cap3) (p.length + (k + 1)) ((p ++ marks (k + 1)).map Go.Proofs.Ytbbjbpjpejekgaa.u8))
      clear hk3
      go_wp2
      go_roundw
      case rel => exact ⟨k + 1, ao3, cap3, by omega, by simp [Nat.add_assoc], by go_num, HO4, HK3⟩
      case measure => simp [intOf]; omega
    · have hlt' : ¬ (k : Int) < 40 := by omega
      have hk40 : k = 40 := by omega
      subst hk40
      rcases (unhide HO2).2 with ⟨hh, h00⟩ | ⟨gx, capx, curx, hh, _, _, hcx, _⟩
      · omega
      · cases hh
        have hcx' : (p.length : Int) ≤ (cap2 : Int) := by omega
        have hcx2 : (p.length : Int) ≤ (p.length : Int) + 40 := by omega
        go_wp2
        go_ret2
        exact ⟨gx, cap2, rfl, by simpa using unhide HO2, unhide HK⟩

set_option maxRecDepth 100000 in
set_option maxHeartbeats 1000000 in
theorem kept_any (u v : Value) (p : List Nat) (w : World) (h : Rd w u (p ++ marks 40)) (g : Rd w v p) (hl : p.length ≤ 140737488351232) :
    Calls Try.prog 21 #[u, v] w fun e w' => e = .returned (.bool true) ∧ ∃ n, w' = w.drewN n := by
  have H := hide h
  have G := hide g
  obtain ⟨ao, len, cap, rfl, he, h2, ⟨h3, h3'⟩, h4, h5, h6⟩ := h
  rw [List.length_append, marks_len] at he
  subst he
  obtain ⟨bo, len', cap', rfl, rfl, g2, ⟨g3, g3'⟩, g4, g5, g6⟩ := g
  clear h4 h5 h6 g4 g5 g6
  have hcap : (p.length : Int) ≤ (cap : Int) := by omega
  have HC := hide (by
    have h1 := (unhide H).cut p.length (by simp)
    rw [List.take_left] at h1; exact h1 : Rd w (.slice ao p.length cap) p)
  go_enter Try.func21, Try.ntmps21
  go_wp2_with fail
  refine (same_any _ _ p p w (unhide HC) (unhide G)).mono ?_
  rintro e w1 ⟨rfl, n1, rfl⟩
  rw [decide_eq_true (rfl : p = p)]
  go_wp2
  obtain ⟨ao', len2, cap2, he2, hl2, _, _, _, _, h6⟩ := unhide H
  cases he2
  obtain ⟨b, o, rfl, hcell⟩ := h6 (by omega)
  have HCell := hide hcell
  clear hcell h6
  go_loopw [5] (fun t5 wr => ∃ (k n : Nat), k ≤ 40 ∧ t5 = .int .i64 k ∧ wr = w.drewN n) (fun t _ => 40 - (intOf t).toNat)
  case atStart => exact ⟨0, n1, by omega, rfl, rfl⟩
  case round =>
    obtain ⟨k, n, hk, rfl, rfl⟩ := hrel
    by_cases hlt : k < 40
    · have hlt' : (k : Int) < 40 := by omega
      have ck := unhide HCell (p.length + k) (by omega)
      have hgd : (p ++ marks 40).getD (p.length + k) 0 = behindN k := by
        rw [List.getD_eq_getElem?_getD, List.getElem?_append_right (by omega), Nat.add_sub_cancel_left]; simp [marks, hlt]
      rw [hgd] at ck
      have hi1 : (p.length : Int) + k < (p.length : Int) + 40 := by omega
      have hi0 : (0 : Int) ≤ (p.length : Int) + k := by omega
      have HBA := hide (fun W => behind_any k W (by omega))
      clear hgd
      go_wp2_with fail
      go_quiet (first | (go_at_call 40; exact (unhide HBA _).mono (fun x w' hx => ⟨hx.1, _, hx.2⟩)))
      go_wp2
      go_roundw
      case rel => exact ⟨k + 1, _, by omega, by go_num, rfl⟩
      case measure => simp [intOf]; omega
    · have hlt' : ¬ (k : Int) < 40 := by omega
      go_wp2
      go_ret
      exact ⟨rfl, n, rfl⟩

/-- A row that is owned, as the cells of its block. -/
theorem owns_row {w : World} {base g n cap : Nat} {xs : List Value} (h : w.ownsRow base 5 1 (.slice (some ⟨g, 0, none⟩) n cap) n xs) (hn : 0 < n) : ∃ rs, w.heap[g]? = some (.cells (xs ++ rs).toArray 5 (0, 0)) ∧ n ≤ cap ∧ base ≤ g := by
  have hl := h.1
  rcases h.2 with ⟨hh, h0⟩ | ⟨g', cap', cur, hh, hb, hg, hc, hm, hs, ht⟩
  · cases hh
  · cases hh
    refine ⟨cur.toList.drop n, ?_, hc, hb⟩
    rw [hg, ← ht, Nat.mul_one, List.take_append_drop, Array.toArray_toList]
theorem owns_cap {w : World} {base g n cap : Nat} {xs : List Value} (h : w.ownsRow base 5 1 (.slice (some ⟨g, 0, none⟩) n cap) n xs) : cap ≤ 9223372036854775807 := by
  rcases h.2 with ⟨hh, h0⟩ | ⟨g', cap', cur, hh, hb, hg, hc, hm, hs, ht⟩
  · cases hh
  · cases hh; unfold maxLen at hm; omega
theorem rd_prefix {w : World} {g cap : Nat} {bs : List Nat} {rs : List Value} (h : w.heap[g]? = some (.cells (bs.map u8 ++ rs).toArray 5 (0, 0))) (hb : ∀ x ∈ bs, x < 256) (hc : bs.length ≤ cap) (hm : cap ≤ 9223372036854775807) (hl : bs.length ≤ 140737488355328) (n : Nat) (hn : bs.length = n) :
    Rd w (.slice (some ⟨g, 0, none⟩) n cap) bs := by
  subst hn
  refine ⟨_, _, _, rfl, rfl, hc, ⟨hm, hl⟩, by simp, hb, fun _ => ⟨g, 0, rfl, fun i hi => ?_⟩⟩
  rw [cell_of_row w g (0 + i) _ 5 (0, 0) h, List.getElem?_toArray, Nat.zero_add, List.getElem?_append_left (by simpa using hi)]
  simp [List.getD_eq_getElem?_getD, List.getElem?_eq_getElem hi]
theorem over_byte (bs : List Nat) (h : ∀ x ∈ bs, x < 256) (k : Nat) : ∀ x ∈ overL bs k, x < 256 := by
  intro x hx
  obtain ⟨i, hi, rfl⟩ := List.mem_iff_getElem.1 hx
  simp only [overL, List.getElem_mapIdx]
  split
  · exact Nat.mod_lt _ (by decide)
  · exact h _ (List.getElem_mem _)
end Go.Proofs.Ytbbjbpjpejekgaa
