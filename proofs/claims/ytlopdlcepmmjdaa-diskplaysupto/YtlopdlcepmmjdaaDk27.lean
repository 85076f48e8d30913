import Derived.Test.YtlopdlcepmmjdaaDk25
import Derived.Test.YtlopdlcepmmjdaaDk26
import Derived.Test.YtlopdlcepmmjdaaDkE
import Derived.Maps.AppendAt
import Derived.Sort.OwnSorted
import Derived.Sort.KeysCollected
namespace Go.Proofs.Ytlopdlcepmmjdaa
open Go.RowKit Go.BigFrame Go.Maps Go.Sort
set_option linter.unusedVariables false
set_option linter.unusedSimpArgs false

/-- The names, in the order of their bytes. -/
def srtN (A : List DF) : List (List UInt8) := (A.map fun f => f.nm.data.toList).mergeSort fun x y => decide (x ≤ y)
theorem nodup_names {A : List DF} (h : Dist A) : (A.map fun f => f.nm.data.toList).Nodup := by
  unfold List.Nodup
  rw [List.pairwise_map]
  exact List.Pairwise.imp (fun hab e => hab (ba_ext e)) h
theorem mem_names (fs : List DFile) (x : List UInt8) : (look fs x).isSome = true ↔ x ∈ (fs.map absF).map fun f => f.nm.data.toList := by
  rw [look_isSome]
  unfold findA
  rw [List.find?_isSome, List.mem_map]
  constructor
  · rintro ⟨a, ha, h⟩
    exact ⟨a, ha, by simpa using h⟩
  · rintro ⟨a, ha, h⟩
    exact ⟨a, ha, by simpa using h⟩
theorem sorted_eq {fs : List DFile} {D : DataW Unit} {left : Lit → Bool} {ss : List (List UInt8)} (hD : MapIs D (look fs)) (hd : Dist (fs.map absF)) (hC : Collected D left ss) (hl : ∀ kl, left kl = false) : ss.mergeSort (fun x y => decide (x ≤ y)) = srtN (fs.map absF) := by
  have hp : ss.Perm ((fs.map absF).map fun f => f.nm.data.toList) := by
    rw [List.perm_ext_iff_of_nodup hC.1 (nodup_names hd)]
    intro x
    rw [hC.2 x, hl, (hD x).1, mem_names]
    simp
  exact mergeSort_of_perm hp

set_option maxRecDepth 100000 in
set_option maxHeartbeats 2000000 in
theorem sorted_any (d sec m N : Nat) (w : World) (u fv : Value) (cr op : Int) (off : Bool) (ft : Int → Option Int) (fs : List DFile) (h : DkAt w d sec m N u fv cr op off ft fs) (hd : Dist (fs.map absF)) (hN : N ≤ 1000000000) :
    Calls Try.prog 62 #[.pointer (some ⟨d, 0, none⟩)] w fun e w' => ∃ v, e = .returned v ∧ w'.ownsRow w.heap.size 9 1 v (srtN (fs.map absF)).length ((srtN (fs.map absF)).map encStr) ∧ Kept [] w w' := by
  obtain ⟨n, D, hown, hn, hD⟩ := h.map
  have HO := hide hown
  have HD := hide hD
  have HDI := hide hd
  have hrow := h.row
  unfold DRow at hrow
  have c1 := cell_of_row _ _ 1 _ _ _ hrow
  simp at c1
  have HSZ := hide (Nat.le_trans hown.size_le hn)
  clear hown hD hrow hd h
  obtain ⟨i0, hi, hz0, hz1, hz2⟩ := info_parts (show (Try.prog.info? 9).map (fun i => (i.zero, i.size, i.bytes)) = some (some (.string ⟨#[]⟩), 1, 16) by kernel_rfl)
  have HI := hide hi
  have HZ0 := hide hz0
  have HZ1 := hide hz1
  have HZ2 := hide hz2
  clear hi hz0 hz1 hz2
  go_enter Try.func62, Try.ntmps62
  go_wp2_with (at_range; refine wpList_range_own _ rfl _ 77 rfl 9 83 keyS Try.underlying77 ptrElem m n D rfl (unhide HO) ?_; intro w0 hrg0 hg0 hs0)
  go_frame
  go_loopw [3] (fun v wr => ∃ (left : Lit → Bool) (cnt : Nat) (ss : List (List UInt8)), Hid (wr.ranges Try.prog 9 ptrElem m w.heap.size n D left cnt) ∧ ss.length + cnt ≤ Maps.size D ∧ Hid (wr.ownsRow w.heap.size 9 1 v ss.length (ss.map encStr)) ∧ Hid (Collected D left ss) ∧ Hid (Kept [] w wr)) (fun _ wr => wr.rangeLeft m w.heap.size)
  case atStart => exact ⟨_, _, [], hide hrg0, by simp, hide (World.ownsRow_nil _ _ _ _), hide (Collected.start D), hide ((Kept.refl [] w).grown hg0 (by intro k hk; cases hk))⟩
  case round =>
    clear hrg0 hg0 hs0
    obtain ⟨left, cnt, ss, HRG, hcs, HOW, HC, HK⟩ := hrel
    go_wp2_with (at_next; refine wpList_next_ranges _ rfl _ rfl 9 keyS ptrElem encStr ptrO (fun key kl hk => by obtain ⟨x, rfl, _⟩ := keyStr_inv hk; exact ⟨x.data.toList, rfl⟩) (fun v y hv => by rcases ptrElem_inv hv with ⟨rfl, _⟩ | ⟨g, rfl, _⟩; exact ⟨none, rfl⟩; exact ⟨some g, rfl⟩) m w.heap.size n D left cnt rfl (unhide HRG) ?_ ?_)
    · intro hc0 hl0
      have HSE := hide (sorted_eq (unhide HD) (unhide HDI) (unhide HC) hl0)
      rcases (unhide HOW).2 with ⟨rfl, hln⟩ | ⟨g, cap, cur, rfl, hbase, hb, h1, h2, h3, h4⟩
      · have hss : ss = [] := List.eq_nil_of_length_eq_zero hln
        subst hss
        clear hl0 hc0 c1
        go_wp2_with fail
        refine Calls.mono (sort_nil _) ?_
        rintro e w1 ⟨rfl, rfl⟩
        go_wp2_with fail
        go_ret
        rw [← unhide HSE, show ([] : List (List UInt8)).mergeSort (fun x y => decide (x ≤ y)) = [] by simp]
        exact ⟨_, rfl, World.ownsRow_nil _ _ _ _, unhide HK⟩
      · have hH : Holds encStr wr g 0 ss.toArray := holds_of_block hb (by simpa using h4)
        have hgl : g < wr.heap.size := (Array.getElem?_eq_some_iff.1 hb).1
        have hsort := Try.slices_Sort_string g 0 cap ss wr hH hgl (by have := unhide HSZ; omega)
        have HB := hide hb
        have HS := hide hsort
        clear hl0 hc0 c1 hb hH hsort h4
        go_wp2_with fail
        refine Calls.mono (unhide HS) ?_
        rintro e w' ⟨rfl, nn, os, rfl⟩
        go_wp2_with fail
        go_ret
        rw [← unhide HSE]
        refine ⟨_, rfl, ?_, (unhide HK).grown (grownBy_sorted _) (by intro k hk; injection hk with hk; subst hk; exact .inr hbase)⟩
        rw [List.length_mergeSort]
        exact ownsRow_sorted (by simp) hbase (unhide HB) h1 h2 h3
    · intro x c kl yd yp w2 cnt2 hkey hlk hv hat hrg2 hlt hg2 hs2 hen
      obtain ⟨x', ex, rfl⟩ := keyStr_inv hkey
      obtain rfl : x = x'.data.toList := by
        have : encStr x = Value.string ⟨⟨x⟩⟩ := rfl
        rw [this] at ex
        injection ex with ex
        rw [← ex]
      have hrow2 := (unhide HOW).kept hg2 (Or.inr (row_ne_iter (unhide HOW) (unhide HRG)).symm)
      have HRG2 := hide hrg2
      have HR2 := hide hrow2
      have HK2 := hide ((unhide HK).grown hg2 (by intro k hk; injection hk with hk; subst hk; exact .inr (Nat.le_refl _)))
      have HCS := hide ((unhide HC).step hlk hat)
      have HLT := hide hlt
      clear hrow2 hrg2 hg2 hs2 hlk hat hkey hv hlt ex
      go_wp2_with (at_builtin; refine wpList_append_own_at _ rfl _ _ 74 rfl w.heap.size 9 i0 (.string ⟨#[]⟩) 1 16 Try.underlying74 (unhide HI) (unhide HZ0) (unhide HZ1) (unhide HZ2) rfl (by decide) _ _ _ rfl ((unhide HR2).alloc _) ⟨w2.heap.size, 0, none⟩ 1 1 [encStr x'.data.toList] rfl rfl (cell_one_new _ _ _) (by simp [Value.oneCell', encStr]) (by have := unhide HSZ; unfold maxLen; omega) (by have := unhide HSZ; omega) (by have := (unhide HK2).size; simp; omega) ?_; intro v' w3 hown' hg3 hnil3 hat3; have HOW3 := hide hown'; have HG3 := hide hg3; clear hown' hg3 hnil3 hat3)
      have hrg3 := ranges_heap ((unhide HRG2).alloc _) ((unhide HG3).block m (by have := (unhide HRG2).owns.lt; simp; omega) (row_ne_low (unhide HR2) (unhide HO).lt)) ((unhide HG3).block w.heap.size (by have := (unhide HRG2).lt; simp; omega) (row_ne_iter (unhide HR2) (unhide HRG2)))
      have hk3 := ((unhide HK2).alloc (.cells #[encStr x'.data.toList] 9 (0, 0))).grown (unhide HG3) (by intro k hk; exact .inr ((unhide HR2).lt k hk).1)
      refine ⟨⟨_, cnt2, ss ++ [x'.data.toList], hide hrg3, by have := unhide HLT; simp; omega, hide (by simpa using unhide HOW3), HCS, hide hk3⟩, ?_⟩
      rw [hrg3.left_eq, (unhide HRG).left_eq]
      exact unhide HLT
end Go.Proofs.Ytlopdlcepmmjdaa
