import Derived.Test.YtbbjbpjpejekgaaDoorDForm
namespace Go.Proofs.YtbbjbpjpejekgaaDoor
open Go.RowKit Go.BigFrame
set_option linter.unusedVariables false
set_option linter.unusedSimpArgs false

theorem range_left (w : World) (g : Nat) (a b : List Value) (t : TypeId) (fr : Nat × Nat) (x : Value) (h : w.heap[g]? = some (.cells (x :: (a ++ b)).toArray t fr)) : w.rangeAt g 1 a ∧ w.rangeAt g (1 + a.length) b := by
  constructor
  · intro j v hv
    have hj := (List.getElem?_eq_some_iff.1 hv).1
    rw [cell_of_row w g (1 + j) _ t fr h, Nat.add_comm]
    simp [List.getElem?_append_left hj, hv]
  · intro j v hv
    rw [cell_of_row w g _ _ t fr h, show 1 + a.length + j = (a.length + j) + 1 by omega]
    rw [List.getElem?_toArray, List.getElem?_cons_succ, List.getElem?_append_right (by omega), Nat.add_sub_cancel_left, hv]
theorem fold_put (vs : List Value) : ∀ (A : Array Value) (k n : Nat), k + n + vs.length ≤ A.size → (vs.zipIdx n).foldl (fun cs x => cs.setIfInBounds (k + x.2) x.1) A = (A.toList.take (k + n) ++ (vs ++ A.toList.drop (k + n + vs.length))).toArray := by
  induction vs with
  | nil => intro A k n h; simp
  | cons v vs ih =>
    intro A k n h
    rw [List.zipIdx_cons, List.foldl_cons, ih _ k (n + 1) (by simp at h ⊢; omega)]
    have hA : k + n < A.toList.length := by simp at h ⊢; omega
    rw [Array.toList_setIfInBounds]
    rw [show k + (n + 1) = k + n + 1 by omega, List.take_succ_eq_append_getElem (by simpa using hA)]
    simp only [List.take_set_of_le (Nat.le_refl _), List.getElem_set_self, List.append_assoc, List.cons_append, List.nil_append, List.length_cons]
    rw [List.drop_set_of_lt (by omega)]
    rw [show k + n + 1 + vs.length = k + n + (vs.length + 1) by omega]
theorem fold_size (vs : List Value) : ∀ (A : Array Value) (n : Nat), ((vs.zipIdx n).foldl (fun cs x => cs.setIfInBounds x.2 x.1) A).size = A.size := by
  induction vs with
  | nil => intro A n; rfl
  | cons v vs ih => intro A n; rw [List.zipIdx_cons, List.foldl_cons, ih]; simp
theorem two_digs (l m : List Nat) (hl : l.length = 32) (hm : m.length = 32) : List.foldl (fun cs x => cs.setIfInBounds (32 + x.snd) x.fst) (List.foldl (fun cs x => cs.setIfInBounds x.snd x.fst) (zb 64) (List.map u8 l).zipIdx) (List.map u8 m).zipIdx = (l.map u8 ++ m.map u8).toArray := by
  have h1 := fold_put (l.map u8) (zb 64) 0 0 (by simp [hl, zb, brow])
  simp only [Nat.zero_add] at h1
  rw [h1, fold_put (m.map u8) _ 32 0 (by simp [hl, hm, zb, brow])]
  simp [hl, hm, zb, brow, List.take_append, List.drop_append]
theorem RdD.two {w : World} {g : Nat} {l m : List Nat} {t : TypeId} {fr : Nat × Nat} (h : w.heap[g]? = some (.cells (l.map u8 ++ m.map u8).toArray t fr)) (hl : l.length = 32) (hm : m.length = 32) (hlb : ∀ x ∈ l, x < 256) (hmb : ∀ x ∈ m, x < 256) : RdD w (.slice (some ⟨g, 0, none⟩) 2 2) [l, m] := by
  refine ⟨_, 2, 2, rfl, rfl, Nat.le_refl _, by omega, ?_, fun _ => ⟨g, 0, rfl, fun i hi => ?_⟩⟩
  · intro d hd
    simp only [List.mem_cons, List.not_mem_nil, or_false] at hd
    rcases hd with rfl | rfl
    · exact ⟨hl, hlb⟩
    · exact ⟨hm, hmb⟩
  · rcases (by omega : i = 0 ∨ i = 1) with rfl | rfl
    · intro j v hv
      have hv' : (l.map u8)[j]? = some v := hv
      have hj := (List.getElem?_eq_some_iff.1 hv').1
      rw [cell_of_row w g _ _ t fr h]
      simp only [Nat.zero_mul, Nat.zero_add]
      rw [List.getElem?_toArray, List.getElem?_append_left hj]
      exact hv'
    · intro j v hv
      rw [cell_of_row w g _ _ t fr h]
      simp only [Nat.one_mul, Nat.zero_add]
      rw [List.getElem?_toArray, List.getElem?_append_right (by simp [hl]), List.length_map, hl, Nat.add_sub_cancel_left]
      exact hv

/-- The cells of a Root. -/
def rootC (s : Nat) (l m : List Nat) : List Value := .int .u64 (s : Int) :: (l.map u8 ++ m.map u8)
def rootB (z : Int) (s : Nat) (l m : List Nat) : List Nat := 6 :: (wide s 8 ++ (l.take z.toNat ++ m.take z.toNat))
/-- The first k bytes of an array of 32 that lies in a block. -/
theorem rd_dig {w : World} {b o k : Nat} {l : List Nat} (h : w.rangeAt b o (l.map u8)) (hl : l.length = 32) (hb : ∀ x ∈ l, x < 256) (hk : k ≤ 32) : Rd w (.slice (some ⟨b, o, none⟩) k 32) (l.take k) := by
  refine ⟨_, _, _, rfl, by simp [hl]; omega, by omega, ⟨by omega, by omega⟩, fun h => by simp at h, take_byte hb, fun hp => ⟨b, o, rfl, fun i hi => ?_⟩⟩
  have hi' : i < l.length := by omega
  have hik : i < k := hi
  rw [h i (u8 (l.getD i 0)) (by rw [List.getElem?_map, List.getElem?_eq_getElem hi', List.getD_eq_getElem?_getD, List.getElem?_eq_getElem hi']; rfl)]
  rw [List.getD_eq_getElem?_getD, List.getD_eq_getElem?_getD, List.getElem?_take, if_pos hik]
theorem range_kept {L : List Nat} {w w' : World} {b o : Nat} {cs : List Value} (h : w.rangeAt b o cs) (k : Kept L w w') (hb : b ∉ L) : w'.rangeAt b o cs := fun j v hv => k.cell (h j v hv) hb

set_option maxRecDepth 100000 in
set_option maxHeartbeats 1000000 in
theorem rootInput_any (z : Int) (s : Nat) (l m : List Nat) (w : World) (hz : -9223372036854775808 ≤ z ∧ z ≤ 9223372036854775807) (hs : s < 18446744073709551616) (hl : l.length = 32) (hm : m.length = 32) (hlb : ∀ x ∈ l, x < 256) (hmb : ∀ x ∈ m, x < 256) :
    Calls Tryd.prog 24 #[.int .i64 z, .agg (rootC s l m).toArray] w fun e w' => ∃ v, e = .returned (.tuple #[v, .int .i64 (formedE z [l, m])]) ∧ NewB w w' v (if formedE z [l, m] = 0 then rootB z s l m else []) ∧ Kept [] w w' := by
  have HB := hide hlb
  have HB2 := hide hmb
  clear hlb hmb
  obtain ⟨f, hfe⟩ : ∃ f, formedE z [l, m] = f := ⟨_, rfl⟩
  rw [hfe]
  have HFE := hide hfe
  obtain ⟨B, hB⟩ : ∃ B, (if f = 0 then rootB z s l m else []) = B := ⟨_, rfl⟩
  rw [hB]
  have HBB := hide hB
  clear hfe hB
  go_enter Tryd.func24, Tryd.ntmps24
  have HR := hide (range_left (w.alloc (.cells (rootC s l m).toArray 32)) w.heap.size (l.map u8) (m.map u8) 32 (0, 0) _ (heap_alloc_new w (.cells (rootC s l m).toArray 32)))
  have HSL := hide (by rw [List.length_map, hl]; exact Tryd.size_dig : (Tryd.prog.info? 26).map (·.size) = some (l.map u8).length)
  have HSM := hide (by rw [List.length_map, hm]; exact Tryd.size_dig : (Tryd.prog.info? 26).map (·.size) = some (m.map u8).length)
  rw [List.length_map, hl] at HR
  have hfs : ∀ A : Array Value, (List.foldl (fun cs x => cs.setIfInBounds x.snd x.fst) A (List.map u8 l).zipIdx).size = A.size := fun A => fold_size _ A 0
  go_wp2_with (first
    | (refine wpList_load_mid rfl 26 _ rfl w.heap.size 1 rfl (l.map u8) _ (unhide HR).1 Tryd.underlying26 rfl (unhide HSL) ?_)
    | (refine wpList_load_mid rfl 26 _ rfl w.heap.size 33 rfl (m.map u8) _ (unhide HR).2 Tryd.underlying26 rfl (unhide HSM) ?_))
  rw [zb64, two_digs l m hl hm]
  clear hfs
  refine Calls.mono (formed_any z _ [l, m] _ hz (RdD.two (heap_alloc2_new _ _ _) hl hm (unhide HB) (unhide HB2))) ?_
  rintro e w1 ⟨rfl, k1⟩
  have HK1 := hide ((((Kept.refl [] w).alloc (.cells (rootC s l m).toArray 32)).alloc (.cells (l.map u8 ++ m.map u8).toArray 26)).trans k1 (by simp))
  have HG := hide (k1.heap ((Kept.refl [] (w.alloc (.cells (rootC s l m).toArray 32))).alloc (.cells (l.map u8 ++ m.map u8).toArray 26) |>.heap (heap_alloc_new w (.cells (rootC s l m).toArray 32)) (by simp)) (by simp))
  clear k1 HR
  have hc0 : w1.cell? ⟨w.heap.size, 0, none⟩ = some (.int .u64 (s : Int)) := by rw [cell_of_row _ _ _ _ _ _ (unhide HG)]; rfl
  have HR := hide (range_left w1 w.heap.size (l.map u8) (m.map u8) 32 (0, 0) _ (unhide HG))
  rw [List.length_map, hl] at HR
  by_cases hf : f = 0
  · have hwd : 1 ≤ z ∧ z ≤ 32 := by
      have h9 := unhide HFE
      unfold formedE at h9
      cases hw : widthB z with
      | false => rw [hw] at h9; simp at h9; omega
      | true => simpa [widthB] using hw
    obtain ⟨k, rfl⟩ : ∃ k : Nat, z = k := ⟨z.toNat, by omega⟩
    have hk : (k : Int) ≤ 32 := hwd.2
    subst hf
    have HW0 := hide (Wn.start (Kept.refl [] w1))
    rw [unhide HFE]
    go_wp2_with fail
    refine Calls.mono (wn_u8 6 (unhide HW0) (by decide) (by simp)) ?_
    rintro e w2 ⟨rfl, v2, h2⟩
    have HW2 := hide h2
    have hc2 := h2.kept.cell hc0 (by simp)
    clear h2 HW0
    go_wp2_with fail
    refine Calls.mono (wn_u64 s (unhide HW2) (by simp [wide_len])) ?_
    rintro e w3 ⟨rfl, v3, h3⟩
    have HW3 := hide h3
    have HR3 := hide (rd_dig (k := k) (range_kept (unhide HR).1 h3.kept (by simp)) hl (unhide HB) (by omega))
    clear h3 HW2 hc2
    go_wp2_with fail
    refine Calls.mono (wn_raw (unhide HW3) (unhide HR3) (by simp [wide_len, hl]; omega)) ?_
    rintro e w4 ⟨rfl, v4, h4⟩
    have HW4 := hide h4
    have HR4 := hide (rd_dig (k := k) (range_kept (unhide HR).2 h4.kept (by simp)) hm (unhide HB2) (by omega))
    clear h4 HW3 HR3
    go_wp2_with fail
    refine Calls.mono (wn_raw (unhide HW4) (unhide HR4) (by simp [wide_len, hl, hm]; omega)) ?_
    rintro e w5 ⟨rfl, v5, h5⟩
    have HW5 := hide h5
    clear h5 HW4 HR4
    go_wp2_with fail
    refine Calls.mono (wn_bytes (unhide HW5) (by simp [wide_len, hl, hm]; omega)) ?_
    rintro e w6 ⟨v6, rfl, h6, k6⟩
    have H6 := hide h6
    have HK6 := hide ((unhide HK1).trans k6 (by simp))
    clear h6 k6
    go_wp2
    go_ret2
    refine ⟨_, rfl, ?_, unhide HK6⟩
    have e9 : [] ++ wide 6 1 ++ wide s 8 ++ l.take k ++ m.take k = B := by
      rw [← unhide HBB, if_pos trivial]; simp [rootB, wide]
    rw [e9] at H6
    exact (unhide H6).weak (unhide HK1).size
  · have hf' : ((f : Int) != 0) = true := by rw [bne_iff_ne]; omega
    rw [if_neg hf] at HBB
    have HF := hide hf
    clear hf
    rw [unhide HFE]
    go_wp2
    go_ret2
    exact ⟨_, rfl, by rw [← unhide HBB]; exact NewB.nil _ _, unhide HK1⟩
end Go.Proofs.YtbbjbpjpejekgaaDoor
