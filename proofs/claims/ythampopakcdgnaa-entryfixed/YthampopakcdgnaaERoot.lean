import Derived.Test.YthampopakcdgnaaDCut
import Derived.Test.YthampopakcdgnaaWNew
import Derived.Test.YthampopakcdgnaaRBlob
import Derived.Deep.MidRow
namespace Go.Proofs.Ythampopakcdgnaa
open Go.RowKit Go.BigFrame
set_option linter.unusedVariables false
set_option linter.unusedSimpArgs false

theorem wpList_load_midG {P : Program} {ops : Array Oper} {rest : List Oper} {op : Oper} {a : Act} {w : World} {Q : Exit → Act → World → Prop} (hw : Region.wanted op (yielded ops a.tmps) = true) (ty : TypeId) (x : Operand) (ho : op.op = .load ty x)
    (b o : Nat) (hx : a.eval x = .pointer (some ⟨b, o, none⟩)) (cs : List Value) (d : TypeDesc) (hc : w.rangeAt b o cs)
    (hu : P.underlying ty = some d) (hd : d.isRow = true) (hi : (P.info? ty).map (·.size) = some cs.length)
    (h : wpList P ops Q rest (a.put op.dst (.agg cs.toArray)) w) : wpList P ops Q (op :: rest) a w :=
  wpList_want hw fun _ hK => wp_load_mid ty x ho b o hx cs d hc hu hd hi (hK _ _ h)
theorem range_left (w : World) (g : Nat) (a b : List Value) (t : TypeId) (fr : Nat × Nat) (x : Value) (h : w.heap[g]? = some (.cells (x :: (a ++ b)).toArray t fr)) : w.rangeAt g 1 a ∧ w.rangeAt g (1 + a.length) b := by
  constructor
  · intro j v hv
    have hj := (List.getElem?_eq_some_iff.1 hv).1
    rw [cell_of_row w g (1 + j) _ t fr h, Nat.add_comm]
    simp [List.getElem?_append_left hj, hv]
  · intro j v hv
    rw [cell_of_row w g _ _ t fr h, show 1 + a.length + j = (a.length + j) + 1 by omega]
    rw [List.getElem?_toArray, List.getElem?_cons_succ, List.getElem?_append_right (by omega), Nat.add_sub_cancel_left, hv]
/-- The cells of a Root. -/
def rootC (s : Nat) (l m : List Nat) : List Value := .int .u64 (s : Int) :: (l.map u8 ++ m.map u8)
/-- The first k bytes of an array of 32 that lies in a block. -/
theorem rd_dig {w : World} {b o k : Nat} {l : List Nat} (h : w.rangeAt b o (l.map u8)) (hl : l.length = 32) (hb : ∀ x ∈ l, x < 256) (hk : k ≤ 32) : Rd w (.slice (some ⟨b, o, none⟩) k 32) (l.take k) := by
  refine ⟨_, _, _, rfl, by simp [hl]; omega, by omega, ⟨by omega, by omega⟩, fun h => by simp at h, take_byte hb, fun hp => ⟨b, o, rfl, fun i hi => ?_⟩⟩
  have hi' : i < l.length := by omega
  have hik : i < k := hi
  rw [h i (u8 (l.getD i 0)) (by rw [List.getElem?_map, List.getElem?_eq_getElem hi', List.getD_eq_getElem?_getD, List.getElem?_eq_getElem hi']; rfl)]
  rw [List.getD_eq_getElem?_getD, List.getD_eq_getElem?_getD, List.getElem?_take, if_pos hik]
theorem range_kept {L : List Nat} {w w' : World} {b o : Nat} {cs : List Value} (h : w.rangeAt b o cs) (k : Kept L w w') (hb : b ∉ L) : w'.rangeAt b o cs := fun j v hv => k.cell (h j v hv) hb
def rootE (z : Int) (l m : List Nat) : Nat := if widthB z = false then 1 else if formB z l = false then 3 else if formB z m = false then 3 else 0
def rootW (k : Nat) (s : Nat) (l m : List Nat) : List Nat := wide s 8 ++ (l.take k ++ m.take k)

set_option maxRecDepth 100000 in
set_option maxHeartbeats 1000000 in
theorem ewidth_any (z : Int) (w : World) (hz : -9223372036854775808 ≤ z ∧ z ≤ 9223372036854775807) :
    Calls Try.prog 28 #[.int .i64 z] w fun e w' => e = .returned (.bool (widthB z)) ∧ w' = w := by
  by_cases h1 : 1 ≤ z
  · by_cases h2 : z ≤ 32
    · have hw : widthB z = true := by simp [widthB, h1, h2]
      rw [hw]
      clear hw
      go_enter Try.func28, Try.ntmps28
      go_wp2
      go_ret
      exact ⟨rfl, rfl⟩
    · have hw : widthB z = false := by simp [widthB, h2]
      rw [hw]
      clear hw
      go_enter Try.func28, Try.ntmps28
      go_wp2
      go_ret
      exact ⟨rfl, rfl⟩
  · have hw : widthB z = false := by simp [widthB, h1]
    rw [hw]
    clear hw
    go_enter Try.func28, Try.ntmps28
    go_wp2
    go_ret
    exact ⟨rfl, rfl⟩


set_option maxRecDepth 100000 in
set_option maxHeartbeats 1000000 in
theorem encodeRoot_any (z : Int) (s : Nat) (l m : List Nat) (w : World) (hz : -9223372036854775808 ≤ z ∧ z ≤ 9223372036854775807) (hs : s < 18446744073709551616) (hl : l.length = 32) (hm : m.length = 32) (hlb : ∀ x ∈ l, x < 256) (hmb : ∀ x ∈ m, x < 256) :
    Calls Try.prog 9 #[.int .i64 z, .agg (rootC s l m).toArray] w fun e w' => ∃ v, e = .returned (.tuple #[v, .int .i64 (rootE z l m)]) ∧ NewB w w' v (if rootE z l m = 0 then rootW z.toNat s l m else []) ∧ Kept [] w w' := by
  have HB := hide hlb
  have HB2 := hide hmb
  clear hlb hmb
  obtain ⟨f, hfe⟩ : ∃ f, rootE z l m = f := ⟨_, rfl⟩
  rw [hfe]
  have HFE := hide hfe
  obtain ⟨B, hB⟩ : ∃ B, (if f = 0 then rootW z.toNat s l m else []) = B := ⟨_, rfl⟩
  rw [hB]
  have HBB := hide hB
  clear hfe hB
  have HA := hide (heap_alloc_new w (.cells (rootC s l m).toArray 43))
  have HKA := hide ((Kept.refl [] w).alloc (.cells (rootC s l m).toArray 43))
  have HSL := hide (by rw [List.length_map, hl]; exact Try.size_dig : (Try.prog.info? 41).map (·.size) = some (l.map u8).length)
  have HSM := hide (by rw [List.length_map, hm]; exact Try.size_dig : (Try.prog.info? 41).map (·.size) = some (m.map u8).length)
  go_enter Try.func9, Try.ntmps9
  go_wp2_with fail
  obtain ⟨W, hW⟩ : ∃ W, w.alloc (.cells (rootC s l m).toArray 43) = W := ⟨_, rfl⟩
  rw [hW] at HA HKA ⊢
  clear hW
  refine Calls.mono (ewidth_any z _ hz) ?_
  rintro e w1 ⟨rfl, rfl⟩
  by_cases hw : widthB z = false
  · rw [hw]
    have HE := hide (by have h9 := unhide HFE; unfold rootE at h9; rw [if_pos hw] at h9; exact h9.symm : f = 1)
    clear hw
    go_wp2
    go_ret2
    exact ⟨_, by rw [unhide HE]; rfl, by rw [← unhide HBB, unhide HE, if_neg (by decide)]; exact NewB.nil _ _, unhide HKA⟩
  have HF1 := hide (by have h9 := unhide HFE; unfold rootE at h9; rw [if_neg hw] at h9; exact h9)
  replace hw : widthB z = true := by simpa using hw
  rw [hw]
  have hwd : 1 ≤ z ∧ z ≤ 32 := by simpa [widthB] using hw
  clear hw HFE
  have HR := hide (range_left w1 w.heap.size (l.map u8) (m.map u8) 43 (0, 0) _ (unhide HA))
  rw [List.length_map, hl] at HR
  go_wp2_with (first
    | (refine wpList_load_mid rfl 41 _ rfl w.heap.size 1 rfl (l.map u8) _ (unhide HR).1 Try.underlying41 rfl (unhide HSL) ?_))
  refine Calls.mono (form_any z l w1 hz hl (unhide HB)) ?_
  rintro e w2 ⟨rfl, k2⟩
  have HK2 := hide ((unhide HKA).trans k2 (by simp))
  have HA2 := hide (k2.heap (unhide HA) (by simp))
  have HR2 := hide (range_left w2 w.heap.size (l.map u8) (m.map u8) 43 (0, 0) _ (unhide HA2))
  rw [List.length_map, hl] at HR2
  clear k2 HR HA HKA
  by_cases hf1 : formB z l = false
  · rw [hf1]
    have HE := hide (by have h9 := unhide HF1; rw [if_pos hf1] at h9; exact h9.symm : f = 3)
    clear hf1
    go_wp2
    go_ret2
    exact ⟨_, by rw [unhide HE]; rfl, by rw [← unhide HBB, unhide HE, if_neg (by decide)]; exact NewB.nil _ _, unhide HK2⟩
  have HF2 := hide (by have h9 := unhide HF1; rw [if_neg hf1] at h9; exact h9)
  replace hf1 : formB z l = true := by simpa using hf1
  rw [hf1]
  clear hf1 HF1
  go_wp2_with (first
    | (refine wpList_load_midG rfl 41 _ rfl w.heap.size 33 rfl (m.map u8) _ (unhide HR2).2 Try.underlying41 rfl (unhide HSM) ?_))
  refine Calls.mono (form_any z m w2 hz hm (unhide HB2)) ?_
  rintro e w3 ⟨rfl, k3⟩
  have HK3 := hide ((unhide HK2).trans k3 (by simp))
  have HA3 := hide (k3.heap (unhide HA2) (by simp))
  have HR3 := hide (range_left w3 w.heap.size (l.map u8) (m.map u8) 43 (0, 0) _ (unhide HA3))
  rw [List.length_map, hl] at HR3
  clear k3 HR2 HA2 HK2
  by_cases hf2 : formB z m = false
  · rw [hf2]
    have HE := hide (by have h9 := unhide HF2; rw [if_pos hf2] at h9; exact h9.symm : f = 3)
    clear hf2
    go_wp2
    go_ret2
    exact ⟨_, by rw [unhide HE]; rfl, by rw [← unhide HBB, unhide HE, if_neg (by decide)]; exact NewB.nil _ _, unhide HK3⟩
  have HE := hide (by have h9 := unhide HF2; rw [if_neg hf2] at h9; exact h9.symm : f = 0)
  replace hf2 : formB z m = true := by simpa using hf2
  rw [hf2]
  clear hf2 HF2
  obtain ⟨k, rfl⟩ : ∃ k : Nat, z = k := ⟨z.toNat, by omega⟩
  have hk : (k : Int) ≤ 32 := hwd.2
  have hc0 : w3.cell? ⟨w.heap.size, 0, none⟩ = some (.int .u64 (s : Int)) := by rw [cell_of_row _ _ _ _ _ _ (unhide HA3)]; rfl
  have HW0 := hide (Wn.start (Kept.refl [] w3))
  have hcA := ((Kept.refl [] w3).alloc (.cells #[.slice none 0 0] 53)).cell hc0 (by simp)
  go_wp2_with fail
  refine Calls.mono (wn_u64 s (unhide HW0) (by simp)) ?_
  rintro e w4 ⟨rfl, v4, h4⟩
  have HW4 := hide h4
  have HR4 := hide (rd_dig (k := k) (range_kept (unhide HR3).1 h4.kept (by simp)) hl (unhide HB) (by omega))
  clear h4 HW0
  go_wp2_with fail
  refine Calls.mono (wn_raw (unhide HW4) (unhide HR4) (by simp [wide_len, hl]; omega)) ?_
  rintro e w5 ⟨rfl, v5, h5⟩
  have HW5 := hide h5
  have HR5 := hide (rd_dig (k := k) (range_kept (unhide HR3).2 h5.kept (by simp)) hm (unhide HB2) (by omega))
  clear h5 HW4 HR4
  go_wp2_with fail
  refine Calls.mono (wn_raw (unhide HW5) (unhide HR5) (by simp [wide_len, hl, hm]; omega)) ?_
  rintro e w6 ⟨rfl, v6, h6⟩
  have HW6 := hide h6
  clear h6 HW5 HR5
  go_wp2_with fail
  refine Calls.mono (wn_bytes (unhide HW6) (by simp [wide_len, hl, hm]; omega)) ?_
  rintro e w7 ⟨v7, rfl, h7, k7⟩
  have HN := hide h7
  have HK7 := hide ((unhide HK3).trans k7 (by simp))
  obtain ⟨a7, m7, c7, hu7, _⟩ := id h7.1
  subst hu7
  clear h7 k7
  go_wp2
  go_ret2
  refine ⟨_, by rw [unhide HE]; rfl, ?_, unhide HK7⟩
  have e9 : [] ++ wide s 8 ++ l.take k ++ m.take k = B := by
    rw [← unhide HBB, unhide HE, if_pos rfl]; simp [rootW]
  rw [e9] at HN
  exact (unhide HN).weak (unhide HK3).size
end Go.Proofs.Ythampopakcdgnaa
