import Derived.Test.YtjafmnemobcipaaDoorNFn
namespace Go.Proofs.YtjafmnemobcipaaDoor
open Go.RowKit Go.BigFrame
set_option linter.unusedVariables false
set_option linter.unusedSimpArgs false

/-- The digit number i of a digest. -/
def dgt (d : List Nat) (i : Nat) : Nat := if i % 2 = 0 then d.getD (i / 2) 0 / 16 else d.getD (i / 2) 0 % 16
theorem dgt_lt {d : List Nat} (hb : ∀ x ∈ d, x < 256) (i : Nat) : dgt d i < 16 := by
  have h : d.getD (i / 2) 0 < 256 := by
    rw [List.getD_eq_getElem?_getD]
    rcases Nat.lt_or_ge (i / 2) d.length with hi | hi
    · rw [List.getElem?_eq_getElem hi]; exact hb _ (List.getElem_mem hi)
    · rw [List.getElem?_eq_none hi]; decide
  unfold dgt
  split <;> omega
theorem and15 {x : Nat} (hx : x < 256) : bits .and .u8 (x : Int) 15 = ((x % 16 : Nat) : Int) := by
  have h := u8_and_nat x 15 hx (by decide)
  rw [show ((15 : Nat) : Int) = 15 by rfl] at h
  rw [h, show (15 : Nat) = 2 ^ 4 - 1 by rfl, Nat.and_two_pow_sub_one_eq_mod]

set_option maxRecDepth 100000 in
set_option maxHeartbeats 1000000 in
theorem digit_any (d : List Nat) (i : Nat) (w : World) (hd : d.length = 32) (hb : ∀ x ∈ d, x < 256) (hi : i < 64) :
    Calls Tryd.prog 74 #[.agg (brow d), .int .i64 i] w fun e w' => e = .returned (.int .i64 (dgt d i : Int)) ∧ Kept [] w w' := by
  have hx : d.getD (i / 2) 0 < 256 := by rw [List.getD_eq_getElem?_getD, List.getElem?_eq_getElem (by omega)]; exact hb _ (List.getElem_mem _)
  have HA := hide (heap_alloc_new w (.cells (brow d) 29))
  have ci := brow_cell (unhide HA) (i / 2) (by omega)
  have HK := hide ((Kept.refl [] w).alloc (.cells (brow d) 29))
  clear hb
  obtain ⟨x, he⟩ : ∃ x, d.getD (i / 2) 0 = x := ⟨_, rfl⟩
  obtain ⟨j, hj⟩ : ∃ j, i / 2 = j := ⟨_, rfl⟩
  rw [he] at hx ci
  have a1 := and15 hx
  have hj2 : (i : Int).tdiv 2 = j := by rw [Int.tdiv_eq_ediv_of_nonneg (by omega)]; omega
  have hj3 : (i : Int) / 2 = j := by omega
  have hj4 : (j : Int) < 32 := by omega
  rw [hj] at ci
  by_cases hp : i % 2 = 0
  · have hp2 : (i : Int) % 2 = 0 := by omega
    have hp3 : (i : Int).tmod 2 = 0 := by rw [Int.tmod_eq_emod_of_nonneg (by omega)]; omega
    have HR := hide (by unfold dgt; rw [if_pos hp, he] : dgt d i = x / 16)
    go_enter Tryd.func74, Tryd.ntmps74
    go_wp2
    go_ret
    exact ⟨by rw [unhide HR]; rfl, unhide HK⟩
  · have hp2 : (i : Int) % 2 = 1 := by omega
    have hp3 : (i : Int).tmod 2 = 1 := by rw [Int.tmod_eq_emod_of_nonneg (by omega)]; omega
    have HR := hide (by unfold dgt; rw [if_neg hp, he] : dgt d i = x % 16)
    go_enter Tryd.func74, Tryd.ntmps74
    go_wp2
    go_ret
    exact ⟨by rw [unhide HR]; rfl, unhide HK⟩

theorem formB_iff {k : Nat} {d : List Nat} (hd : d.length = 32) (h1 : 1 ≤ k) (hk : k ≤ 32) : formB (k : Int) d = true ↔ ∀ i, k ≤ i → i < 32 → d.getD i 0 = 0 := by
  rw [← cutL_iff k d hd hk]
  unfold formB
  have hw : widthB (k : Int) = true := by simp [widthB]; omega
  rw [hw, Int.toNat_natCast]
  simp

set_option maxRecDepth 100000 in
set_option maxHeartbeats 2000000 in
theorem nformed_any (z : Int) (v : Value) (ds : List (List Nat)) (w : World) (hz : -9223372036854775808 ≤ z ∧ z ≤ 9223372036854775807) (hv : RdD w v ds) :
    Calls Tryd.prog 73 #[.int .i64 z, v] w fun e w' => e = .returned (.int .i64 (formedE z ds)) ∧ Kept [] w w' := by
  have HV := hide hv
  obtain ⟨ao, len, cap, rfl, h1, h2, h3, h4, h5⟩ := hv
  have H4 := hide h4
  have H5 := hide h5
  clear h4 h5
  subst h1
  by_cases hw1 : z < 1
  · have HE1 := hide (by unfold formedE widthB; rw [if_pos (by simp; omega)] : formedE z ds = 1)
    go_enter Tryd.func73, Tryd.ntmps73
    go_wp2
    go_ret
    exact ⟨by rw [unhide HE1]; rfl, Kept.refl _ _⟩
  · by_cases hw2 : 32 < z
    · have HE1 := hide (by unfold formedE widthB; rw [if_pos (by simp; omega)] : formedE z ds = 1)
      go_enter Tryd.func73, Tryd.ntmps73
      go_wp2
      go_ret
      exact ⟨by rw [unhide HE1]; rfl, Kept.refl _ _⟩
    · obtain ⟨k, rfl⟩ : ∃ k : Nat, z = k := ⟨z.toNat, by omega⟩
      have HW := hide (by simp [widthB]; omega : widthB (k : Int) = true)
      go_enter Tryd.func73, Tryd.ntmps73
      go_wp2_with fail
      go_loopw [17] (fun t12 wr => ∃ (i : Nat), i ≤ ds.length ∧ t12 = .int .i64 i ∧ Hid ((ds.take i).all (formB (k : Int)) = true) ∧ Hid (Kept [] w wr)) (fun t _ => ds.length - (intOf t).toNat)
      case atStart => exact ⟨0, Nat.zero_le _, rfl, hide (by simp), hide (Kept.refl _ _)⟩
      case round =>
        obtain ⟨i, hi, rfl, HA, HK⟩ := hrel
        by_cases hlt : i < ds.length
        · have hlt' : (i : Int) < ds.length := by omega
          obtain ⟨b, o, rfl, hcell⟩ := unhide H5 (by omega)
          have HD := hide (unhide H4 (ds.getD i []) (by rw [List.getD_eq_getElem?_getD, List.getElem?_eq_getElem hlt]; exact List.getElem_mem hlt))
          have HRG := hide (fun j v hv => (unhide HK).cell (hcell i hlt j v hv) (by simp) : wr.rangeAt b (o + i * 32) ((ds.getD i []).map Go.Proofs.YtjafmnemobcipaaDoor.u8))
          have HN := hide (by rw [List.take_succ_eq_append_getElem hlt, List.all_append, unhide HA, List.getD_eq_getElem?_getD, List.getElem?_eq_getElem hlt]; simp : (ds.take (i + 1)).all (formB (k : Int)) = formB (k : Int) (ds.getD i []))
          have HM := hide (fun (h : formB (k : Int) (ds.getD i []) = false) => by
            have : ds.all (formB (k : Int)) = false := by
              rw [List.all_eq_false]
              exact ⟨ds.getD i [], by rw [List.getD_eq_getElem?_getD, List.getElem?_eq_getElem hlt]; exact List.getElem_mem hlt, by rw [h]; decide⟩
            simp [formedE, unhide HW, this] : formB (k : Int) (ds.getD i []) = false → formedE (k : Int) ds = 3)
          clear hcell
          obtain ⟨d, hd⟩ : ∃ d, ds.getD i [] = d := ⟨_, rfl⟩
          rw [hd] at HD HRG HN HM
          clear hd
          have hdl := (unhide HD).1
          have HFI := hide (formB_iff (k := k) hdl (by omega) (by omega))
          have HSZ := hide (by rw [brow_size, hdl]; exact Tryd.size_dig : (Tryd.prog.info? 29).map (·.size) = some (brow d).size)
          have HNW := hide (setRow_heap (wr.alloc (.cells (zb 32) 29)) wr.heap.size (zb 32) (brow d) 29 (0, 0) (heap_alloc_new _ _))
          have HKN := hide (((unhide HK).alloc (.cells (zb 32) 29)).setRow (g := wr.heap.size) (Or.inr (unhide HK).size) (brow d))
          rcases Nat.lt_or_ge k 32 with hk32 | hk32
          · have hk32' : (k : Int) < 32 := by omega
            go_wp2_with (first
              | (refine wpList_load_mid rfl 29 (.tmp 19) rfl b (o + i * 32) rfl (d.map Go.Proofs.YtjafmnemobcipaaDoor.u8) _ (unhide HRG) Tryd.underlying29 rfl (by rw [List.length_map, hdl]; exact Tryd.size_dig) ?_)
              | (rw [zb32]; refine wpList_store_row rfl 29 (.tmp 6) _ rfl wr.heap.size (brow d) rfl rfl _ (zb 32) (heap_alloc_new _ _) (unhide HSZ) (by rw [zb_size, brow_size, hdl]) (brow_one _) ?_))
            generalize ((wr.alloc (Obj.cells (zb 32) 29)).setRow wr.heap.size (brow d)) = W2 at HNW HKN ⊢
            obtain ⟨gq, hgq⟩ : ∃ gq, wr.heap.size = gq := ⟨_, rfl⟩
            rw [hgq] at HNW ⊢
            clear hgq
            go_loopw [24] (fun t24 wq => ∃ (j : Nat), j ≤ 32 - k ∧ t24 = .int .i64 j ∧ Hid (∀ m, k ≤ m → m < k + j → d.getD m 0 = 0) ∧ Hid (Kept [] W2 wq)) (fun t _ => 32 - k - (intOf t).toNat)
            case atStart => exact ⟨0, Nat.zero_le _, rfl, hide (fun m q1 q2 => by omega), hide (Kept.refl _ _)⟩
            case round =>
              obtain ⟨j, hj, rfl, HAJ, HKJ⟩ := hrel
              by_cases hjl : j < 32 - k
              · have hjl' : (j : Int) < (32 - k : Nat) := by omega
                have cj := (unhide HKJ).cell (brow_cell (unhide HNW) (k + j) (by omega)) (by simp)
                obtain ⟨x, hx⟩ : ∃ x, d.getD (k + j) 0 = x := ⟨_, rfl⟩
                rw [hx] at cj
                by_cases hx0 : x = 0
                · subst hx0
                  have HNJ := hide (fun m q1 q2 => by
                    rcases Nat.lt_or_ge m (k + j) with g | g
                    · exact unhide HAJ m q1 g
                    · rw [show m = k + j by omega]; exact hx : ∀ m, k ≤ m → m < k + (j + 1) → d.getD m 0 = 0)
                  clear hx
                  go_wp2
                  go_roundw
                  case rel => exact ⟨j + 1, by omega, by go_num, HNJ, HKJ⟩
                  case measure => simp [intOf]; omega
                · have hx0' : ((x : Int) != 0) = true := by rw [bne_iff_ne]; omega
                  have HF := hide (unhide HM (by
                    cases hq : formB (k : Int) d with
                    | false => rfl
                    | true => exact absurd (by rw [← hx]; exact (unhide HFI).1 hq (k + j) (by omega) (by omega)) hx0))
                  clear hx hx0
                  go_wp2
                  go_ret
                  exact ⟨by rw [unhide HF]; rfl, (unhide HKN).trans (unhide HKJ) (by simp)⟩
              · have hjl' : ¬ (j : Int) < (32 - k : Nat) := by omega
                have HT := hide ((unhide HFI).2 (fun m q1 q2 => unhide HAJ m q1 (by omega)))
                rw [unhide HT] at HN
                go_wp2
                go_roundw
                case rel => exact ⟨i + 1, by omega, by go_num, HN, hide ((unhide HKN).trans (unhide HKJ) (by simp))⟩
                case measure => simp [intOf]; omega
          · have hk32' : ¬ (k : Int) < 32 := by omega
            have hz0 : ¬ (0 : Int) < ((32 - k : Nat) : Int) := by omega
            go_wp2_with (first
              | (refine wpList_load_mid rfl 29 (.tmp 19) rfl b (o + i * 32) rfl (d.map Go.Proofs.YtjafmnemobcipaaDoor.u8) _ (unhide HRG) Tryd.underlying29 rfl (by rw [List.length_map, hdl]; exact Tryd.size_dig) ?_)
              | (rw [zb32]; refine wpList_store_row rfl 29 (.tmp 6) _ rfl wr.heap.size (brow d) rfl rfl _ (zb 32) (heap_alloc_new _ _) (unhide HSZ) (by rw [zb_size, brow_size, hdl]) (brow_one _) ?_))
            generalize ((wr.alloc (Obj.cells (zb 32) 29)).setRow wr.heap.size (brow d)) = W2 at HNW HKN ⊢
            obtain ⟨gq, hgq⟩ : ∃ gq, wr.heap.size = gq := ⟨_, rfl⟩
            rw [hgq] at HNW ⊢
            clear hgq
            go_loopw [24] (fun t24 wq => t24 = .int .i64 0 ∧ Hid (Kept [] W2 wq)) (fun t _ => 0)
            case atStart => exact ⟨rfl, hide (Kept.refl _ _)⟩
            case round =>
              obtain ⟨rfl, HKJ⟩ := hrel
              have HT := hide ((unhide HFI).2 (fun m q1 q2 => by omega))
              rw [unhide HT] at HN
              go_wp2
              go_roundw
              case rel => exact ⟨i + 1, by omega, by go_num, HN, hide ((unhide HKN).trans (unhide HKJ) (by simp))⟩
              case measure => simp [intOf]; omega
        · have hlt' : ¬ (i : Int) < ds.length := by omega
          have hie : i = ds.length := by omega
          subst hie
          rw [List.take_length] at HA
          have HF := hide (by simp [formedE, unhide HW, unhide HA] : formedE (k : Int) ds = 0)
          go_wp2
          go_ret
          exact ⟨by rw [unhide HF]; rfl, unhide HK⟩
end Go.Proofs.YtjafmnemobcipaaDoor
