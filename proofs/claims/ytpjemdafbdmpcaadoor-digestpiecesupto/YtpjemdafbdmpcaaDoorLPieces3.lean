import Derived.Test.YtpjemdafbdmpcaaDoorLSums3
import Derived.Test.YtpjemdafbdmpcaaDoorSS256
namespace Go.Proofs.YtpjemdafbdmpcaaDoor
open Go.RowKit Go.BigFrame
set_option linter.unusedVariables false
set_option linter.unusedSimpArgs false

/-- A width out of any number. -/
def widthN3 (z : Int) : Nat := (z % 32).toNat + 1

set_option maxRecDepth 100000 in
set_option maxHeartbeats 1000000 in
theorem width_any (z : Int) (w : World) (hz : -9223372036854775808 ≤ z ∧ z ≤ 9223372036854775807) :
    Calls Tryd.prog 32 #[.int .i64 z] w fun e w' => e = .returned (.int .i64 (widthN3 z)) ∧ w' = w := by
  have ht : Int.tmod z 32 = if z % 32 = 0 ∨ 0 ≤ z then z % 32 else z % 32 - 32 := by
    rw [Int.tmod_eq_emod]
    split <;> split <;> omega
  by_cases hn : z % 32 = 0 ∨ 0 ≤ z
  · rw [if_pos hn] at ht
    have h0 : ¬ z % 32 < 0 := by omega
    have hW := hide (by unfold widthN3; omega : ((widthN3 z : Nat) : Int) = z % 32 + 1)
    go_enter Tryd.func32, Tryd.ntmps32
    go_wp2
    go_ret
    exact ⟨by rw [unhide hW]; rfl, rfl⟩
  · rw [if_neg hn] at ht
    have h0 : z % 32 - 32 < 0 := by omega
    have hW := hide (by unfold widthN3; omega : ((widthN3 z : Nat) : Int) = z % 32 + 1)
    go_enter Tryd.func32, Tryd.ntmps32
    go_wp2
    go_ret
    exact ⟨by rw [unhide hW]; rfl, rfl⟩

theorem cutL_getD (k : Nat) (d : List Nat) (hd : d.length = 32) : ∀ i, i < 32 → (cutL k d).getD i 0 = if i < k then d.getD i 0 else 0 := by
  intro i hi
  unfold cutL
  by_cases h : i < k
  · rw [if_pos h, List.getD_eq_getElem?_getD, List.getElem?_append_left (by simp; omega), List.getElem?_take, if_pos h, List.getD_eq_getElem?_getD]
  · rw [if_neg h, List.getD_eq_getElem?_getD, List.getElem?_append_right (by simp; omega), List.getElem?_replicate]
    split <;> rfl
theorem heap_new1 (w : World) (D : List Nat) (ob : Obj) : (((w.alloc (.cells (zb 32) 23)).setRow w.heap.size (brow D)).alloc ob).heap[w.heap.size + 1]? = some ob := by
  have h := heap_alloc_new ((w.alloc (.cells (zb 32) 23)).setRow w.heap.size (brow D)) ob
  have e : ((w.alloc (.cells (zb 32) 23)).setRow w.heap.size (brow D)).heap.size = w.heap.size + 1 := by simp [World.setRow]
  rw [e] at h
  exact h

set_option maxRecDepth 100000 in
set_option maxHeartbeats 1000000 in
theorem digestPieces_walk (z y : Int) (v : Value) (ps : List (List Nat)) (w : World) (hz : -9223372036854775808 ≤ z ∧ z ≤ 9223372036854775807) (hy : -9223372036854775808 ≤ y ∧ y ≤ 9223372036854775807) (hv : RdL w v ps) (hl : ps.flatten.length ≤ 1048576) (hn : ps.length ≤ 1048576) (hT : Tabs w) :
    Calls Tryd.prog 8 #[.int .i64 z, .int .i64 y, v] w fun e w' => e = .returned (.bool true) ∧ Below w.heap.size w w' := by
  have HT := hide hT
  have HV := hide hv
  clear hT hv
  go_enter Tryd.func8, Tryd.ntmps8
  go_wp2_with fail
  refine Calls.mono (width_any z w hz) ?_
  rintro e w1 ⟨rfl, rfl⟩
  go_wp2_with fail
  refine Calls.mono (width_any y w1 hy) ?_
  rintro e w2 ⟨rfl, rfl⟩
  have hz1 : 1 ≤ widthN3 z ∧ widthN3 z ≤ 32 := by unfold widthN3; omega
  have hy1 : 1 ≤ widthN3 y ∧ widthN3 y ≤ 32 := by unfold widthN3; omega
  generalize widthN3 z = a at hz1
  generalize widthN3 y = b at hy1
  obtain ⟨ao, len, cap, vs, rfl, h1, h2', h3, h4, h5, h6⟩ := id (unhide HV)
  have H5 := hide h5
  have H6 := hide h6
  subst h2'
  clear h5 h6
  by_cases hab : a < b
  · have hab' : (a : Int) < b := by omega
    go_wp2_with fail
    have hA : 1 ≤ b ∧ b ≤ 32 := by omega
    have hB : 1 ≤ a ∧ a ≤ 32 := by omega
    go_loopw [7, 29] (fun t7 t29 wr => ∃ (i : Nat), i ≤ ps.length ∧ t29 = .int .i64 i ∧ Hid (wr.ownsRow w2.heap.size 5 1 t7 (ps.take i).flatten.length ((ps.take i).flatten.map Go.Proofs.YtpjemdafbdmpcaaDoor.u8)) ∧ Hid (∀ x ∈ (ps.take i).flatten, x < 256) ∧ Hid (Kept [] w2 wr)) (fun _ t _ => ps.length - (intOf t).toNat)
    case atStart => exact ⟨0, Nat.zero_le _, rfl, hide (World.ownsRow_nil _ _ _ _), hide (by simp), hide (Kept.refl _ _)⟩
    case round =>
      obtain ⟨i, hi, rfl, HO, HB, HK⟩ := hrel
      by_cases hlt : i < ps.length
      · have hlt' : (i : Int) < ps.length := by omega
        obtain ⟨bb, o, rfl, hcell⟩ := unhide H5 (by omega)
        have ci := (unhide HK).cell (hcell i hlt) (by simp)
        have HR := hide ((unhide H6 i hlt).old (unhide HK) (by simp))
        have HFS := hide (flat_snoc ps i hlt)
        have HFL := hide (flat_le ps (i + 1))
        clear hcell
        generalize vs.getD i undef = vi at ci HR
        generalize ps.getD i [] = pi at HR HFS
        obtain ⟨a1, n1, c1, rfl, hn1, _⟩ := id (unhide HR)
        subst hn1
        generalize (ps.take i).flatten = F at HO HB HFS
        go_wp2_with (at_builtin; refine wpList_appendAll rfl (.tmp 33) (.tmp 34) rfl rfl wr w2.heap.size u7 F pi a1 pi.length c1 (unhide HO) (unhide HR) (by have h8 := unhide HFL; rw [unhide HFS, List.length_append] at h8; omega) (unhide HK).size rfl rfl ?_; intro ao2 cap2 w3 HO2 HG2 HA2)
        have HB2 := hide (by rw [unhide HFS]; intro x hx; rcases List.mem_append.1 hx with h | h; exact unhide HB x h; exact (unhide HR).byte x h : ∀ x ∈ (ps.take (i + 1)).flatten, x < 256)
        rw [← unhide HFS] at HO2
        have HK2 := hide ((unhide HK).grown (unhide HG2) (by intro j hj; right; exact ((unhide HO).lt j hj).1))
        refine ⟨⟨i + 1, by omega, by go_num, HO2, HB2, HK2⟩, ?_⟩
        simp [intOf]; omega
      · have hlt' : ¬ (i : Int) < ps.length := by omega
        have hie : i = ps.length := by omega
        subst hie
        rw [List.take_length] at HO HB
        have HRA := hide (rd_owns (unhide HO) (unhide HB) (by omega))
        have hFl : ps.flatten.length ≤ 1048576 := hl
        have hcA := cutL_len b (hash ps.flatten) hA.2 (hash_len _)
        have hcB := cutL_len a (hash ps.flatten) hB.2 (hash_len _)
        have hh := hash_len ps.flatten
        obtain ⟨F, hF⟩ : ∃ F, ps.flatten = F := ⟨_, rfl⟩
        rw [hF] at HRA hFl hcA hcB hh
        have HFF := hide hF
        clear hF HO HB
        obtain ⟨CA, hCA⟩ : ∃ C, cutL b (hash F) = C := ⟨_, rfl⟩
        obtain ⟨CB, hCB⟩ : ∃ C, cutL a (hash F) = C := ⟨_, rfl⟩
        rw [hCA] at hcA
        rw [hCB] at hcB
        have HCA := hide hCA
        have HCB := hide hCB
        clear hCA hCB
        obtain ⟨a7, n7, c7, hu7, hn7, _⟩ := id (unhide HRA)
        subst hu7
        go_wp2_with fail
        refine Calls.mono (twinAll_any _ ps wr ((unhide HV).old (unhide HK)) (by omega)) ?_
        rintro e w3 ⟨lv, rfl, r3, k3⟩
        have HK3 := hide ((unhide HK).trans k3 (by simp))
        have HR3 := hide r3
        have HA3 := hide ((unhide HRA).old k3 (by simp))
        clear r3 k3
        go_wp2_with fail
        refine Calls.mono (dsum_any b _ ps w3 (by omega) (unhide HR3) (by rw [unhide HFF]; omega) ((unhide HT).k (unhide HK3)) (by simp [widthB]; omega)) ?_
        rintro e w4 ⟨rfl, k4⟩
        rw [unhide HFF, Int.toNat_natCast, unhide HCA]
        have HK4 := hide ((unhide HK3).trans k4 (by simp))
        have HA4 := hide ((unhide HA3).old k4 (by simp))
        clear k4
        have HC4 := hide (cell_new w4 CA)
        have HKC4 := hide (kept_new (unhide HK4) CA)
        have HA5 := hide ((unhide HA4).old (kept_old w4 CA) (by simp))
        go_wp2_with (rw [zb32]; refine wpList_store_row rfl 23 _ _ rfl w4.heap.size (brow CA) rfl rfl _ (zb 32) (heap_alloc_new _ _) (Tryd.szD hcA) (by rw [zb_size, brow_size, hcA]) (brow_one _) ?_)
        refine Calls.mono (dsum_any b _ [F] _ (by omega) (RdL.one (heap_new1 w4 CA _) ((unhide HA5).old ((Kept.refl [] _).alloc _) (by simp))) (by simp; omega) ((unhide HT).k ((unhide HKC4).alloc _)) (by simp [widthB]; omega)) ?_
        rintro e w5 ⟨rfl, k5⟩
        rw [show ([F] : List (List Nat)).flatten = F by simp, Int.toNat_natCast, unhide HCA]
        have k45 := ((Kept.refl [] ((w4.alloc (.cells (zb 32) 23)).setRow w4.heap.size (brow CA))).alloc (.cells #[.slice a7 n7 c7] 37)).trans k5 (by simp)
        have HC5 := hide (k45.heap (unhide HC4) (by simp))
        have HK5 := hide ((unhide HKC4).trans k45 (by simp))
        have HA5' := hide ((unhide HA5).old k45 (by simp))
        clear k5 k45
        have HD5 := hide (cell_new w5 CA)
        have HKD5 := hide (kept_new (unhide HK5) CA)
        have HC6 := hide ((kept_old w5 CA).heap (unhide HC5) (by simp))
        have HA6 := hide ((unhide HA5').old (kept_old w5 CA) (by simp))
        go_wp2_with (rw [zb32]; refine wpList_store_row rfl 23 _ _ rfl w5.heap.size (brow CA) rfl rfl _ (zb 32) (heap_alloc_new _ _) (Tryd.szD hcA) (by rw [zb_size, brow_size, hcA]) (brow_one _) ?_)
        refine Calls.mono (dsum_any a _ [F] _ (by omega) (RdL.one (heap_new1 w5 CA _) ((unhide HA6).old ((Kept.refl [] _).alloc _) (by simp))) (by simp; omega) ((unhide HT).k ((unhide HKD5).alloc _)) (by simp [widthB]; omega)) ?_
        rintro e w6 ⟨rfl, k6⟩
        rw [show ([F] : List (List Nat)).flatten = F by simp, Int.toNat_natCast, unhide HCB]
        have k56 := ((Kept.refl [] ((w5.alloc (.cells (zb 32) 23)).setRow w5.heap.size (brow CA))).alloc (.cells #[.slice a7 n7 c7] 37)).trans k6 (by simp)
        have HC7 := hide (k56.heap (unhide HC6) (by simp))
        have HD7 := hide (k56.heap (unhide HD5) (by simp))
        have HK7 := hide ((unhide HKD5).trans k56 (by simp))
        have HA7 := hide ((unhide HA6).old k56 (by simp))
        clear k6 k56
        have HE7 := hide (cell_new w6 CB)
        have HKE7 := hide (kept_new (unhide HK7) CB)
        have HC8 := hide ((kept_old w6 CB).heap (unhide HC7) (by simp))
        have HD8 := hide ((kept_old w6 CB).heap (unhide HD7) (by simp))
        have HA8 := hide ((unhide HA7).old (kept_old w6 CB) (by simp))
        go_wp2_with (rw [zb32]; refine wpList_store_row rfl 23 _ _ rfl w6.heap.size (brow CB) rfl rfl _ (zb 32) (heap_alloc_new _ _) (Tryd.szD hcB) (by rw [zb_size, brow_size, hcB]) (brow_one _) ?_)
        refine Calls.mono (sum256_any _ F _ (unhide HA8) (by omega) ((unhide HT).k (unhide HKE7))) ?_
        rintro e w7 ⟨rfl, k7⟩
        obtain ⟨hF, hhF⟩ : ∃ x, hash F = x := ⟨_, rfl⟩
        rw [hhF] at hh ⊢
        have HHF := hide hhF
        clear hhF
        have HC9 := hide (k7.heap (unhide HC8) (by simp))
        have HD9 := hide (k7.heap (unhide HD8) (by simp))
        have HE9 := hide (k7.heap (unhide HE7) (by simp))
        have HK9 := hide ((unhide HKE7).trans k7 (by simp))
        clear k7
        have HSH := hide (by rw [brow_size, hh]; exact Tryd.size_a32b : (Tryd.prog.info? 22).map (·.size) = some (brow hF).size)
        have HH9 := hide (setRow_heap (w7.alloc (.cells (zb 32) 22)) w7.heap.size (zb 32) (brow hF) 22 (0, 0) (heap_alloc_new _ _))
        have HKO := hide (((Kept.refl [] w7).alloc (.cells (zb 32) 22)).setRow (g := w7.heap.size) (Or.inr (Nat.le_refl _)) (brow hF))
        go_wp2_with (rw [zb32]; refine wpList_store_row rfl 22 _ _ rfl w7.heap.size (brow hF) rfl rfl _ (zb 32) (heap_alloc_new _ _) (unhide HSH) (by rw [zb_size, brow_size, hh]) (brow_one _) ?_)
        obtain ⟨W8, hW8⟩ : ∃ W, (w7.alloc (.cells (zb 32) 22)).setRow w7.heap.size (brow hF) = W := ⟨_, rfl⟩
        rw [hW8] at HH9 HKO ⊢
        clear hW8
        refine Calls.mono (dawake_any _ ((unhide HT).k ((unhide HK9).trans (unhide HKO) (by simp)))) ?_
        rintro e w8 ⟨rfl, k8⟩
        have k78 := (unhide HKO).trans k8 (by simp)
        have HC10 := hide (k78.heap (unhide HC9) (by simp))
        have HD10 := hide (k78.heap (unhide HD9) (by simp))
        have HE10 := hide (k78.heap (unhide HE9) (by simp))
        have HH10 := hide (k8.heap (unhide HH9) (by simp))
        have HK10 := hide ((unhide HK9).trans k78 (by simp))
        clear k8 k78 HC9 HD9 HE9 HH9 HKO
        have hqd : ∀ W, (Op.equalIn 10000 23 (.agg (brow CA)) (.agg (brow CA))).run Tryd.prog W = .ok true W := dig_same CA hcA
        go_wp2_with (first
          | (refine wpList_load_rowG rfl 23 (.tmp 10) rfl w4.heap.size rfl _ (brow CA) (0, 0) _ (unhide HC10) Tryd.underlying23 rfl (Tryd.szD hcA) ?_)
          | (refine wpList_load_rowG rfl 23 (.tmp 12) rfl w5.heap.size rfl _ (brow CA) (0, 0) _ (unhide HD10) Tryd.underlying23 rfl (Tryd.szD hcA) ?_))
        have HCAx := hide (by rw [← unhide HCA, unhide HHF]; exact cutL_getD b hF hh : ∀ i, i < 32 → CA.getD i 0 = if i < b then hF.getD i 0 else 0)
        have HCBx := hide (by rw [← unhide HCB, unhide HHF]; exact cutL_getD a hF hh : ∀ i, i < 32 → CB.getD i 0 = if i < a then hF.getD i 0 else 0)
        go_loopw [17] (fun t17 wq => ∃ (i n : Nat), i ≤ 32 ∧ t17 = .int .i64 i ∧ wq = w8.drewN n) (fun t _ => 32 - (intOf t).toNat)
        case atStart => exact ⟨0, 0, by omega, rfl, rfl⟩
        case round =>
          obtain ⟨i, n, hi, rfl, rfl⟩ := hrel
          by_cases hge : 32 ≤ i
          · have hlt2' : ¬ (i : Int) < 32 := by omega
            go_wp2
            go_ret
            exact ⟨rfl, ((unhide HK10).drewN _).below (Nat.le_refl _) (by simp)⟩
          have hlt2 : i < 32 := by omega
          have hlt2' : (i : Int) < 32 := by omega
          by_cases c1 : i < a
          · have ca := brow_cell (unhide HC10) i (by omega)
            have cb := brow_cell (unhide HE10) i (by omega)
            have ch := brow_cell (unhide HH10) i (by omega)
            rw [unhide HCAx i hlt2, if_pos (by omega)] at ca
            rw [unhide HCBx i hlt2, if_pos c1] at cb
            generalize hF.getD i 0 = x at ca cb ch
            have q1 : (i : Int) < b := by omega
            have q3 : i < b := by omega
            have q5 : ¬ b ≤ i := by omega
            have q7 : decide (b ≤ i) = false := by simp; omega
            have q2 : (i : Int) < a := by omega
            have q4 : i < a := by omega
            have q6 : ¬ a ≤ i := by omega
            have q8 : decide (a ≤ i) = false := by simp; omega
            go_wp2_with fail
            go_quiet (fail)
            go_wp2
            refine ⟨⟨i + 1, _, by omega, by go_num, rfl⟩, ?_⟩
            simp [intOf]; omega
          by_cases c2 : i < b
          · have ca := brow_cell (unhide HC10) i (by omega)
            have cb := brow_cell (unhide HE10) i (by omega)
            have ch := brow_cell (unhide HH10) i (by omega)
            rw [unhide HCAx i hlt2, if_pos c2] at ca
            rw [unhide HCBx i hlt2, if_neg c1] at cb
            generalize hF.getD i 0 = x at ca cb ch
            have q1 : (i : Int) < b := by omega
            have q3 : i < b := by omega
            have q5 : ¬ b ≤ i := by omega
            have q7 : decide (b ≤ i) = false := by simp; omega
            have q2 : ¬ (i : Int) < a := by omega
            have q4 : ¬ i < a := by omega
            have q6 : a ≤ i := by omega
            have q8 : decide (a ≤ i) = true := by simp; omega
            go_wp2_with fail
            go_quiet (fail)
            go_wp2
            refine ⟨⟨i + 1, _, by omega, by go_num, rfl⟩, ?_⟩
            simp [intOf]; omega
          · have ca := brow_cell (unhide HC10) i (by omega)
            have cb := brow_cell (unhide HE10) i (by omega)
            have ch := brow_cell (unhide HH10) i (by omega)
            rw [unhide HCAx i hlt2, if_neg c2] at ca
            rw [unhide HCBx i hlt2, if_neg c1] at cb
            generalize hF.getD i 0 = x at ca cb ch
            have q1 : ¬ (i : Int) < b := by omega
            have q3 : ¬ i < b := by omega
            have q5 : b ≤ i := by omega
            have q7 : decide (b ≤ i) = true := by simp; omega
            have q2 : ¬ (i : Int) < a := by omega
            have q4 : ¬ i < a := by omega
            have q6 : a ≤ i := by omega
            have q8 : decide (a ≤ i) = true := by simp; omega
            go_wp2_with fail
            go_quiet (fail)
            go_wp2
            refine ⟨⟨i + 1, _, by omega, by go_num, rfl⟩, ?_⟩
            simp [intOf]; omega
  · have hab' : ¬ (a : Int) < b := by omega
    go_wp2_with fail
    have hA : 1 ≤ a ∧ a ≤ 32 := by omega
    have hB : 1 ≤ b ∧ b ≤ 32 := by omega
    go_loopw [7, 29] (fun t7 t29 wr => ∃ (i : Nat), i ≤ ps.length ∧ t29 = .int .i64 i ∧ Hid (wr.ownsRow w2.heap.size 5 1 t7 (ps.take i).flatten.length ((ps.take i).flatten.map Go.Proofs.YtpjemdafbdmpcaaDoor.u8)) ∧ Hid (∀ x ∈ (ps.take i).flatten, x < 256) ∧ Hid (Kept [] w2 wr)) (fun _ t _ => ps.length - (intOf t).toNat)
    case atStart => exact ⟨0, Nat.zero_le _, rfl, hide (World.ownsRow_nil _ _ _ _), hide (by simp), hide (Kept.refl _ _)⟩
    case round =>
      obtain ⟨i, hi, rfl, HO, HB, HK⟩ := hrel
      by_cases hlt : i < ps.length
      · have hlt' : (i : Int) < ps.length := by omega
        obtain ⟨bb, o, rfl, hcell⟩ := unhide H5 (by omega)
        have ci := (unhide HK).cell (hcell i hlt) (by simp)
        have HR := hide ((unhide H6 i hlt).old (unhide HK) (by simp))
        have HFS := hide (flat_snoc ps i hlt)
        have HFL := hide (flat_le ps (i + 1))
        clear hcell
        generalize vs.getD i undef = vi at ci HR
        generalize ps.getD i [] = pi at HR HFS
        obtain ⟨a1, n1, c1, rfl, hn1, _⟩ := id (unhide HR)
        subst hn1
        generalize (ps.take i).flatten = F at HO HB HFS
        go_wp2_with (at_builtin; refine wpList_appendAll rfl (.tmp 33) (.tmp 34) rfl rfl wr w2.heap.size u7 F pi a1 pi.length c1 (unhide HO) (unhide HR) (by have h8 := unhide HFL; rw [unhide HFS, List.length_append] at h8; omega) (unhide HK).size rfl rfl ?_; intro ao2 cap2 w3 HO2 HG2 HA2)
        have HB2 := hide (by rw [unhide HFS]; intro x hx; rcases List.mem_append.1 hx with h | h; exact unhide HB x h; exact (unhide HR).byte x h : ∀ x ∈ (ps.take (i + 1)).flatten, x < 256)
        rw [← unhide HFS] at HO2
        have HK2 := hide ((unhide HK).grown (unhide HG2) (by intro j hj; right; exact ((unhide HO).lt j hj).1))
        refine ⟨⟨i + 1, by omega, by go_num, HO2, HB2, HK2⟩, ?_⟩
        simp [intOf]; omega
      · have hlt' : ¬ (i : Int) < ps.length := by omega
        have hie : i = ps.length := by omega
        subst hie
        rw [List.take_length] at HO HB
        have HRA := hide (rd_owns (unhide HO) (unhide HB) (by omega))
        have hFl : ps.flatten.length ≤ 1048576 := hl
        have hcA := cutL_len a (hash ps.flatten) hA.2 (hash_len _)
        have hcB := cutL_len b (hash ps.flatten) hB.2 (hash_len _)
        have hh := hash_len ps.flatten
        obtain ⟨F, hF⟩ : ∃ F, ps.flatten = F := ⟨_, rfl⟩
        rw [hF] at HRA hFl hcA hcB hh
        have HFF := hide hF
        clear hF HO HB
        obtain ⟨CA, hCA⟩ : ∃ C, cutL a (hash F) = C := ⟨_, rfl⟩
        obtain ⟨CB, hCB⟩ : ∃ C, cutL b (hash F) = C := ⟨_, rfl⟩
        rw [hCA] at hcA
        rw [hCB] at hcB
        have HCA := hide hCA
        have HCB := hide hCB
        clear hCA hCB
        obtain ⟨a7, n7, c7, hu7, hn7, _⟩ := id (unhide HRA)
        subst hu7
        go_wp2_with fail
        refine Calls.mono (twinAll_any _ ps wr ((unhide HV).old (unhide HK)) (by omega)) ?_
        rintro e w3 ⟨lv, rfl, r3, k3⟩
        have HK3 := hide ((unhide HK).trans k3 (by simp))
        have HR3 := hide r3
        have HA3 := hide ((unhide HRA).old k3 (by simp))
        clear r3 k3
        go_wp2_with fail
        refine Calls.mono (dsum_any a _ ps w3 (by omega) (unhide HR3) (by rw [unhide HFF]; omega) ((unhide HT).k (unhide HK3)) (by simp [widthB]; omega)) ?_
        rintro e w4 ⟨rfl, k4⟩
        rw [unhide HFF, Int.toNat_natCast, unhide HCA]
        have HK4 := hide ((unhide HK3).trans k4 (by simp))
        have HA4 := hide ((unhide HA3).old k4 (by simp))
        clear k4
        have HC4 := hide (cell_new w4 CA)
        have HKC4 := hide (kept_new (unhide HK4) CA)
        have HA5 := hide ((unhide HA4).old (kept_old w4 CA) (by simp))
        go_wp2_with (rw [zb32]; refine wpList_store_row rfl 23 _ _ rfl w4.heap.size (brow CA) rfl rfl _ (zb 32) (heap_alloc_new _ _) (Tryd.szD hcA) (by rw [zb_size, brow_size, hcA]) (brow_one _) ?_)
        refine Calls.mono (dsum_any a _ [F] _ (by omega) (RdL.one (heap_new1 w4 CA _) ((unhide HA5).old ((Kept.refl [] _).alloc _) (by simp))) (by simp; omega) ((unhide HT).k ((unhide HKC4).alloc _)) (by simp [widthB]; omega)) ?_
        rintro e w5 ⟨rfl, k5⟩
        rw [show ([F] : List (List Nat)).flatten = F by simp, Int.toNat_natCast, unhide HCA]
        have k45 := ((Kept.refl [] ((w4.alloc (.cells (zb 32) 23)).setRow w4.heap.size (brow CA))).alloc (.cells #[.slice a7 n7 c7] 37)).trans k5 (by simp)
        have HC5 := hide (k45.heap (unhide HC4) (by simp))
        have HK5 := hide ((unhide HKC4).trans k45 (by simp))
        have HA5' := hide ((unhide HA5).old k45 (by simp))
        clear k5 k45
        have HD5 := hide (cell_new w5 CA)
        have HKD5 := hide (kept_new (unhide HK5) CA)
        have HC6 := hide ((kept_old w5 CA).heap (unhide HC5) (by simp))
        have HA6 := hide ((unhide HA5').old (kept_old w5 CA) (by simp))
        go_wp2_with (rw [zb32]; refine wpList_store_row rfl 23 _ _ rfl w5.heap.size (brow CA) rfl rfl _ (zb 32) (heap_alloc_new _ _) (Tryd.szD hcA) (by rw [zb_size, brow_size, hcA]) (brow_one _) ?_)
        refine Calls.mono (dsum_any b _ [F] _ (by omega) (RdL.one (heap_new1 w5 CA _) ((unhide HA6).old ((Kept.refl [] _).alloc _) (by simp))) (by simp; omega) ((unhide HT).k ((unhide HKD5).alloc _)) (by simp [widthB]; omega)) ?_
        rintro e w6 ⟨rfl, k6⟩
        rw [show ([F] : List (List Nat)).flatten = F by simp, Int.toNat_natCast, unhide HCB]
        have k56 := ((Kept.refl [] ((w5.alloc (.cells (zb 32) 23)).setRow w5.heap.size (brow CA))).alloc (.cells #[.slice a7 n7 c7] 37)).trans k6 (by simp)
        have HC7 := hide (k56.heap (unhide HC6) (by simp))
        have HD7 := hide (k56.heap (unhide HD5) (by simp))
        have HK7 := hide ((unhide HKD5).trans k56 (by simp))
        have HA7 := hide ((unhide HA6).old k56 (by simp))
        clear k6 k56
        have HE7 := hide (cell_new w6 CB)
        have HKE7 := hide (kept_new (unhide HK7) CB)
        have HC8 := hide ((kept_old w6 CB).heap (unhide HC7) (by simp))
        have HD8 := hide ((kept_old w6 CB).heap (unhide HD7) (by simp))
        have HA8 := hide ((unhide HA7).old (kept_old w6 CB) (by simp))
        go_wp2_with (rw [zb32]; refine wpList_store_row rfl 23 _ _ rfl w6.heap.size (brow CB) rfl rfl _ (zb 32) (heap_alloc_new _ _) (Tryd.szD hcB) (by rw [zb_size, brow_size, hcB]) (brow_one _) ?_)
        refine Calls.mono (sum256_any _ F _ (unhide HA8) (by omega) ((unhide HT).k (unhide HKE7))) ?_
        rintro e w7 ⟨rfl, k7⟩
        obtain ⟨hF, hhF⟩ : ∃ x, hash F = x := ⟨_, rfl⟩
        rw [hhF] at hh ⊢
        have HHF := hide hhF
        clear hhF
        have HC9 := hide (k7.heap (unhide HC8) (by simp))
        have HD9 := hide (k7.heap (unhide HD8) (by simp))
        have HE9 := hide (k7.heap (unhide HE7) (by simp))
        have HK9 := hide ((unhide HKE7).trans k7 (by simp))
        clear k7
        have HSH := hide (by rw [brow_size, hh]; exact Tryd.size_a32b : (Tryd.prog.info? 22).map (·.size) = some (brow hF).size)
        have HH9 := hide (setRow_heap (w7.alloc (.cells (zb 32) 22)) w7.heap.size (zb 32) (brow hF) 22 (0, 0) (heap_alloc_new _ _))
        have HKO := hide (((Kept.refl [] w7).alloc (.cells (zb 32) 22)).setRow (g := w7.heap.size) (Or.inr (Nat.le_refl _)) (brow hF))
        go_wp2_with (rw [zb32]; refine wpList_store_row rfl 22 _ _ rfl w7.heap.size (brow hF) rfl rfl _ (zb 32) (heap_alloc_new _ _) (unhide HSH) (by rw [zb_size, brow_size, hh]) (brow_one _) ?_)
        obtain ⟨W8, hW8⟩ : ∃ W, (w7.alloc (.cells (zb 32) 22)).setRow w7.heap.size (brow hF) = W := ⟨_, rfl⟩
        rw [hW8] at HH9 HKO ⊢
        clear hW8
        refine Calls.mono (dawake_any _ ((unhide HT).k ((unhide HK9).trans (unhide HKO) (by simp)))) ?_
        rintro e w8 ⟨rfl, k8⟩
        have k78 := (unhide HKO).trans k8 (by simp)
        have HC10 := hide (k78.heap (unhide HC9) (by simp))
        have HD10 := hide (k78.heap (unhide HD9) (by simp))
        have HE10 := hide (k78.heap (unhide HE9) (by simp))
        have HH10 := hide (k8.heap (unhide HH9) (by simp))
        have HK10 := hide ((unhide HK9).trans k78 (by simp))
        clear k8 k78 HC9 HD9 HE9 HH9 HKO
        have hqd : ∀ W, (Op.equalIn 10000 23 (.agg (brow CA)) (.agg (brow CA))).run Tryd.prog W = .ok true W := dig_same CA hcA
        go_wp2_with (first
          | (refine wpList_load_rowG rfl 23 (.tmp 10) rfl w4.heap.size rfl _ (brow CA) (0, 0) _ (unhide HC10) Tryd.underlying23 rfl (Tryd.szD hcA) ?_)
          | (refine wpList_load_rowG rfl 23 (.tmp 12) rfl w5.heap.size rfl _ (brow CA) (0, 0) _ (unhide HD10) Tryd.underlying23 rfl (Tryd.szD hcA) ?_))
        have HCAx := hide (by rw [← unhide HCA, unhide HHF]; exact cutL_getD a hF hh : ∀ i, i < 32 → CA.getD i 0 = if i < a then hF.getD i 0 else 0)
        have HCBx := hide (by rw [← unhide HCB, unhide HHF]; exact cutL_getD b hF hh : ∀ i, i < 32 → CB.getD i 0 = if i < b then hF.getD i 0 else 0)
        go_loopw [17] (fun t17 wq => ∃ (i n : Nat), i ≤ 32 ∧ t17 = .int .i64 i ∧ wq = w8.drewN n) (fun t _ => 32 - (intOf t).toNat)
        case atStart => exact ⟨0, 0, by omega, rfl, rfl⟩
        case round =>
          obtain ⟨i, n, hi, rfl, rfl⟩ := hrel
          by_cases hge : 32 ≤ i
          · have hlt2' : ¬ (i : Int) < 32 := by omega
            go_wp2
            go_ret
            exact ⟨rfl, ((unhide HK10).drewN _).below (Nat.le_refl _) (by simp)⟩
          have hlt2 : i < 32 := by omega
          have hlt2' : (i : Int) < 32 := by omega
          by_cases c1 : i < b
          · have ca := brow_cell (unhide HC10) i (by omega)
            have cb := brow_cell (unhide HE10) i (by omega)
            have ch := brow_cell (unhide HH10) i (by omega)
            rw [unhide HCAx i hlt2, if_pos (by omega)] at ca
            rw [unhide HCBx i hlt2, if_pos c1] at cb
            generalize hF.getD i 0 = x at ca cb ch
            have q1 : (i : Int) < a := by omega
            have q3 : i < a := by omega
            have q5 : ¬ a ≤ i := by omega
            have q7 : decide (a ≤ i) = false := by simp; omega
            have q2 : (i : Int) < b := by omega
            have q4 : i < b := by omega
            have q6 : ¬ b ≤ i := by omega
            have q8 : decide (b ≤ i) = false := by simp; omega
            go_wp2_with fail
            go_quiet (fail)
            go_wp2
            refine ⟨⟨i + 1, _, by omega, by go_num, rfl⟩, ?_⟩
            simp [intOf]; omega
          by_cases c2 : i < a
          · have ca := brow_cell (unhide HC10) i (by omega)
            have cb := brow_cell (unhide HE10) i (by omega)
            have ch := brow_cell (unhide HH10) i (by omega)
            rw [unhide HCAx i hlt2, if_pos c2] at ca
            rw [unhide HCBx i hlt2, if_neg c1] at cb
            generalize hF.getD i 0 = x at ca cb ch
            have q1 : (i : Int) < a := by omega
            have q3 : i < a := by omega
            have q5 : ¬ a ≤ i := by omega
            have q7 : decide (a ≤ i) = false := by simp; omega
            have q2 : ¬ (i : Int) < b := by omega
            have q4 : ¬ i < b := by omega
            have q6 : b ≤ i := by omega
            have q8 : decide (b ≤ i) = true := by simp; omega
            go_wp2_with fail
            go_quiet (fail)
            go_wp2
            refine ⟨⟨i + 1, _, by omega, by go_num, rfl⟩, ?_⟩
            simp [intOf]; omega
          · have ca := brow_cell (unhide HC10) i (by omega)
            have cb := brow_cell (unhide HE10) i (by omega)
            have ch := brow_cell (unhide HH10) i (by omega)
            rw [unhide HCAx i hlt2, if_neg c2] at ca
            rw [unhide HCBx i hlt2, if_neg c1] at cb
            generalize hF.getD i 0 = x at ca cb ch
            have q1 : ¬ (i : Int) < a := by omega
            have q3 : ¬ i < a := by omega
            have q5 : a ≤ i := by omega
            have q7 : decide (a ≤ i) = true := by simp; omega
            have q2 : ¬ (i : Int) < b := by omega
            have q4 : ¬ i < b := by omega
            have q6 : b ≤ i := by omega
            have q8 : decide (b ≤ i) = true := by simp; omega
            go_wp2_with fail
            go_quiet (fail)
            go_wp2
            refine ⟨⟨i + 1, _, by omega, by go_num, rfl⟩, ?_⟩
            simp [intOf]; omega
end Go.Proofs.YtpjemdafbdmpcaaDoor
