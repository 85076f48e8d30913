import Derived.Test.YtclgblilgpfllaaNFit
namespace Go.Proofs.Ytclgblilgpfllaa
open Go.RowKit Go.BigFrame
set_option linter.unusedVariables false
set_option linter.unusedSimpArgs false

/-- What is laid down of a digest behind its first i digits. -/
def bkA (d : List Nat) (i j : Nat) : Nat := if 2 * j + 1 < i then d.getD j 0 else if 2 * j < i then d.getD j 0 / 16 else 0
def bkL (d : List Nat) (i : Nat) : List Nat := (List.range 32).map (bkA d i)
theorem bkL_len (d : List Nat) (i : Nat) : (bkL d i).length = 32 := by simp [bkL]
theorem bkL_get (d : List Nat) (i j : Nat) (hj : j < 32) : (bkL d i).getD j 0 = bkA d i j := by
  simp [bkL, List.getD_eq_getElem?_getD, hj]
theorem bkL_zero (d : List Nat) : bkL d 0 = List.replicate 32 0 := by
  refine list_ext_getD (by simp [bkL]) fun j hj => ?_
  rw [bkL_len] at hj
  rw [bkL_get d 0 j hj]
  unfold bkA
  rw [if_neg (by omega), if_neg (by omega)]
  rw [List.getD_eq_getElem?_getD, List.getElem?_replicate, if_pos hj]; rfl
theorem bkL_step (d : List Nat) (i : Nat) (hi : i < 64) (hb : ∀ x ∈ d, x < 256) : (bkL d i).set (i / 2) (bkA d i (i / 2) * 16 + dgt d i) = bkL d (i + 1) := by
  refine list_ext_getD (by simp [bkL]) fun j hj => ?_
  rw [List.length_set, bkL_len] at hj
  rw [bkL_get d (i + 1) j hj]
  by_cases h : i / 2 = j
  · rw [← h, getD_set_same _ _ _ (by rw [bkL_len]; omega)]
    unfold bkA dgt
    repeat' split
    all_goals omega
  · rw [getD_set_other _ _ _ _ (Ne.symm h), bkL_get d i j hj]
    unfold bkA
    repeat' split
    all_goals omega
theorem bkL_end {k : Nat} {d : List Nat} (hd : Dg d) (h1 : 1 ≤ k) (hk : k ≤ 32) (hf : formB (k : Int) d = true) : bkL d (2 * k) = d := by
  refine list_ext_getD (by rw [bkL_len, hd.1]) fun j hj => ?_
  rw [bkL_len] at hj
  rw [bkL_get d _ j hj]
  unfold bkA
  by_cases q : j < k
  · rw [if_pos (by omega)]
  · rw [if_neg (by omega), if_neg (by omega), (formB_iff hd.1 h1 hk).1 hf j (by omega) hj]
theorem bkA_bound (d : List Nat) (i : Nat) (hi : i < 64) (hb : ∀ x ∈ d, x < 256) : bkA d i (i / 2) ≤ 15 := by
  have h : d.getD (i / 2) 0 < 256 := by
    rw [List.getD_eq_getElem?_getD]
    rcases Nat.lt_or_ge (i / 2) d.length with hi | hi
    · rw [List.getElem?_eq_getElem hi]; exact hb _ (List.getElem_mem hi)
    · rw [List.getElem?_eq_none hi]; decide
  unfold bkA
  rw [if_neg (by omega)]
  split <;> omega
theorem at_ok {k : Nat} {d : List Nat} (hf : formB (k : Int) d = true) (i : Nat) (hi : i < 2 * k) : atE (k : Int) d (i : Int) = 0 ∧ atC (k : Int) d (i : Int) = dgt d i := by
  have hw : widthB (k : Int) = true := by unfold formB at hf; simp only [Bool.and_eq_true] at hf; exact hf.1
  have e : atE (k : Int) d (i : Int) = 0 := by unfold atE; rw [if_neg (by rw [hw]; simp; omega), if_pos hf]
  refine ⟨e, ?_⟩
  unfold atC
  rw [e, if_pos rfl, Int.toNat_natCast]
theorem at_bad {k : Nat} {d : List Nat} {i : Int} (h : i < 0 ∨ 2 * (k : Int) ≤ i) : atE (k : Int) d i = 1 ∧ atC (k : Int) d i = 0 := by
  have e : atE (k : Int) d i = 1 := by unfold atE; rw [if_pos (by omega)]
  refine ⟨e, ?_⟩
  unfold atC
  rw [e]; rfl

set_option maxRecDepth 100000 in
set_option maxHeartbeats 2000000 in
theorem nibbleDigits_walk (z : Int) (d : List Nat) (w : World) (hz : -9223372036854775808 ≤ z ∧ z ≤ 9223372036854775807) (hd : Dg d) :
    Calls Try.prog 6 #[.int .i64 z, .agg (brow d)] w fun e w' => e = .returned (.bool true) ∧ Below w.heap.size w w' := by
  have HD := hide hd
  have hdl := hd.1
  have HGA := hide (heap_alloc_new w (.cells (brow d) 23))
  have HK0 := hide ((Kept.refl [] w).alloc (.cells (brow d) 23))
  have HZZ := hide (by rw [brow_size, hdl]; exact Try.size_dig : (Try.prog.info? 23).map (·.size) = some (brow d).size)
  go_enter Try.func6, Try.ntmps6
  go_wp2_with fail
  refine Calls.mono (nawake_any _) ?_
  rintro e w1 ⟨rfl, k1⟩
  have HK1 := hide ((unhide HK0).trans k1 (by simp))
  have HG1 := hide (k1.heap (unhide HGA) (by simp))
  clear k1 HGA HK0
  go_wp2_with (refine wpList_load_row rfl 23 _ rfl w.heap.size rfl _ (brow d) (0, 0) _ (unhide HG1) Try.underlying23 rfl (unhide HZZ) ?_)
  refine Calls.mono (fit_any z d d _ hz hd hd) ?_
  rintro e w2 ⟨rfl, k2⟩
  have HK2 := hide ((unhide HK1).trans k2 (by simp))
  have HG2 := hide (k2.heap (unhide HG1) (by simp))
  clear k2 HG1 HK1
  cases hfit : fitB z d d with
  | false =>
    clear hfit
    go_wp2
    go_ret
    exact ⟨rfl, (unhide HK2).below (Nat.le_refl _) (by simp)⟩
  | true =>
    obtain ⟨k, rfl, hk1, hk⟩ := (by
      have h9 := fit_formed hfit
      have hw : widthB z = true := by
        unfold formedE at h9
        cases hw : widthB z with
        | false => rw [hw] at h9; simp at h9
        | true => rfl
      simp [widthB] at hw
      exact ⟨z.toNat, by omega, by omega, by omega⟩ : ∃ k : Nat, z = k ∧ 1 ≤ k ∧ k ≤ 32)
    have HF := hide (by unfold fitB at hfit; simp only [Bool.and_eq_true] at hfit; exact hfit.1 : formB (k : Int) d = true)
    clear hfit
    have hk2 : IntKind.i64.wrap (2 * (k : Int)) = 2 * (k : Int) := by simp [IntKind.wrap, IntKind.signed, IntKind.bits]; omega
    go_wp2_with fail
    rw [zb32]
    have HB0 := hide (heap_alloc_new w2 (.cells (zb 32) 23))
    have HGD := hide (((Kept.refl [] w2).alloc (.cells (zb 32) 23)).heap (unhide HG2) (by simp))
    have HKW := hide ((unhide HK2).alloc (.cells (zb 32) 23))
    have hlt2 : w.heap.size < w2.heap.size := by
      have h9 := unhide HG2
      exact (Array.getElem?_eq_some_iff.1 h9).1
    have hws := (unhide HK2).size
    rw [show zb 32 = brow (bkL d 0) by rw [bkL_zero]; rfl] at HB0 HGD HKW ⊢
    obtain ⟨W, hW⟩ : ∃ W, w2.alloc (.cells (brow (bkL d 0)) 23) = W := ⟨_, rfl⟩
    rw [hW] at HB0 HGD HKW ⊢
    clear hW
    obtain ⟨g, hg⟩ : ∃ g, w2.heap.size = g := ⟨_, rfl⟩
    rw [hg] at HB0 hlt2 hws ⊢
    clear hg HG2
    go_loopw [6] (fun t6 wr => ∃ (i : Nat), i ≤ 2 * k ∧ t6 = .int .i64 i ∧ Hid (wr.heap[g]? = some (.cells (brow (bkL d i)) 23 (0, 0))) ∧ Hid (wr.heap[w.heap.size]? = some (.cells (brow d) 23 (0, 0))) ∧ Hid (Kept [] w wr)) (fun t _ => 2 * k - (intOf t).toNat)
    case atStart => exact ⟨0, by omega, rfl, HB0, HGD, HKW⟩
    case round =>
      obtain ⟨i, hi, rfl, HB, HG, HK⟩ := hrel
      by_cases hlt : i < 2 * k
      · have hlt' : (i : Int) < 2 * k := by omega
        obtain ⟨eE, eC⟩ := at_ok (unhide HF) i hlt
        have hc16 := dgt_lt hd.2 i
        have hbk := bkA_bound d i (by omega) hd.2
        have HST := hide (bkL_step d i (by omega) hd.2)
        have hcl := bkL_get d i (i / 2) (by omega)
        go_wp2_with (refine wpList_load_row rfl 23 _ rfl w.heap.size rfl _ (brow d) (0, 0) _ (unhide HG) Try.underlying23 rfl (unhide HZZ) ?_)
        refine Calls.mono (at_any k d i _ hz (by omega) hd) ?_
        rintro e w3 ⟨rfl, k3⟩
        rw [eE, eC]
        have HB3 := hide (k3.heap (unhide HB) (by simp))
        have HG3 := hide (k3.heap (unhide HG) (by simp))
        have HK3 := hide ((unhide HK).trans k3 (by simp))
        clear k3 HB HG HK eE eC
        have ci := brow_cell (unhide HB3) (i / 2) (by rw [bkL_len]; omega)
        rw [hcl] at ci
        generalize dgt d i = c at *
        generalize bkA d i (i / 2) = x at *
        obtain ⟨j, hj⟩ : ∃ j, i / 2 = j := ⟨_, rfl⟩
        rw [hj] at ci HST
        have hj2 : (i : Int).tdiv 2 = j := by rw [Int.tdiv_eq_ediv_of_nonneg (by omega)]; omega
        have hj3 : (i : Int) / 2 = j := by omega
        have hj4 : (j : Int) < 32 := by omega
        have d1 : decide ((c : Int) < 0) = false := decide_eq_false (by omega)
        have d2 : decide ((15 : Int) < c) = false := decide_eq_false (by omega)
        have zf : w3.frozen? ⟨g, j, none⟩ = false := frozen_of_row _ _ _ _ _ (unhide HB3)
        have HGN := hide (by
          have h9 := heap_setCell_same w3 g j _ 23 (.int .u8 ((x : Int) * 16 + c)) (unhide HB3)
          rw [show (.int .u8 ((x : Int) * 16 + c) : Value) = Go.Proofs.Ytclgblilgpfllaa.u8 (x * 16 + c) by simp [Go.Proofs.Ytclgblilgpfllaa.u8], brow_set, unhide HST] at h9
          rw [show (.int .u8 ((x : Int) * 16 + c) : Value) = Go.Proofs.Ytclgblilgpfllaa.u8 (x * 16 + c) by simp [Go.Proofs.Ytclgblilgpfllaa.u8]]
          exact h9 : (w3.setCell ⟨g, j, none⟩ (.int .u8 ((x : Int) * 16 + c))).heap[g]? = some (.cells (brow (bkL d (i + 1))) 23 (0, 0)))
        have HGD2 := hide (((Kept.refl [g] w3).setCell (p := ⟨g, j, none⟩) (Or.inl (by simp)) (.int .u8 ((x : Int) * 16 + c))).heap (unhide HG3) (by simp; omega))
        have HKN := hide ((unhide HK3).setCell (p := ⟨g, j, none⟩) (Or.inr (by simp; omega)) (.int .u8 ((x : Int) * 16 + c)))
        go_wp2_with fail
        refine ⟨⟨i + 1, by omega, by simp, HGN, HGD2, HKN⟩, ?_⟩
        simp [intOf]; omega
      · have hlt' : ¬ (i : Int) < 2 * k := by omega
        obtain rfl : i = 2 * k := by omega
        rw [bkL_end hd hk1 hk (unhide HF)] at HB
        obtain ⟨eE, eC⟩ := at_bad (k := k) (d := d) (i := 2 * (k : Int)) (Or.inr (by omega))
        obtain ⟨fE, fC⟩ := at_bad (k := k) (d := d) (i := -1) (Or.inl (by omega))
        go_wp2_with (refine wpList_load_row rfl 23 _ rfl w.heap.size rfl _ (brow d) (0, 0) _ (unhide HG) Try.underlying23 rfl (unhide HZZ) ?_)
        refine Calls.mono (at_any k d (2 * (k : Int)) _ hz (by omega) hd) ?_
        rintro e w3 ⟨rfl, k3⟩
        rw [eE, eC]
        have HB3 := hide (k3.heap (unhide HB) (by simp))
        have HG3 := hide (k3.heap (unhide HG) (by simp))
        have HK3 := hide ((unhide HK).trans k3 (by simp))
        clear k3 HB HG HK eE eC
        go_wp2_with (refine wpList_load_row rfl 23 _ rfl w.heap.size rfl _ (brow d) (0, 0) _ (unhide HG3) Try.underlying23 rfl (unhide HZZ) ?_)
        refine Calls.mono (at_any k d (-1) _ hz (by omega) hd) ?_
        rintro e w4 ⟨rfl, k4⟩
        rw [fE, fC]
        have HB4 := hide (k4.heap (unhide HB3) (by simp))
        have HG4 := hide (k4.heap (unhide HG3) (by simp))
        have HK4 := hide ((unhide HK3).trans k4 (by simp))
        clear k4 HB3 HG3 HK3 fE fC
        have hqd : ∀ W, (Op.equalIn 10000 23 (.agg (brow d)) (.agg (brow d))).run Try.prog W = .ok true W := by
          intro W
          have := dig_eq W d d hdl hdl
          rw [decide_eq_true rfl] at this
          exact this
        go_wp2_with (first
          | (refine wpList_load_row rfl 23 _ rfl w.heap.size rfl _ (brow d) (0, 0) _ (unhide HG4) Try.underlying23 rfl (unhide HZZ) ?_)
          | (refine wpList_load_row rfl 23 _ rfl g rfl _ (brow d) (0, 0) _ (unhide HB4) Try.underlying23 rfl (unhide HZZ) ?_))
        go_ret
        exact ⟨rfl, (unhide HK4).below (Nat.le_refl _) (by simp)⟩
end Go.Proofs.Ytclgblilgpfllaa
