import Derived.Test.YtgnbigijpneebaaDoorDOnes
namespace Go.Proofs.YtgnbigijpneebaaDoor
open Go.RowKit Go.BigFrame
set_option linter.unusedVariables false
set_option linter.unusedSimpArgs false

/-- What the check of a branch answers. -/
def branchE (z : Int) (x : Nat) (ds : List (List Nat)) : Nat := if formedE z ds = 0 then (if x = 0 ∨ ones x ≠ ds.length then 3 else 0) else formedE z ds

set_option maxRecDepth 100000 in
set_option maxHeartbeats 1000000 in
theorem refCheckBranch_any (z : Int) (x : Nat) (v : Value) (ds : List (List Nat)) (w : World) (hz : -9223372036854775808 ≤ z ∧ z ≤ 9223372036854775807) (hx : x < 65536) (hv : RdD w v ds) :
    Calls Tryd.prog 41 #[.int .i64 z, .int .u16 x, v] w fun e w' => e = .returned (.int .i64 (branchE z x ds)) ∧ Kept [] w w' := by
  have HV := hide hv
  obtain ⟨ao, len, cap, rfl, h1, h2, h3, _⟩ := hv
  subst h1
  have HE := hide (show branchE z x ds = if formedE z ds = 0 then (if x = 0 ∨ ones x ≠ ds.length then 3 else 0) else formedE z ds from rfl)
  obtain ⟨R, hR⟩ : ∃ R, branchE z x ds = R := ⟨_, rfl⟩
  rw [hR] at HE ⊢
  clear hR
  go_enter Tryd.func41, Tryd.ntmps41
  go_wp2_with fail
  refine Calls.mono (refCheck_any z _ ds _ hz (unhide HV)) ?_
  rintro e w1 ⟨rfl, k1⟩
  have HK1 := hide k1
  clear k1
  obtain ⟨f, hf⟩ : ∃ f, formedE z ds = f := ⟨_, rfl⟩
  rw [hf] at HE ⊢
  clear hf
  by_cases hf0 : f = 0
  · subst hf0
    by_cases hx0 : x = 0
    · have HR := hide (by rw [unhide HE, if_pos rfl, if_pos (Or.inl hx0)] : R = 3)
      have hx0' : (x : Int) = 0 := by omega
      go_wp2
      go_ret
      exact ⟨by rw [unhide HR]; rfl, unhide HK1⟩
    · have hx0' : ((x : Int) == 0) = false := by rw [beq_eq_false_iff_ne]; omega
      have HX0 := hide hx0
      clear hx0
      go_wp2_with fail
      refine Calls.mono (refOnes_any x _ hx) ?_
      rintro e w2 ⟨rfl, rfl⟩
      obtain ⟨o, ho⟩ : ∃ o, ones x = o := ⟨_, rfl⟩
      rw [ho] at HE ⊢
      clear ho
      by_cases hol : o = ds.length
      · have HR := hide (by rw [unhide HE, if_pos trivial, if_neg (by intro h; rcases h with h | h; exact unhide HX0 h; exact h hol)] : R = 0)
        have hb : ((o : Int) != (ds.length : Int)) = false := by rw [hol]; simp
        have HOL := hide hol
        clear hol
        go_wp2
        go_ret
        exact ⟨by rw [unhide HR]; rfl, unhide HK1⟩
      · have HR := hide (by rw [unhide HE, if_pos trivial, if_pos (Or.inr hol)] : R = 3)
        have hb : ((o : Int) != (ds.length : Int)) = true := by rw [bne_iff_ne]; omega
        have HOL := hide hol
        clear hol
        go_wp2
        go_ret
        exact ⟨by rw [unhide HR]; rfl, unhide HK1⟩
  · have HR := hide (by rw [unhide HE, if_neg hf0] : R = f)
    have hb : ((f : Int) == 0) = false := by rw [beq_eq_false_iff_ne]; omega
    have HF0 := hide hf0
    clear hf0
    go_wp2
    go_ret
    exact ⟨by rw [unhide HR]; rfl, unhide HK1⟩

/-- The first k bytes of each digest, one behind the other. -/
def kidsB (k : Nat) (ds : List (List Nat)) : List Nat := (ds.map fun d => d.take k).flatten
theorem Wn.over {w0 w w' : World} {b : Nat} {v : Value} {bs : List Nat} (h : Wn w0 w b v bs) (k : Kept [] w w') : Wn w0 w' b v bs :=
  ⟨h.at_.kept k (by simp) (by simp), h.new, h.hb, h.kept.trans k (by simp)⟩
def branchB (z : Int) (x : Nat) (ds : List (List Nat)) : List Nat := 4 :: (wide x 2 ++ kidsB z.toNat ds)
theorem kidsB_snoc (k : Nat) (ds : List (List Nat)) (i : Nat) (h : i < ds.length) : kidsB k (ds.take (i + 1)) = kidsB k (ds.take i) ++ (ds.getD i []).take k := by
  unfold kidsB
  rw [List.take_succ_eq_append_getElem h, List.map_append, List.flatten_append, List.getD_eq_getElem?_getD, List.getElem?_eq_getElem h]
  simp
theorem kidsB_len (k : Nat) (ds : List (List Nat)) : (kidsB k ds).length ≤ k * ds.length := by
  induction ds with
  | nil => simp [kidsB]
  | cons d r ih =>
    have e : kidsB k (d :: r) = d.take k ++ kidsB k r := by simp [kidsB]
    rw [e, List.length_append, List.length_cons, Nat.mul_succ, List.length_take]
    omega
theorem ones_le (x : Nat) (h : x < 65536) : ones x ≤ 16 := by
  have l1 : ones (x / 256) ≤ 8 := Lib.onesCount_le8 ⟨x / 256, by omega⟩
  have l2 : ones (x % 256) ≤ 8 := Lib.onesCount_le8 ⟨x % 256, by omega⟩
  rw [ones_split x h]; omega

set_option maxRecDepth 100000 in
set_option maxHeartbeats 1000000 in
theorem branchInput_any (z : Int) (x : Nat) (v : Value) (ds : List (List Nat)) (w : World) (hz : -9223372036854775808 ≤ z ∧ z ≤ 9223372036854775807) (hx : x < 65536) (hv : RdD w v ds) :
    Calls Tryd.prog 36 #[.int .i64 z, .int .u16 x, v] w fun e w' => ∃ v', e = .returned (.tuple #[v', .int .i64 (branchE z x ds)]) ∧ NewB w w' v' (if branchE z x ds = 0 then branchB z x ds else []) ∧ Kept [] w w' := by
  have HV := hide hv
  obtain ⟨ao, len, cap, rfl, h1, h2, h3, h4, h5⟩ := hv
  have H4 := hide h4
  have H5 := hide h5
  clear h4 h5
  subst h1
  have HE := hide (show branchE z x ds = if formedE z ds = 0 then (if x = 0 ∨ ones x ≠ ds.length then 3 else 0) else formedE z ds from rfl)
  have HF := hide (show formedE z ds = if widthB z = false then 1 else if ds.all (formB z) then 0 else 3 from rfl)
  obtain ⟨R, hR⟩ : ∃ R, branchE z x ds = R := ⟨_, rfl⟩
  rw [hR] at HE ⊢
  clear hR
  obtain ⟨B, hB⟩ : ∃ B, (if R = 0 then branchB z x ds else []) = B := ⟨_, rfl⟩
  rw [hB]
  have HBB := hide hB
  clear hB
  go_enter Tryd.func36, Tryd.ntmps36
  go_wp2_with fail
  refine Calls.mono (isWidth_any z _ hz) ?_
  rintro e w1 ⟨rfl, rfl⟩
  cases hw : widthB z with
  | false =>
    have HR := hide (by rw [unhide HE, unhide HF, hw]; simp : R = 1)
    clear hw
    go_wp2
    go_ret2
    refine ⟨_, by rw [unhide HR]; rfl, ?_, Kept.refl _ _⟩
    rw [← unhide HBB, unhide HR]; exact NewB.nil _ _
  | true =>
    rw [hw] at HF
    have HW := hide hw
    clear hw
    by_cases hx0 : x = 0
    · have HR := hide (by rw [unhide HE]; by_cases h9 : formedE z ds = 0; rw [if_pos h9, if_pos (Or.inl hx0)]; rw [if_neg h9]; have h8 := unhide HF; simp at h8; rw [h8] at h9 ⊢; split at h9 <;> simp_all : R = 3)
      have hx0' : ((x : Int) == 0) = true := by rw [beq_iff_eq]; omega
      have HX0 := hide hx0
      clear hx0
      go_wp2
      go_ret2
      refine ⟨_, by rw [unhide HR]; rfl, ?_, Kept.refl _ _⟩
      rw [← unhide HBB, unhide HR]; exact NewB.nil _ _
    · have hx0' : ((x : Int) == 0) = false := by rw [beq_eq_false_iff_ne]; omega
      have HX0 := hide hx0
      clear hx0
      go_wp2_with fail
      have HO16 := hide (ones_le x hx)
      refine Calls.mono (ones16_any x _ hx) ?_
      rintro e w2 ⟨rfl, k2⟩
      have HK2 := hide k2
      clear k2
      obtain ⟨o, ho⟩ : ∃ o, ones x = o := ⟨_, rfl⟩
      rw [ho] at HE HO16 ⊢
      clear ho
      by_cases hol : o = ds.length
      · have hb : ((o : Int) != (ds.length : Int)) = false := by rw [hol]; simp
        have HOL := hide hol
        clear hol
        go_wp2_with fail
        refine Calls.mono (formed_any z _ ds _ hz ((unhide HV).old (unhide HK2))) ?_
        rintro e w3 ⟨rfl, k3⟩
        have HK3 := hide ((unhide HK2).trans k3 (by simp))
        clear k3
        obtain ⟨f, hf⟩ : ∃ f, formedE z ds = f := ⟨_, rfl⟩
        rw [hf] at HE ⊢
        clear hf
        by_cases hf0 : f = 0
        · have HR := hide (by rw [unhide HE, if_pos hf0, if_neg (by intro h; rcases h with h | h; exact unhide HX0 h; exact h (unhide HOL))] : R = 0)
          have hfb : ((f : Int) != 0) = false := by rw [hf0]; rfl
          have HF0 := hide hf0
          clear hf0
          have hwd := width_le (unhide HW)
          obtain ⟨k, rfl⟩ : ∃ k : Nat, z = k := ⟨z.toNat, by omega⟩
          have hk : (k : Int) ≤ 32 := hwd.2
          have hk' : k ≤ 32 := by omega
          have HW0 := hide (Wn.start (unhide HK3))
          go_wp2_with fail
          refine Calls.mono (wn_u8 4 (unhide HW0) (by decide) (by simp)) ?_
          rintro e w4 ⟨rfl, v4, h4⟩
          have HW4 := hide h4
          clear h4 HW0
          go_wp2_with fail
          refine Calls.mono (wn_u16 x (unhide HW4) hx (by simp [wide_len])) ?_
          rintro e w5 ⟨rfl, v5, h5⟩
          rw [show [] ++ wide 4 1 ++ wide x 2 = 4 :: wide x 2 by simp [wide]] at h5
          have HW5 := hide h5
          clear h5 HW4
          go_wp2_with fail
          have HKL := hide (fun i => Nat.le_trans (kidsB_len k (ds.take i)) (Nat.mul_le_mul hk' (by rw [List.length_take]; exact Nat.min_le_right _ _)) : ∀ i, (kidsB k (ds.take i)).length ≤ 32 * ds.length)
          have hdl16 : ds.length ≤ 16 := by have := unhide HO16; have := unhide HOL; omega
          go_loopw [35] (fun t35 wr => ∃ (i : Nat) (v : Value), i ≤ ds.length ∧ t35 = .int .i64 i ∧ Hid (Wn w1 wr w3.heap.size v (4 :: wide x 2 ++ kidsB k (ds.take i)))) (fun t _ => ds.length - (intOf t).toNat)
          case atStart => exact ⟨0, v5, Nat.zero_le _, rfl, by simpa [kidsB] using HW5⟩
          case round =>
            obtain ⟨i, vw, hi, rfl, HWR⟩ := hrel
            by_cases hlt : i < ds.length
            · have hlt' : (i : Int) < ds.length := by omega
              obtain ⟨b, o', rfl, hcell⟩ := unhide H5 (by omega)
              have HD := hide (unhide H4 (ds.getD i []) (by rw [List.getD_eq_getElem?_getD, List.getElem?_eq_getElem hlt]; exact List.getElem_mem hlt))
              have HRG := hide (fun j v hv => (unhide HWR).kept.cell (hcell i hlt j v hv) (by simp) : wr.rangeAt b (o' + i * 32) ((ds.getD i []).map u8))
              have HSN := hide (kidsB_snoc k ds i hlt)
              clear hcell
              obtain ⟨d, hd⟩ : ∃ d, ds.getD i [] = d := ⟨_, rfl⟩
              rw [hd] at HD HRG HSN
              clear hd
              have hdl := (unhide HD).1
              have HSZ := hide (by rw [brow_size, hdl]; exact Tryd.size_dig : (Tryd.prog.info? 26).map (·.size) = some (brow d).size)
              have HNW := hide (setRow_heap (wr.alloc (.cells (zb 32) 26)) wr.heap.size (zb 32) (brow d) 26 (0, 0) (heap_alloc_new _ _))
              have HWN := hide ((unhide HWR).over (((Kept.refl [] wr).alloc (.cells (zb 32) 26)).setRow (g := wr.heap.size) (Or.inr (Nat.le_refl _)) (brow d)))
              go_wp2_with (first
                | (refine wpList_load_mid rfl 26 (.tmp 37) rfl b (o' + i * 32) rfl (d.map u8) _ (unhide HRG) Tryd.underlying26 rfl (by rw [List.length_map, hdl]; exact Tryd.size_dig) ?_)
                | (rw [zb32]; refine wpList_store_row rfl 26 (.tmp 11) _ rfl wr.heap.size (brow d) rfl rfl _ (zb 32) (heap_alloc_new _ _) (unhide HSZ) (by rw [zb_size, brow_size, hdl]) (brow_one _) ?_))
              refine Calls.mono (wn_raw (unhide HWN) (rd_dig (k := k) (range_row (unhide HNW)) hdl (unhide HD).2 hk') (by have h9 := unhide HKL i; simp only [List.length_append, List.length_cons, wide_len, List.length_take]; omega)) ?_
              rintro e w6 ⟨rfl, v6, h6⟩
              rw [List.append_assoc, ← unhide HSN] at h6
              have HW6 := hide h6
              clear h6
              go_wp2
              refine ⟨⟨i + 1, v6, by omega, by go_num, HW6⟩, ?_⟩
              simp [intOf]; omega
            · have hlt' : ¬ (i : Int) < ds.length := by omega
              have hie : i = ds.length := by omega
              subst hie
              have h9 := unhide HKL ds.length
              rw [List.take_length] at HWR h9
              have HK9 := hide h9
              clear h9
              go_wp2_with fail
              refine Calls.mono (wn_bytes (unhide HWR) (by have h9 := unhide HK9; simp only [List.length_append, List.length_cons, wide_len]; omega)) ?_
              rintro e w7 ⟨v7, rfl, h7, k7⟩
              have H7 := hide h7
              have HK7 := hide k7
              clear h7 k7
              go_wp2
              go_ret2
              refine ⟨_, by rw [unhide HR]; rfl, ?_, unhide HK7⟩
              have e9 : B = 4 :: wide x 2 ++ kidsB k ds := by
                rw [← unhide HBB, unhide HR]; rfl
              rw [e9]; exact unhide H7
        · have HR := hide (by rw [unhide HE, if_neg hf0] : R = f)
          have hfb : ((f : Int) != 0) = true := by rw [bne_iff_ne]; omega
          have HF0 := hide hf0
          clear hf0
          go_wp2
          go_ret2
          refine ⟨_, by rw [unhide HR]; rfl, ?_, unhide HK3⟩
          rw [← unhide HBB, unhide HR, if_neg (unhide HF0)]; exact NewB.nil _ _
      · have HR := hide (by rw [unhide HE]; by_cases h9 : formedE z ds = 0; rw [if_pos h9, if_pos (Or.inr hol)]; rw [if_neg h9]; have h8 := unhide HF; simp at h8; rw [h8] at h9 ⊢; split at h9 <;> simp_all : R = 3)
        have hb : ((o : Int) != (ds.length : Int)) = true := by rw [bne_iff_ne]; omega
        have HOL := hide hol
        clear hol
        go_wp2
        go_ret2
        refine ⟨_, by rw [unhide HR]; rfl, ?_, unhide HK2⟩
        rw [← unhide HBB, unhide HR]; exact NewB.nil _ _
end Go.Proofs.YtgnbigijpneebaaDoor
