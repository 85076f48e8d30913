import Derived.Test.YtgnbigijpneebaaDoorBunF
namespace Go.Proofs.YtgnbigijpneebaaDoor
open Go.RowKit Go.BigFrame
set_option linter.unusedVariables false
set_option linter.unusedSimpArgs false

/-- What the check of a branch answers. -/
def branchE (z : Int) (x : Nat) (ds : List (List Nat)) : Nat := if formedE z ds = 0 then (if x = 0 ∨ ones x ≠ ds.length then 3 else 0) else formedE z ds

set_option maxRecDepth 100000 in
set_option maxHeartbeats 1000000 in
theorem refCheckBranch_any (z : Int) (x : Nat) (v : Value) (ds : List (List Nat)) (w : World) (hz : -9223372036854775808 ≤ z ∧ z ≤ 9223372036854775807) (hx : x < 65536) (hv : RdD w v ds) :
    Calls Tryd.prog 41 #[.int .i64 z, .int .u16 x, v] w fun e w' => e = .returned (.int .i64 (branchE z x ds)) ∧ Kept [] w w' := by
  have HV := hide hv
  obtain ⟨ao, len, cap, rfl, h1, h2, h3, _⟩ := hv
  subst h1
  have HE := hide (show branchE z x ds = if formedE z ds = 0 then (if x = 0 ∨ ones x ≠ ds.length then 3 else 0) else formedE z ds from rfl)
  obtain ⟨R, hR⟩ : ∃ R, branchE z x ds = R := ⟨_, rfl⟩
  rw [hR] at HE ⊢
  clear hR
  go_enter Tryd.func41, Tryd.ntmps41
  go_wp2_with fail
  refine Calls.mono (refCheck_any z _ ds _ hz (unhide HV)) ?_
  rintro e w1 ⟨rfl, k1⟩
  have HK1 := hide k1
  clear k1
  obtain ⟨f, hf⟩ : ∃ f, formedE z ds = f := ⟨_, rfl⟩
  rw [hf] at HE ⊢
  clear hf
  by_cases hf0 : f = 0
  · subst hf0
    by_cases hx0 : x = 0
    · have HR := hide (by rw [unhide HE, if_pos rfl, if_pos (Or.inl hx0)] : R = 3)
      have hx0' : (x : Int) = 0 := by omega
      go_wp2
      go_ret
      exact ⟨by rw [unhide HR]; rfl, unhide HK1⟩
    · have hx0' : ((x : Int) == 0) = false := by rw [beq_eq_false_iff_ne]; omega
      have HX0 := hide hx0
      clear hx0
      go_wp2_with fail
      refine Calls.mono (refOnes_any x _ hx) ?_
      rintro e w2 ⟨rfl, rfl⟩
      obtain ⟨o, ho⟩ : ∃ o, ones x = o := ⟨_, rfl⟩
      rw [ho] at HE ⊢
      clear ho
      by_cases hol : o = ds.length
      · have HR := hide (by rw [unhide HE, if_pos trivial, if_neg (by intro h; rcases h with h | h; exact unhide HX0 h; exact h hol)] : R = 0)
        have hb : ((o : Int) != (ds.length : Int)) = false := by rw [hol]; simp
        have HOL := hide hol
        clear hol
        go_wp2
        go_ret
        exact ⟨by rw [unhide HR]; rfl, unhide HK1⟩
      · have HR := hide (by rw [unhide HE, if_pos trivial, if_pos (Or.inr hol)] : R = 3)
        have hb : ((o : Int) != (ds.length : Int)) = true := by rw [bne_iff_ne]; omega
        have HOL := hide hol
        clear hol
        go_wp2
        go_ret
        exact ⟨by rw [unhide HR]; rfl, unhide HK1⟩
  · have HR := hide (by rw [unhide HE, if_neg hf0] : R = f)
    have hb : ((f : Int) == 0) = false := by rw [beq_eq_false_iff_ne]; omega
    have HF0 := hide hf0
    clear hf0
    go_wp2
    go_ret
    exact ⟨by rw [unhide HR]; rfl, unhide HK1⟩

/-- The first k bytes of each digest, one behind the other. -/
def kidsB (k : Nat) (ds : List (List Nat)) : List Nat := (ds.map fun d => d.take k).flatten
theorem Wn.over {w0 w w' : World} {b : Nat} {v : Value} {bs : List Nat} (h : Wn w0 w b v bs) (k : Kept [] w w') : Wn w0 w' b v bs :=
  ⟨h.at_.kept k (by simp) (by simp), h.new, h.hb, h.kept.trans k (by simp)⟩
def branchB (z : Int) (x : Nat) (ds : List (List Nat)) : List Nat := 4 :: (wide x 2 ++ kidsB z.toNat ds)
theorem kidsB_snoc (k : Nat) (ds : List (List Nat)) (i : Nat) (h : i < ds.length) : kidsB k (ds.take (i + 1)) = kidsB k (ds.take i) ++ (ds.getD i []).take k := by
  unfold kidsB
  rw [List.take_succ_eq_append_getElem h, List.map_append, List.flatten_append, List.getD_eq_getElem?_getD, List.getElem?_eq_getElem h]
  simp
theorem kidsB_len (k : Nat) (ds : List (List Nat)) : (kidsB k ds).length ≤ k * ds.length := by
  induction ds with
  | nil => simp [kidsB]
  | cons d r ih =>
    have e : kidsB k (d :: r) = d.take k ++ kidsB k r := by simp [kidsB]
    rw [e, List.length_append, List.length_cons, Nat.mul_succ, List.length_take]
    omega
theorem ones_le (x : Nat) (h : x < 65536) : ones x ≤ 16 := by
  have l1 : ones (x / 256) ≤ 8 := Lib.onesCount_le8 ⟨x / 256, by omega⟩
  have l2 : ones (x % 256) ≤ 8 := Lib.onesCount_le8 ⟨x % 256, by omega⟩
  rw [ones_split x h]; omega

set_option maxRecDepth 100000 in
set_option maxHeartbeats 1000000 in
theorem branchInput_any (z : Int) (x : Nat) (v : Value) (ds : List (List Nat)) (w : World) (hz : -9223372036854775808 ≤ z ∧ z ≤ 9223372036854775807) (hx : x < 65536) (hv : RdD w v ds) :
    Calls Tryd.prog 36 #[.int .i64 z, .int .u16 x, v] w fun e w' => ∃ v', e = .returned (.tuple #[v', .int .i64 (branchE z x ds)]) ∧ NewB w w' v' (if branchE z x ds = 0 then branchB z x ds else []) ∧ Kept [] w w' := by
  have HV := hide hv
  obtain ⟨ao, len, cap, rfl, h1, h2, h3, h4, h5⟩ := hv
  have H4 := hide h4
  have H5 := hide h5
  clear h4 h5
  subst h1
  have HE := hide (show branchE z x ds = if formedE z ds = 0 then (if x = 0 ∨ ones x ≠ ds.length then 3 else 0) else formedE z ds from rfl)
  have HF := hide (show formedE z ds = if widthB z = false then 1 else if ds.all (formB z) then 0 else 3 from rfl)
  obtain ⟨R, hR⟩ : ∃ R, branchE z x ds = R := ⟨_, rfl⟩
  rw [hR] at HE ⊢
  clear hR
  obtain ⟨B, hB⟩ : ∃ B, (if R = 0 then branchB z x ds else []) = B := ⟨_, rfl⟩
  rw [hB]
  have HBB := hide hB
  clear hB
  go_enter Tryd.func36, Tryd.ntmps36
  go_wp2_with fail
  refine Calls.mono (isWidth_any z _ hz) ?_
  rintro e w1 ⟨rfl, rfl⟩
  cases hw : widthB z with
  | false =>
    have HR := hide (by rw [unhide HE, unhide HF, hw]; simp : R = 1)
    clear hw
    go_wp2
    go_ret2
    refine ⟨_, by rw [unhide HR]; rfl, ?_, Kept.refl _ _⟩
    rw [← unhide HBB, unhide HR]; exact NewB.nil _ _
  | true =>
    rw [hw] at HF
    have HW := hide hw
    clear hw
    by_cases hx0 : x = 0
    · have HR := hide (by rw [unhide HE]; by_cases h9 : formedE z ds = 0; rw [if_pos h9, if_pos (Or.inl hx0)]; rw [if_neg h9]; have h8 := unhide HF; simp at h8; rw [h8] at h9 ⊢; split at h9 <;> simp_all : R = 3)
      have hx0' : ((x : Int) == 0) = true := by rw [beq_iff_eq]; omega
      have HX0 := hide hx0
      clear hx0
      go_wp2
      go_ret2
      refine ⟨_, by rw [unhide HR]; rfl, ?_, Kept.refl _ _⟩
      rw [← unhide HBB, unhide HR]; exact NewB.nil _ _
    · have hx0' : ((x : Int) == 0) = false := by rw [beq_eq_false_iff_ne]; omega
      have HX0 := hide hx0
      clear hx0
      go_wp2_with fail
      have HO16 := hide (ones_le x hx)
      refine Calls.mono (ones16_any x _ hx) ?_
      rintro e w2 ⟨rfl, k2⟩
      have HK2 := hide k2
      clear k2
      obtain ⟨o, ho⟩ : ∃ o, ones x = o := ⟨_, rfl⟩
      rw [ho] at HE HO16 ⊢
      clear ho
      by_cases hol : o = ds.length
      · have hb : ((o : Int) != (ds.length : Int)) = false := by rw [hol]; simp
        have HOL := hide hol
        clear hol
        go_wp2_with fail
        refine Calls.mono (formed_any z _ ds _ hz ((unhide HV).old (unhide HK2))) ?_
        rintro e w3 ⟨rfl, k3⟩
        have HK3 := hide ((unhide HK2).trans k3 (by simp))
        clear k3
        obtain ⟨f, hf⟩ : ∃ f, formedE z ds = f := ⟨_, rfl⟩
        rw [hf] at HE ⊢
        clear hf
        by_cases hf0 : f = 0
        · have HR := hide (by rw [unhide HE, if_pos hf0, if_neg (by intro h; rcases h with h | h; exact unhide HX0 h; exact h (unhide HOL))] : R = 0)
          have hfb : ((f : Int) != 0) = false := by rw [hf0]; rfl
          have HF0 := hide hf0
          clear hf0
          have hwd := width_le (unhide HW)
          obtain ⟨k, rfl⟩ : ∃ k : Nat, z = k := ⟨z.toNat, by omega⟩
          have hk : (k : Int) ≤ 32 := hwd.2
          have hk' : k ≤ 32 := by omega
          have HW0 := hide (Wn.start (unhide HK3))
          go_wp2_with fail
          refine Calls.mono (wn_u8 4 (unhide HW0) (by decide) (by simp)) ?_
          rintro e w4 ⟨rfl, v4, h4⟩
          have HW4 := hide h4
          clear h4 HW0
          go_wp2_with fail
          refine Calls.mono (wn_u16 x (unhide HW4) hx (by simp [wide_len])) ?_
          rintro e w5 ⟨rfl, v5, h5⟩
          rw [show [] ++ wide 4 1 ++ wide x 2 = 4 :: wide x 2 by simp [wide]] at h5
          have HW5 := hide h5
          clear h5 HW4
          go_wp2_with fail
          have HKL := hide (fun i => Nat.le_trans (kidsB_len k (ds.take i)) (Nat.mul_le_mul hk' (by rw [List.length_take]; exact Nat.min_le_right _ _)) : ∀ i, (kidsB k (ds.take i)).length ≤ 32 * ds.length)
          have hdl16 : ds.length ≤ 16 := by have := unhide HO16; have := unhide HOL; omega
          go_loopw [35] (fun t35 wr => ∃ (i : Nat) (v : Value), i ≤ ds.length ∧ t35 = .int .i64 i ∧ Hid (Wn w1 wr w3.heap.size v (4 :: wide x 2 ++ kidsB k (ds.take i)))) (fun t _ => ds.length - (intOf t).toNat)
          case atStart => exact ⟨0, v5, Nat.zero_le _, rfl, by simpa [kidsB] using HW5⟩
          case round =>
            obtain ⟨i, vw, hi, rfl, HWR⟩ := hrel
            by_cases hlt : i < ds.length
            · have hlt' : (i : Int) < ds.length := by omega
              obtain ⟨b, o', rfl, hcell⟩ := unhide H5 (by omega)
              have HD := hide (unhide H4 (ds.getD i []) (by rw [List.getD_eq_getElem?_getD, List.getElem?_eq_getElem hlt]; exact List.getElem_mem hlt))
              have HRG := hide (fun j v hv => (unhide HWR).kept.cell (hcell i hlt j v hv) (by simp) : wr.rangeAt b (o' + i * 32) ((ds.getD i []).map u8))
              have HSN := hide (kidsB_snoc k ds i hlt)
              clear hcell
              obtain ⟨d, hd⟩ : ∃ d, ds.getD i [] = d := ⟨_, rfl⟩
              rw [hd] at HD HRG HSN
              clear hd
              have hdl := (unhide HD).1
              have HSZ := hide (by rw [brow_size, hdl]; exact Tryd.size_dig : (Tryd.prog.info? 26).map (·.size) = some (brow d).size)
              have HNW := hide (setRow_heap (wr.alloc (.cells (zb 32) 26)) wr.heap.size (zb 32) (brow d) 26 (0, 0) (heap_alloc_new _ _))
              have HWN := hide ((unhide HWR).over (((Kept.refl [] wr).alloc (.cells (zb 32) 26)).setRow (g := wr.heap.size) (Or.inr (Nat.le_refl _)) (brow d)))
              go_wp2_with (first
                | (refine wpList_load_mid rfl 26 (.tmp 37) rfl b (o' + i * 32) rfl (d.map u8) _ (unhide HRG) Tryd.underlying26 rfl (by rw [List.length_map, hdl]; exact Tryd.size_dig) ?_)
                | (rw [zb32]; refine wpList_store_row rfl 26 (.tmp 11) _ rfl wr.heap.size (brow d) rfl rfl _ (zb 32) (heap_alloc_new _ _) (unhide HSZ) (by rw [zb_size, brow_size, hdl]) (brow_one _) ?_))
              refine Calls.mono (wn_raw (unhide HWN) (rd_dig (k := k) (range_row (unhide HNW)) hdl (unhide HD).2 hk') (by have h9 := unhide HKL i; simp only [List.length_append, List.length_cons, wide_len, List.length_take]; omega)) ?_
              rintro e w6 ⟨rfl, v6, h6⟩
              rw [List.append_assoc, ← unhide HSN] at h6
              have HW6 := hide h6
              clear h6
              go_wp2
              refine ⟨⟨i + 1, v6, by omega, by go_num, HW6⟩, ?_⟩
              simp [intOf]; omega
            · have hlt' : ¬ (i : Int) < ds.length := by omega
              have hie : i = ds.length := by omega
              subst hie
              have h9 := unhide HKL ds.length
              rw [List.take_length] at HWR h9
              have HK9 := hide h9
              clear h9
              go_wp2_with fail
              refine Calls.mono (wn_bytes (unhide HWR) (by have h9 := unhide HK9; simp only [List.length_append, List.length_cons, wide_len]; omega)) ?_
              rintro e w7 ⟨v7, rfl, h7, k7⟩
              have H7 := hide h7
              have HK7 := hide k7
              clear h7 k7
              go_wp2
              go_ret2
              refine ⟨_, by rw [unhide HR]; rfl, ?_, unhide HK7⟩
              have e9 : B = 4 :: wide x 2 ++ kidsB k ds := by
                rw [← unhide HBB, unhide HR]; rfl
              rw [e9]; exact unhide H7
        · have HR := hide (by rw [unhide HE, if_neg hf0] : R = f)
          have hfb : ((f : Int) != 0) = true := by rw [bne_iff_ne]; omega
          have HF0 := hide hf0
          clear hf0
          go_wp2
          go_ret2
          refine ⟨_, by rw [unhide HR]; rfl, ?_, unhide HK3⟩
          rw [← unhide HBB, unhide HR, if_neg (unhide HF0)]; exact NewB.nil _ _
      · have HR := hide (by rw [unhide HE]; by_cases h9 : formedE z ds = 0; rw [if_pos h9, if_pos (Or.inr hol)]; rw [if_neg h9]; have h8 := unhide HF; simp at h8; rw [h8] at h9 ⊢; split at h9 <;> simp_all : R = 3)
        have hb : ((o : Int) != (ds.length : Int)) = true := by rw [bne_iff_ne]; omega
        have HOL := hide hol
        clear hol
        go_wp2
        go_ret2
        refine ⟨_, by rw [unhide HR]; rfl, ?_, unhide HK2⟩
        rw [← unhide HBB, unhide HR]; exact NewB.nil _ _
end Go.Proofs.YtgnbigijpneebaaDoor
namespace Go.Proofs.YtgnbigijpneebaaDoor
open Go.RowKit Go.BigFrame
set_option linter.unusedVariables false
set_option linter.unusedSimpArgs false

set_option maxRecDepth 100000 in
set_option maxHeartbeats 1000000 in
theorem refBranchInput_any (k : Nat) (x : Nat) (v : Value) (ds : List (List Nat)) (w : World) (hk' : k ≤ 32) (hx : x < 65536) (hv : RdD w v ds) (hn : ds.length ≤ 16) :
    Calls Tryd.prog 43 #[.int .i64 k, .int .u16 x, v] w fun e w' => ∃ v', e = .returned v' ∧ Rd w' v' (branchB k x ds) ∧ Kept [] w w' := by
  obtain ⟨ao, len, cap, rfl, h1, h2, h3, h4, h5⟩ := hv
  have H4 := hide h4
  have H5 := hide h5
  clear h4 h5
  subst h1
  have hk : (k : Int) ≤ 32 := by omega
  have HKL := hide (fun i => Nat.le_trans (kidsB_len k (ds.take i)) (Nat.mul_le_mul hk' (by rw [List.length_take]; exact Nat.min_le_right _ _)) : ∀ i, (kidsB k (ds.take i)).length ≤ 32 * ds.length)
  go_enter Tryd.func43, Tryd.ntmps43
  go_wp2_with fail
  refine Calls.mono (refWide_any x 2 _ (by omega) (by decide)) ?_
  rintro e w1 ⟨rfl, k1, g1⟩
  have HR1 := hide (rd_fresh g1 (wide_byte x 2) (by simp [wide_len]))
  rw [wide_len, show (w.alloc (.cells #[.int .u8 4] 5)).heap.size = w.heap.size + 1 from Array.size_push _] at HR1
  have k01 := ((Kept.refl [] w).alloc _).trans k1 (by simp)
  have HK1 := hide k01
  have HR0 := hide ((rd_lit1 [4] (heap_alloc_new w (.cells #[.int .u8 4] 5)) rfl (by decide) 1 rfl (by decide)).old k1 (by simp))
  clear g1 k1 k01
  go_wp2_with fail
  refine Calls.mono (join_own _ _ [4] (wide x 2) _ (unhide HR0) (unhide HR1) (by simp [wide_len])) ?_
  rintro e w2 ⟨v2, rfl, o2, k2⟩
  have HO2 := hide o2
  have HS2 := hide ((unhide HK1).size)
  have HK2 := hide ((unhide HK1).trans k2 (by simp))
  obtain ⟨ao2, cap2, hu2⟩ := owns_shape o2
  subst hu2
  have hzz := k2.size
  clear o2 k2
  obtain ⟨B0, hB0⟩ : ∃ B0, w1.heap.size = B0 := ⟨_, rfl⟩
  rw [hB0] at HO2 HS2 hzz
  clear hB0
  go_wp2_with fail
  go_loopw [7, 17] (fun t7 t17 wr => ∃ (i : Nat) (cur : List Nat) (ao : Option Addr) (cap : Nat), i ≤ ds.length ∧ t17 = .int .i64 i ∧ t7 = .slice ao cur.length cap ∧ Hid (cur = 4 :: wide x 2 ++ kidsB k (ds.take i)) ∧ Hid (wr.ownsRow B0 5 1 (.slice ao cur.length cap) cur.length (cur.map u8)) ∧ Hid (∀ z ∈ cur, z < 256) ∧ Hid (Kept [] w wr) ∧ B0 ≤ wr.heap.size) (fun _ t _ => ds.length - (intOf t).toNat)
  case atStart => exact ⟨0, [4] ++ wide x 2, ao2, cap2, Nat.zero_le _, rfl, by simp, hide (by simp [kidsB]), hide (by simpa using unhide HO2), hide (by intro z hz; rcases List.mem_append.1 hz with h | h; simp at h; omega; exact wide_byte _ _ z h), HK2, hzz⟩
  case round =>
    obtain ⟨i, cur, aoc, capc, hi, rfl, rfl, HCUR, HO, HCB, HK, hb0⟩ := hrel
    have HCL := hide (by have h9 := unhide HKL i; rw [unhide HCUR]; simp only [List.length_append, List.length_cons, wide_len]; omega : cur.length ≤ 1000)
    by_cases hlt : i < ds.length
    · have hlt' : (i : Int) < ds.length := by omega
      obtain ⟨b, o', rfl, hcell⟩ := unhide H5 (by omega)
      have HD := hide (unhide H4 (ds.getD i []) (by rw [List.getD_eq_getElem?_getD, List.getElem?_eq_getElem hlt]; exact List.getElem_mem hlt))
      have HRG := hide (fun j v hv => (unhide HK).cell (hcell i hlt j v hv) (by simp) : wr.rangeAt b (o' + i * 32) ((ds.getD i []).map u8))
      have HSN := hide (kidsB_snoc k ds i hlt)
      clear hcell
      obtain ⟨d, hd⟩ : ∃ d, ds.getD i [] = d := ⟨_, rfl⟩
      rw [hd] at HD HRG HSN
      clear hd
      have hdl := (unhide HD).1
      have HSZ := hide (by rw [brow_size, hdl]; exact Tryd.size_dig : (Tryd.prog.info? 26).map (·.size) = some (brow d).size)
      have k1 := (((Kept.refl [] wr).alloc (.cells (zb 32) 26)).setRow (g := wr.heap.size) (Or.inr (Nat.le_refl _)) (brow d))
      have HNW := hide (rd_dig (k := k) (range_row (setRow_heap (wr.alloc (.cells (zb 32) 26)) wr.heap.size (zb 32) (brow d) 26 (0, 0) (heap_alloc_new _ _))) hdl (unhide HD).2 hk')
      have HOW := hide (k1.owns (unhide HO) (by simp))
      have HKW := hide ((unhide HK).trans k1 (by simp))
      have hbW := Nat.le_trans hb0 k1.size
      clear k1
      have htl : (d.take k).length = k := by rw [List.length_take, hdl]; omega
      go_wp2_with (first
        | (refine wpList_load_mid rfl 26 (.tmp 19) rfl b (o' + i * 32) rfl (d.map u8) _ (unhide HRG) Tryd.underlying26 rfl (by rw [List.length_map, hdl]; exact Tryd.size_dig) ?_)
        | (rw [zb32]; refine wpList_store_row rfl 26 (.tmp 9) _ rfl wr.heap.size (brow d) rfl rfl _ (zb 32) (heap_alloc_new _ _) (unhide HSZ) (by rw [zb_size, brow_size, hdl]) (brow_one _) ?_)
        | (at_builtin; go_must (refine wpList_appendAll rfl _ _ rfl rfl _ B0 (.slice aoc cur.length capc) cur (d.take k) _ _ _ (by exact unhide HOW) (by exact unhide HNW) (by have := unhide HCL; rw [htl]; omega) hbW rfl rfl ?_; intro ao6 cap6 w6 HO6 HG6 HA6; have HK6 := hide ((unhide HKW).grown (unhide HG6) (by intro g hg; right; have := ((unhide HO).lt g hg).1; have := unhide HS2; omega)); have hb7 := (unhide HG6).size)))
      refine ⟨⟨i + 1, cur ++ d.take k, ao6, cap6, by omega, by go_num, by simp only [List.length_append, htl], hide (by rw [unhide HSN, unhide HCUR]; simp only [List.append_assoc]), hide (by have h5 := unhide HO6; rw [← List.length_append] at h5; exact h5), hide (by intro z hz; rcases List.mem_append.1 hz with h | h; exact unhide HCB z h; exact (unhide HD).2 z (List.mem_of_mem_take h)), HK6, Nat.le_trans hbW hb7⟩, ?_⟩
      simp [intOf]; omega
    · have hlt' : ¬ (i : Int) < ds.length := by omega
      have hie : i = ds.length := by omega
      subst hie
      rw [List.take_length] at HCUR
      go_wp2_with fail
      go_ret
      refine ⟨_, rfl, ?_, unhide HK⟩
      have h5 := rd_owns (unhide HO) (unhide HCB) (by have := unhide HCL; omega)
      rw [show branchB k x ds = cur from by rw [unhide HCUR]; rfl]
      exact h5
end Go.Proofs.YtgnbigijpneebaaDoor
namespace Go.Proofs.YtgnbigijpneebaaDoor
open Go.RowKit Go.BigFrame
set_option linter.unusedVariables false
set_option linter.unusedSimpArgs false

set_option maxRecDepth 100000 in
set_option maxHeartbeats 1000000 in
theorem refRootInput_any (k : Nat) (s : Nat) (l m : List Nat) (w : World) (hk : 1 ≤ k ∧ k ≤ 32) (hs : s < 18446744073709551616) (hl : l.length = 32) (hm : m.length = 32) (hlb : ∀ x ∈ l, x < 256) (hmb : ∀ x ∈ m, x < 256) :
    Calls Tryd.prog 44 #[.int .i64 k, .agg (rootC s l m).toArray] w fun e w' => ∃ v, e = .returned v ∧ Rd w' v (rootB k s l m) ∧ Kept [] w w' := by
  have HB := hide hlb
  have HB2 := hide hmb
  clear hlb hmb
  go_enter Tryd.func44, Tryd.ntmps44
  have HR := hide (range_left (w.alloc (.cells (rootC s l m).toArray 32)) w.heap.size (l.map u8) (m.map u8) 32 (0, 0) _ (heap_alloc_new w (.cells (rootC s l m).toArray 32)))
  rw [List.length_map, hl] at HR
  have hk' : (k : Int) ≤ 32 := by omega
  have HK0 := hide ((Kept.refl [] w).alloc (.cells (rootC s l m).toArray 32))
  have hc0 : (w.alloc (.cells (rootC s l m).toArray 32)).cell? ⟨w.heap.size, 0, none⟩ = some (.int .u64 (s : Int)) := by rw [cell_of_row _ _ _ _ _ _ (heap_alloc_new w (.cells (rootC s l m).toArray 32))]; rfl
  go_wp2_with fail
  obtain ⟨W, hW⟩ : ∃ W, w.alloc (.cells (rootC s l m).toArray 32) = W := ⟨_, rfl⟩
  rw [hW] at HR HK0 hc0 ⊢
  clear hW
  have HA := hide (rd_dig (k := k) (unhide HR).1 hl (unhide HB) (by omega))
  have HC := hide (rd_dig (k := k) (unhide HR).2 hm (unhide HB2) (by omega))
  have HTL := hide (by simp [hl]; omega : (l.take k).length + (m.take k).length ≤ 64)
  have HC0 := hide (show W.drew.cell? ⟨w.heap.size, 0, none⟩ = some (.int .u64 (s : Int)) from hc0)
  have HC1 := hide (((Kept.refl [] W).alloc (.cells #[.int .u8 6] 5)).drew.cell hc0 (by simp))
  go_region_held3 (fun w' => w'.cell? ⟨w.heap.size, 0, none⟩ = some (.int .u64 (s : Int))) (go_keep) (first
    | (go_at_call 85; refine (refWide_any s 8 _ hs (by decide)).mono ?_; rintro e w3 ⟨rfl, k3, g3⟩; have HR3 := hide (rd_fresh g3 (wide_byte s 8) (by simp [wide_len])); rw [wide_len] at HR3; (try (rw [show (W.alloc (.cells #[.int .u8 6] 5)).drew.heap.size = W.heap.size + 1 from Array.size_push _] at HR3)); (try (have HL1 := hide ((rd_lit1 [6] (show (W.alloc (.cells #[.int .u8 6] 5)).drew.heap[W.heap.size]? = _ from heap_alloc_new W _) rfl (by decide) 1 rfl (by decide)).old k3 (by simp)))); first | (have c3 := k3.cell (unhide HC1) (by simp); have K3 := ((Kept.refl [] W).alloc _).drew.trans k3 (by simp); have HK3 := hide K3; have HA3 := hide ((unhide HA).old K3 (by simp)); have HB3 := hide ((unhide HC).old K3 (by simp)); clear k3 g3 K3) | (have c3 := k3.cell (unhide HC0) (by simp); have K3 := (Kept.refl [] W).drew.trans k3 (by simp); have HK3 := hide K3; have HA3 := hide ((unhide HA).old K3 (by simp)); have HB3 := hide ((unhide HC).old K3 (by simp)); clear k3 g3 K3))
    | (go_at_call 80; refine (join_any _ _ [6] (wide s 8) _ (by exact unhide HL1) (by exact unhide HR3) (by simp [wide_len])).mono ?_; rintro e w4 ⟨v4, rfl, r4, k4, _⟩; have c4 := k4.cell c3 (by simp); have HR4 := hide r4; have HK4 := hide ((unhide HK3).trans k4 (by simp)); have HA4 := hide ((unhide HA3).old k4 (by simp)); have HB4 := hide ((unhide HB3).old k4 (by simp)); clear r4 k4)
    | (go_at_call 80; refine (join_any _ _ [6] (wide s 8) _ (by exact rd_lit1 [6] (heap_alloc_new w3 _) rfl (by decide) 1 rfl (by decide)) (by exact (unhide HR3).old ((Kept.refl [] w3).alloc _) (by simp)) (by simp [wide_len])).mono ?_; rintro e w4 ⟨v4, rfl, r4, k4', _⟩; have k4 := ((Kept.refl [] w3).alloc _).trans k4' (by simp); have c4 := k4.cell c3 (by simp); have HR4 := hide r4; have HK4 := hide ((unhide HK3).trans k4 (by simp)); have HA4 := hide ((unhide HA3).old k4 (by simp)); have HB4 := hide ((unhide HB3).old k4 (by simp)); clear r4 k4 k4')
    | (go_at_call 80; refine (join_any _ _ (l.take k) (m.take k) _ (by exact unhide HA4) (by exact unhide HB4) (by have := unhide HTL; omega)).mono ?_; rintro e w5 ⟨v5, rfl, r5, k5, _⟩; have c5 := k5.cell c4 (by simp); have HR5 := hide r5; have HK5 := hide ((unhide HK4).trans k5 (by simp)); have HL5 := hide ((unhide HR4).old k5 (by simp)); clear r5 k5)
    | (go_at_call 80; refine (join_any _ _ ([6] ++ wide s 8) (l.take k ++ m.take k) _ (by exact unhide HL5) (by exact unhide HR5) (by have := unhide HTL; simp only [List.length_append, List.length_cons, List.length_nil, wide_len]; omega)).mono ?_; rintro e w6 ⟨v6, rfl, r6, k6, _⟩; have c6 := k6.cell c5 (by simp); have HR6 := hide r6; have HK6 := hide ((unhide HK0).trans ((unhide HK5).trans k6 (by simp)) (by simp)); clear r6 k6))
  all_goals
    go_wp2
    go_ret
    exact ⟨_, rfl, by simpa [rootB] using unhide HR6, unhide HK6⟩
end Go.Proofs.YtgnbigijpneebaaDoor
namespace Go.Proofs.YtgnbigijpneebaaDoor
open Go.RowKit Go.BigFrame
set_option linter.unusedVariables false
set_option linter.unusedSimpArgs false

/-- An Op: its kind, width, bytes, two digests, pairs, bitmap, digests, root. -/
structure OpD where
  kd : Int
  z : Int
  p : List Nat
  l : List Nat
  r : List Nat
  ps : List (List Nat × List Nat)
  x : Nat
  ds : List (List Nat)
  s : Nat
  lg : List Nat
  mp : List Nat
def opC (o : OpD) (pv kv dv : Value) : List Value := [.int .i64 o.kd, .int .i64 o.z, pv] ++ (o.l.map u8 ++ (o.r.map u8 ++ ([kv, .int .u16 (o.x : Int), dv] ++ (rootC o.s o.lg o.mp ++ []))))
structure OkD (w : World) (o : OpD) (pv kv dv : Value) : Prop where
  kd : -9223372036854775808 ≤ o.kd ∧ o.kd ≤ 9223372036854775807
  z : -9223372036854775808 ≤ o.z ∧ o.z ≤ 9223372036854775807
  p : Rd w pv o.p
  pl : o.p.length ≤ 1000000000000
  l : o.l.length = 32 ∧ ∀ x ∈ o.l, x < 256
  r : o.r.length = 32 ∧ ∀ x ∈ o.r, x < 256
  ps : RdK w kv o.ps
  psl : (pairB o.ps).length ≤ 1000000000000
  x : o.x < 65536
  ds : RdD w dv o.ds
  s : o.s < 18446744073709551616
  lg : o.lg.length = 32 ∧ ∀ x ∈ o.lg, x < 256
  mp : o.mp.length = 32 ∧ ∀ x ∈ o.mp, x < 256
theorem OkD.old {w w' : World} {o : OpD} {pv kv dv : Value} (h : OkD w o pv kv dv) (k : Kept [] w w') : OkD w' o pv kv dv :=
  ⟨h.kd, h.z, h.p.old k (by simp), h.pl, h.l, h.r, h.ps.old k, h.psl, h.x, h.ds.old k, h.s, h.lg, h.mp⟩
theorem row_mid {w : World} {g n : Nat} {t : TypeId} {fr : Nat × Nat} (a b c : List Value) (h : w.heap[g]? = some (.cells (a ++ (b ++ c)).toArray t fr)) (hn : a.length = n) : w.rangeAt g n b := by
  subst hn
  intro j v hv
  have hj := (List.getElem?_eq_some_iff.1 hv).1
  rw [cell_of_row w g _ _ t fr h, List.getElem?_toArray, List.getElem?_append_right (by omega), Nat.add_sub_cancel_left, List.getElem?_append_left hj, hv]
theorem op_cells {w : World} {g : Nat} {t : TypeId} {fr : Nat × Nat} {o : OpD} {pv kv dv : Value} (h : w.heap[g]? = some (.cells (opC o pv kv dv).toArray t fr)) (hl : o.l.length = 32) (hr : o.r.length = 32) :
    (w.cell? ⟨g, 0, none⟩ = some (.int .i64 o.kd) ∧ w.cell? ⟨g, 1, none⟩ = some (.int .i64 o.z) ∧ w.cell? ⟨g, 2, none⟩ = some pv) ∧ w.rangeAt g 3 (o.l.map u8) ∧ w.rangeAt g 35 (o.r.map u8) ∧
    (w.cell? ⟨g, 67, none⟩ = some kv ∧ w.cell? ⟨g, 68, none⟩ = some (.int .u16 (o.x : Int)) ∧ w.cell? ⟨g, 69, none⟩ = some dv) ∧ w.rangeAt g 70 (rootC o.s o.lg o.mp) := by
  unfold opC at h
  have h3 := row_mid (n := 3) _ _ _ h rfl
  have h35 := row_mid (n := 35) ([.int .i64 o.kd, .int .i64 o.z, pv] ++ o.l.map u8) _ _ (by simpa using h) (by simp [hl])
  have h67 := row_mid (n := 67) ([.int .i64 o.kd, .int .i64 o.z, pv] ++ o.l.map u8 ++ o.r.map u8) [kv, .int .u16 (o.x : Int), dv] _ (by simpa using h) (by simp [hl, hr])
  have h70 := row_mid (n := 70) ([.int .i64 o.kd, .int .i64 o.z, pv] ++ o.l.map u8 ++ o.r.map u8 ++ [kv, .int .u16 (o.x : Int), dv]) (rootC o.s o.lg o.mp) [] (by simpa using h) (by simp [hl, hr])
  have c : ∀ j v, ([.int .i64 o.kd, .int .i64 o.z, pv] : List Value)[j]? = some v → w.cell? ⟨g, j, none⟩ = some v := by
    intro j v hv
    rw [cell_of_row w g _ _ t fr h, List.getElem?_toArray, List.getElem?_append_left (List.getElem?_eq_some_iff.1 hv).1, hv]
  exact ⟨⟨c 0 _ rfl, c 1 _ rfl, c 2 _ rfl⟩, h3, h35, ⟨h67 0 _ rfl, h67 1 _ rfl, h67 2 _ rfl⟩, h70⟩
def inE (o : OpD) : Nat := if o.kd = 2 then formedE o.z [o.l, o.r] else if o.kd = 5 then branchE o.z o.x o.ds else if o.kd = 1 ∨ o.kd = 3 ∨ o.kd = 4 then 0 else formedE o.z [o.lg, o.mp]
def inB (o : OpD) : List Nat := if o.kd = 1 then 0 :: o.p else if o.kd = 2 then nodeB o.z o.l o.r else if o.kd = 3 then 2 :: o.p else if o.kd = 4 then buckB o.ps else if o.kd = 5 then branchB o.z o.x o.ds else rootB o.z o.s o.lg o.mp

set_option maxRecDepth 100000 in
set_option maxHeartbeats 2000000 in
theorem input_any (o : OpD) (pv kv dv : Value) (w : World) (h : OkD w o pv kv dv) (hk : 1 ≤ o.kd ∧ o.kd ≤ 6) :
    Calls Tryd.prog 11 #[.agg (opC o pv kv dv).toArray] w fun e w' => ∃ v, e = .returned (.tuple #[v, .int .i64 (inE o)]) ∧ NewB w w' v (if inE o = 0 then inB o else []) ∧ Kept [] w w' := by
  have H := hide h
  have HG := hide (heap_alloc_new w (.cells (opC o pv kv dv).toArray 34))
  obtain ⟨⟨c0, c1, c2⟩, r3, r35, ⟨c67, c68, c69⟩, r70⟩ := op_cells (unhide HG) h.l.1 h.r.1
  have HK0 := hide ((Kept.refl [] w).alloc (.cells (opC o pv kv dv).toArray 34))
  have HH := hide (h.old (unhide HK0))
  have R3 := hide r3
  have R35 := hide r35
  have R70 := hide r70
  clear r3 r35 r70 h
  have SD := hide Tryd.size_dig
  have HSL := hide (by rw [List.length_map, (unhide H).l.1]; exact Tryd.size_dig : (Tryd.prog.info? 26).map (·.size) = some (o.l.map u8).length)
  have HSR := hide (by rw [List.length_map, (unhide H).r.1]; exact Tryd.size_dig : (Tryd.prog.info? 26).map (·.size) = some (o.r.map u8).length)
  have HSO := hide (by rw [show (rootC o.s o.lg o.mp).length = 65 by simp [rootC, (unhide H).lg.1, (unhide H).mp.1]]; kernel_rfl : (Tryd.prog.info? 32).map (·.size) = some (rootC o.s o.lg o.mp).length)
  have HZ := hide (unhide H).z
  obtain ⟨E, hE⟩ : ∃ E, inE o = E := ⟨_, rfl⟩
  have HE := hide hE
  rw [hE]
  clear hE
  obtain ⟨B, hB⟩ : ∃ B, (if E = 0 then inB o else []) = B := ⟨_, rfl⟩
  have HB := hide hB
  rw [hB]
  clear hB
  go_enter Tryd.func11, Tryd.ntmps11
  clear HG
  rcases (by omega : o.kd = 1 ∨ o.kd = 2 ∨ o.kd = 3 ∨ o.kd = 4 ∨ o.kd = 5 ∨ o.kd = 6) with hkd | hkd | hkd | hkd | hkd | hkd
  · rw [hkd] at c0
    have HE2 := hide (by rw [← unhide HE]; simp [inE, hkd] : E = 0)
    have HB2 := hide (by rw [← unhide HB, unhide HE2]; simp [inB, hkd] : B = 0 :: o.p)
    clear hkd hk
    go_wp2_with fail
    refine Calls.mono (leafInput_any _ o.p _ (unhide HH).p (by have := (unhide H).pl; omega)) ?_
    rintro e w1 ⟨v1, rfl, n1, k1⟩
    have HN1 := hide (n1.weak (unhide HK0).size)
    have HK1 := hide ((unhide HK0).trans k1 (by simp))
    clear n1 k1
    go_wp2
    go_ret2
    exact ⟨_, by rw [unhide HE2]; rfl, by rw [unhide HB2]; exact unhide HN1, unhide HK1⟩
  · rw [hkd] at c0
    have HE2 := hide (by rw [← unhide HE]; simp [inE, hkd] : E = formedE o.z [o.l, o.r])
    have HB2 := hide (by rw [← unhide HB]; simp [inB, hkd] : B = if E = 0 then nodeB o.z o.l o.r else [])
    clear hkd hk
    go_wp2_with (first
      | (refine wpList_load_mid rfl 26 _ rfl w.heap.size 3 rfl (o.l.map u8) _ (unhide R3) Tryd.underlying26 rfl (unhide HSL) ?_)
      | (refine wpList_load_mid rfl 26 _ rfl w.heap.size 35 rfl (o.r.map u8) _ (unhide R35) Tryd.underlying26 rfl (unhide HSR) ?_))
    refine Calls.mono (nodeInput_any o.z o.l o.r _ (unhide HZ) (unhide H).l.1 (unhide H).r.1 (unhide H).l.2 (unhide H).r.2) ?_
    rintro e w1 ⟨v1, rfl, n1, k1⟩
    rw [← unhide HE2] at n1 ⊢
    rw [← unhide HB2] at n1
    have HN1 := hide (n1.weak (unhide HK0).size)
    have HK1 := hide ((unhide HK0).trans k1 (by simp))
    clear n1 k1
    go_wp2
    go_ret2
    exact ⟨_, rfl, unhide HN1, unhide HK1⟩
  · rw [hkd] at c0
    have HE2 := hide (by rw [← unhide HE]; simp [inE, hkd] : E = 0)
    have HB2 := hide (by rw [← unhide HB, unhide HE2]; simp [inB, hkd] : B = 2 :: o.p)
    clear hkd hk
    go_wp2_with fail
    refine Calls.mono (keyInput_any _ o.p _ (unhide HH).p (by have := (unhide H).pl; omega)) ?_
    rintro e w1 ⟨v1, rfl, n1, k1⟩
    have HN1 := hide (n1.weak (unhide HK0).size)
    have HK1 := hide ((unhide HK0).trans k1 (by simp))
    clear n1 k1
    go_wp2
    go_ret2
    exact ⟨_, by rw [unhide HE2]; rfl, by rw [unhide HB2]; exact unhide HN1, unhide HK1⟩
  · rw [hkd] at c0
    have HE2 := hide (by rw [← unhide HE]; simp [inE, hkd] : E = 0)
    have HB2 := hide (by rw [← unhide HB, unhide HE2]; simp [inB, hkd] : B = buckB o.ps)
    clear hkd hk
    go_wp2_with fail
    refine Calls.mono (bucketInput_any _ o.ps _ (unhide HH).ps (unhide H).psl) ?_
    rintro e w1 ⟨v1, rfl, n1, k1⟩
    have HN1 := hide (n1.weak (unhide HK0).size)
    have HK1 := hide ((unhide HK0).trans k1 (by simp))
    clear n1 k1
    go_wp2
    go_ret2
    exact ⟨_, by rw [unhide HE2]; rfl, by rw [unhide HB2]; exact unhide HN1, unhide HK1⟩
  · rw [hkd] at c0
    have HE2 := hide (by rw [← unhide HE]; simp [inE, hkd] : E = branchE o.z o.x o.ds)
    have HB2 := hide (by rw [← unhide HB]; simp [inB, hkd] : B = if E = 0 then branchB o.z o.x o.ds else [])
    clear hkd hk
    go_wp2_with fail
    refine Calls.mono (branchInput_any o.z o.x _ o.ds _ (unhide HZ) (unhide H).x (unhide HH).ds) ?_
    rintro e w1 ⟨v1, rfl, n1, k1⟩
    rw [← unhide HE2] at n1 ⊢
    rw [← unhide HB2] at n1
    have HN1 := hide (n1.weak (unhide HK0).size)
    have HK1 := hide ((unhide HK0).trans k1 (by simp))
    clear n1 k1
    go_wp2
    go_ret2
    exact ⟨_, rfl, unhide HN1, unhide HK1⟩
  · rw [hkd] at c0
    have HE2 := hide (by rw [← unhide HE]; simp [inE, hkd] : E = formedE o.z [o.lg, o.mp])
    have HB2 := hide (by rw [← unhide HB]; simp [inB, hkd] : B = if E = 0 then rootB o.z o.s o.lg o.mp else [])
    clear hkd hk
    go_wp2_with (refine wpList_load_mid rfl 32 _ rfl w.heap.size 70 rfl (rootC o.s o.lg o.mp) _ (unhide R70) Tryd.underlying32 rfl (unhide HSO) ?_)
    refine Calls.mono (rootInput_any o.z o.s o.lg o.mp _ (unhide HZ) (unhide H).s (unhide H).lg.1 (unhide H).mp.1 (unhide H).lg.2 (unhide H).mp.2) ?_
    rintro e w1 ⟨v1, rfl, n1, k1⟩
    rw [← unhide HE2] at n1 ⊢
    rw [← unhide HB2] at n1
    have HN1 := hide (n1.weak (unhide HK0).size)
    have HK1 := hide ((unhide HK0).trans k1 (by simp))
    clear n1 k1
    go_wp2
    go_ret2
    exact ⟨_, rfl, unhide HN1, unhide HK1⟩
end Go.Proofs.YtgnbigijpneebaaDoor
namespace Go.Proofs.YtgnbigijpneebaaDoor
open Go.RowKit Go.BigFrame
set_option linter.unusedVariables false
set_option linter.unusedSimpArgs false

theorem range_tail {w : World} {g n s : Nat} {l m : List Nat} (h : w.rangeAt g n (rootC s l m)) : w.rangeAt g (n + 1) (l.map u8) ∧ w.rangeAt g (n + 1 + (l.map u8).length) (m.map u8) := by
  constructor
  · intro j v hv
    have hj := (List.getElem?_eq_some_iff.1 hv).1
    have := h (j + 1) v (by unfold rootC; rw [List.getElem?_cons_succ, List.getElem?_append_left hj, hv])
    rw [show n + 1 + j = n + (j + 1) by omega]; exact this
  · intro j v hv
    have := h ((l.map u8).length + j + 1) v (by unfold rootC; rw [List.getElem?_cons_succ, List.getElem?_append_right (by omega), Nat.add_sub_cancel_left, hv])
    rw [show n + 1 + (l.map u8).length + j = n + ((l.map u8).length + j + 1) by omega]; exact this

set_option maxRecDepth 100000 in
set_option maxHeartbeats 2000000 in
theorem doc_any (o : OpD) (pv kv dv : Value) (w : World) (h : OkD w o pv kv dv) (hk : 1 ≤ o.kd ∧ o.kd ≤ 6) :
    Calls Tryd.prog 12 #[.agg (opC o pv kv dv).toArray] w fun e w' => ∃ v, e = .returned (.tuple #[v, .int .i64 (inE o)]) ∧ Rd w' v (if inE o = 0 then inB o else []) ∧ Kept [] w w' := by
  have H := hide h
  have HG := hide (heap_alloc_new w (.cells (opC o pv kv dv).toArray 34))
  obtain ⟨⟨c0, c1, c2⟩, r3, r35, ⟨c67, c68, c69⟩, r70⟩ := op_cells (unhide HG) h.l.1 h.r.1
  have HK0 := hide ((Kept.refl [] w).alloc (.cells (opC o pv kv dv).toArray 34))
  have HH := hide (h.old (unhide HK0))
  have R3 := hide r3
  have R35 := hide r35
  have R70 := hide r70
  clear r3 r35 r70 h
  have SD := hide Tryd.size_dig
  have HSL := hide (by rw [List.length_map, (unhide H).l.1]; exact Tryd.size_dig : (Tryd.prog.info? 26).map (·.size) = some (o.l.map u8).length)
  have HSR := hide (by rw [List.length_map, (unhide H).r.1]; exact Tryd.size_dig : (Tryd.prog.info? 26).map (·.size) = some (o.r.map u8).length)
  have HSO := hide (by rw [show (rootC o.s o.lg o.mp).length = 65 by simp [rootC, (unhide H).lg.1, (unhide H).mp.1]]; kernel_rfl : (Tryd.prog.info? 32).map (·.size) = some (rootC o.s o.lg o.mp).length)
  have HZ := hide (unhide H).z
  obtain ⟨E, hE⟩ : ∃ E, inE o = E := ⟨_, rfl⟩
  have HE := hide hE
  rw [hE]
  clear hE
  obtain ⟨B, hB⟩ : ∃ B, (if E = 0 then inB o else []) = B := ⟨_, rfl⟩
  have HB := hide hB
  rw [hB]
  clear hB
  go_enter Tryd.func12, Tryd.ntmps12
  clear HG
  rcases (by omega : o.kd = 1 ∨ o.kd = 2 ∨ o.kd = 3 ∨ o.kd = 4 ∨ o.kd = 5 ∨ o.kd = 6) with hkd | hkd | hkd | hkd | hkd | hkd
  · rw [hkd] at c0
    have HE2 := hide (by rw [← unhide HE]; simp [inE, hkd] : E = 0)
    have HB2 := hide (by rw [← unhide HB, unhide HE2]; simp [inB, hkd] : B = 0 :: o.p)
    clear hkd hk
    go_wp2_with fail
    refine Calls.mono (refLeafInput_any _ o.p _ (unhide HH).p (by have := (unhide H).pl; omega)) ?_
    rintro e w1 ⟨v1, rfl, n1, k1⟩
    have HN1 := hide n1
    have HK1 := hide ((unhide HK0).trans k1 (by simp))
    clear n1 k1
    go_wp2
    go_ret2
    exact ⟨_, by rw [unhide HE2]; rfl, by rw [unhide HB2]; exact unhide HN1, unhide HK1⟩
  · rw [hkd] at c0
    have HE2 := hide (by rw [← unhide HE]; simp [inE, hkd] : E = formedE o.z [o.l, o.r])
    have HB2 := hide (by rw [← unhide HB]; simp [inB, hkd] : B = if E = 0 then nodeB o.z o.l o.r else [])
    clear hkd hk
    have hfs : ∀ A : Array Value, (List.foldl (fun cs x => cs.setIfInBounds x.snd x.fst) A (List.map u8 o.l).zipIdx).size = A.size := fun A => fold_size _ A 0
    have hll : o.l.length = 32 := (unhide H).l.1
    have hrl : o.r.length = 32 := (unhide H).r.1
    go_wp2_with (first
      | (refine wpList_load_mid rfl 26 _ rfl w.heap.size 3 rfl (o.l.map u8) _ (unhide R3) Tryd.underlying26 rfl (unhide HSL) ?_)
      | (refine wpList_load_mid rfl 26 _ rfl w.heap.size 35 rfl (o.r.map u8) _ (unhide R35) Tryd.underlying26 rfl (unhide HSR) ?_))
    rw [zb64, two_digs o.l o.r hll hrl]
    clear hfs
    refine Calls.mono (refCheck_any o.z _ [o.l, o.r] _ (unhide HZ) (RdD.two (alloc_at _ _ _) hll hrl (unhide H).l.2 (unhide H).r.2)) ?_
    rintro e w1 ⟨rfl, k1⟩
    rw [← unhide HE2]
    have k01 := ((Kept.refl [] (w.alloc (.cells (opC o pv kv dv).toArray 34))).alloc (.cells (o.l.map u8 ++ o.r.map u8).toArray 26)).trans k1 (by simp)
    have HK1 := hide ((unhide HK0).trans k01 (by simp))
    have S3 := hide (range_kept (unhide R3) k01 (by simp))
    have S35 := hide (range_kept (unhide R35) k01 (by simp))
    have d0 := k01.cell c0 (by simp)
    have d1 := k01.cell c1 (by simp)
    clear k1 k01 c0 c1 c2 c67 c68 c69
    by_cases hE0 : E = 0
    · have hb : ((E : Int) != 0) = false := by rw [hE0]; rfl
      have hw : 1 ≤ o.z ∧ o.z ≤ 32 := by
        have h9 := unhide HE2
        unfold formedE at h9
        cases hw : widthB o.z with
        | false => rw [hw] at h9; simp at h9; omega
        | true => exact width_le hw
      have HE0 := hide hE0
      clear hE0
      have hz9 : ((o.z.toNat : Nat) : Int) = o.z := Int.toNat_of_nonneg (by omega)
      have HZ9 := hide hz9
      clear hz9
      go_wp2_with (first
        | (refine wpList_load_mid rfl 26 _ rfl w.heap.size 3 rfl (o.l.map u8) _ (unhide S3) Tryd.underlying26 rfl (unhide HSL) ?_)
        | (refine wpList_load_mid rfl 26 _ rfl w.heap.size 35 rfl (o.r.map u8) _ (unhide S35) Tryd.underlying26 rfl (unhide HSR) ?_))
      have hc := refNodeInput_any o.z.toNat o.l o.r w1 (by omega) hll hrl (unhide H).l.2 (unhide H).r.2
      rw [unhide HZ9] at hc
      refine Calls.mono hc ?_
      rintro e w2 ⟨v2, rfl, n2, k2⟩
      have HN2 := hide n2
      have HK2 := hide ((unhide HK1).trans k2 (by simp))
      clear n2 k2 hc
      go_wp2
      go_ret2
      exact ⟨_, by rw [unhide HE0]; rfl, by rw [unhide HB2, if_pos (unhide HE0)]; exact unhide HN2, unhide HK2⟩
    · have hb : ((E : Int) != 0) = true := by rw [bne_iff_ne]; omega
      have HE0 := hide hE0
      clear hE0
      go_wp2
      go_ret2
      exact ⟨_, rfl, by rw [unhide HB2, if_neg (unhide HE0)]; exact Rd.nil _, unhide HK1⟩
  · rw [hkd] at c0
    have HE2 := hide (by rw [← unhide HE]; simp [inE, hkd] : E = 0)
    have HB2 := hide (by rw [← unhide HB, unhide HE2]; simp [inB, hkd] : B = 2 :: o.p)
    clear hkd hk
    go_wp2_with fail
    refine Calls.mono (refKeyInput_any _ o.p _ (unhide HH).p (by have := (unhide H).pl; omega)) ?_
    rintro e w1 ⟨v1, rfl, n1, k1⟩
    have HN1 := hide n1
    have HK1 := hide ((unhide HK0).trans k1 (by simp))
    clear n1 k1
    go_wp2
    go_ret2
    exact ⟨_, by rw [unhide HE2]; rfl, by rw [unhide HB2]; exact unhide HN1, unhide HK1⟩
  · rw [hkd] at c0
    have HE2 := hide (by rw [← unhide HE]; simp [inE, hkd] : E = 0)
    have HB2 := hide (by rw [← unhide HB, unhide HE2]; simp [inB, hkd] : B = buckB o.ps)
    clear hkd hk
    go_wp2_with fail
    refine Calls.mono (refBucketInput_any _ o.ps _ (unhide HH).ps (unhide H).psl) ?_
    rintro e w1 ⟨v1, rfl, n1, k1⟩
    have HN1 := hide n1
    have HK1 := hide ((unhide HK0).trans k1 (by simp))
    clear n1 k1
    go_wp2
    go_ret2
    exact ⟨_, by rw [unhide HE2]; rfl, by rw [unhide HB2]; exact unhide HN1, unhide HK1⟩
  · rw [hkd] at c0
    have HE2 := hide (by rw [← unhide HE]; simp [inE, hkd] : E = branchE o.z o.x o.ds)
    have HB2 := hide (by rw [← unhide HB]; simp [inB, hkd] : B = if E = 0 then branchB o.z o.x o.ds else [])
    clear hkd hk
    go_wp2_with fail
    refine Calls.mono (refCheckBranch_any o.z o.x _ o.ds _ (unhide HZ) (unhide H).x (unhide HH).ds) ?_
    rintro e w1 ⟨rfl, k1⟩
    rw [← unhide HE2]
    have HK1 := hide ((unhide HK0).trans k1 (by simp))
    have HD1 := hide ((unhide HH).ds.old k1)
    have d0 := k1.cell c0 (by simp)
    have d1 := k1.cell c1 (by simp)
    have d68 := k1.cell c68 (by simp)
    have d69 := k1.cell c69 (by simp)
    clear k1 c0 c1 c2 c67 c68 c69
    by_cases hE0 : E = 0
    · have hb : ((E : Int) != 0) = false := by rw [hE0]; rfl
      have h9 : formedE o.z o.ds = 0 ∧ o.ds.length ≤ 16 := by
        have h9 := unhide HE2
        rw [hE0] at h9
        unfold branchE at h9
        by_cases hf : formedE o.z o.ds = 0
        · rw [if_pos hf] at h9
          refine ⟨hf, ?_⟩
          by_cases hx : o.x = 0 ∨ ones o.x ≠ o.ds.length
          · rw [if_pos hx] at h9; omega
          · have h8 : ones o.x = o.ds.length := by
              by_cases h7 : ones o.x = o.ds.length
              · exact h7
              · exact absurd (Or.inr h7) hx
            rw [← h8]; exact ones_le _ (unhide H).x
        · rw [if_neg hf] at h9; exact absurd h9.symm hf
      have hw : 1 ≤ o.z ∧ o.z ≤ 32 := by
        have h8 := h9.1
        unfold formedE at h8
        cases hw : widthB o.z with
        | false => rw [hw] at h8; simp at h8
        | true => exact width_le hw
      have HE0 := hide hE0
      have H9 := hide h9.2
      clear hE0 h9
      have hz9 : ((o.z.toNat : Nat) : Int) = o.z := Int.toNat_of_nonneg (by omega)
      have HZ9 := hide hz9
      clear hz9
      go_wp2_with fail
      have hc := refBranchInput_any o.z.toNat o.x dv o.ds w1 (by omega) (unhide H).x (unhide HD1) (unhide H9)
      rw [unhide HZ9] at hc
      refine Calls.mono hc ?_
      rintro e w2 ⟨v2, rfl, n2, k2⟩
      have HN2 := hide n2
      have HK2 := hide ((unhide HK1).trans k2 (by simp))
      clear n2 k2 hc
      go_wp2
      go_ret2
      exact ⟨_, by rw [unhide HE0]; rfl, by rw [unhide HB2, if_pos (unhide HE0)]; exact unhide HN2, unhide HK2⟩
    · have hb : ((E : Int) != 0) = true := by rw [bne_iff_ne]; omega
      have HE0 := hide hE0
      clear hE0
      go_wp2
      go_ret2
      exact ⟨_, rfl, by rw [unhide HB2, if_neg (unhide HE0)]; exact Rd.nil _, unhide HK1⟩
  · rw [hkd] at c0
    have HE2 := hide (by rw [← unhide HE]; simp [inE, hkd] : E = formedE o.z [o.lg, o.mp])
    have HB2 := hide (by rw [← unhide HB]; simp [inB, hkd] : B = if E = 0 then rootB o.z o.s o.lg o.mp else [])
    clear hkd hk
    have R71 := hide (range_tail (unhide R70)).1
    have R103 := hide (by have h9 := (range_tail (unhide R70)).2; rw [List.length_map, (unhide H).lg.1] at h9; exact h9 : (w.alloc (.cells (opC o pv kv dv).toArray 34)).rangeAt w.heap.size 103 (o.mp.map u8))
    have HSL2 := hide (by rw [List.length_map, (unhide H).lg.1]; exact Tryd.size_dig : (Tryd.prog.info? 26).map (·.size) = some (o.lg.map u8).length)
    have HSR2 := hide (by rw [List.length_map, (unhide H).mp.1]; exact Tryd.size_dig : (Tryd.prog.info? 26).map (·.size) = some (o.mp.map u8).length)
    have hfs : ∀ A : Array Value, (List.foldl (fun cs x => cs.setIfInBounds x.snd x.fst) A (List.map u8 o.lg).zipIdx).size = A.size := fun A => fold_size _ A 0
    have hll : o.lg.length = 32 := (unhide H).lg.1
    have hrl : o.mp.length = 32 := (unhide H).mp.1
    go_wp2_with (first
      | (refine wpList_load_mid rfl 26 _ rfl w.heap.size 71 rfl (o.lg.map u8) _ (unhide R71) Tryd.underlying26 rfl (unhide HSL2) ?_)
      | (refine wpList_load_mid rfl 26 _ rfl w.heap.size 103 rfl (o.mp.map u8) _ (unhide R103) Tryd.underlying26 rfl (unhide HSR2) ?_))
    rw [zb64, two_digs o.lg o.mp hll hrl]
    clear hfs
    refine Calls.mono (refCheck_any o.z _ [o.lg, o.mp] _ (unhide HZ) (RdD.two (alloc_at _ _ _) hll hrl (unhide H).lg.2 (unhide H).mp.2)) ?_
    rintro e w1 ⟨rfl, k1⟩
    rw [← unhide HE2]
    have k01 := ((Kept.refl [] (w.alloc (.cells (opC o pv kv dv).toArray 34))).alloc (.cells (o.lg.map u8 ++ o.mp.map u8).toArray 26)).trans k1 (by simp)
    have HK1 := hide ((unhide HK0).trans k01 (by simp))
    have S70 := hide (range_kept (unhide R70) k01 (by simp))
    have d0 := k01.cell c0 (by simp)
    have d1 := k01.cell c1 (by simp)
    clear k1 k01 c0 c1 c2 c67 c68 c69
    by_cases hE0 : E = 0
    · have hb : ((E : Int) != 0) = false := by rw [hE0]; rfl
      have hw : 1 ≤ o.z ∧ o.z ≤ 32 := by
        have h9 := unhide HE2
        unfold formedE at h9
        cases hw : widthB o.z with
        | false => rw [hw] at h9; simp at h9; omega
        | true => exact width_le hw
      have HE0 := hide hE0
      clear hE0
      have hz9 : ((o.z.toNat : Nat) : Int) = o.z := Int.toNat_of_nonneg (by omega)
      have HZ9 := hide hz9
      clear hz9
      go_wp2_with (refine wpList_load_mid rfl 32 _ rfl w.heap.size 70 rfl (rootC o.s o.lg o.mp) _ (unhide S70) Tryd.underlying32 rfl (unhide HSO) ?_)
      have hc := refRootInput_any o.z.toNat o.s o.lg o.mp w1 (by omega) (unhide H).s hll hrl (unhide H).lg.2 (unhide H).mp.2
      rw [unhide HZ9] at hc
      refine Calls.mono hc ?_
      rintro e w2 ⟨v2, rfl, n2, k2⟩
      have HN2 := hide n2
      have HK2 := hide ((unhide HK1).trans k2 (by simp))
      clear n2 k2 hc
      go_wp2
      go_ret2
      exact ⟨_, by rw [unhide HE0]; rfl, by rw [unhide HB2, if_pos (unhide HE0)]; exact unhide HN2, unhide HK2⟩
    · have hb : ((E : Int) != 0) = true := by rw [bne_iff_ne]; omega
      have HE0 := hide hE0
      clear hE0
      go_wp2
      go_ret2
      exact ⟨_, rfl, by rw [unhide HB2, if_neg (unhide HE0)]; exact Rd.nil _, unhide HK1⟩
end Go.Proofs.YtgnbigijpneebaaDoor
namespace Go.Proofs.YtgnbigijpneebaaDoor
open Go.RowKit Go.BigFrame
set_option linter.unusedVariables false
set_option linter.unusedSimpArgs false

def zop : Array Value := (opC ⟨0, 0, [], List.replicate 32 0, List.replicate 32 0, [], 0, [], 0, List.replicate 32 0, List.replicate 32 0⟩ (.slice none 0 0) (.slice none 0 0) (.slice none 0 0)).toArray
theorem Tryd.zero_op : (Tryd.prog.info? 34).map (fun i => (i.zero, i.size)) = some (some (.agg zop), 135) := by kernel_rfl
theorem zero_op (W : World) : (zeroValue 34).run Tryd.prog W = .ok (.agg zop) W := (zero_of_info Tryd.zero_op).1 W
theorem Tryd.size_op : (Tryd.prog.info? 34).map (·.size) = some 135 := by kernel_rfl
theorem zop_size : zop.size = 135 := by unfold zop; rfl
theorem opC_len {o : OpD} {pv kv dv : Value} (h1 : o.l.length = 32) (h2 : o.r.length = 32) (h3 : o.lg.length = 32) (h4 : o.mp.length = 32) : (opC o pv kv dv).length = 135 := by
  simp [opC, rootC, h1, h2, h3, h4]
theorem opC_one {o : OpD} {pv kv dv : Value} {w : World} (h : OkD w o pv kv dv) : (opC o pv kv dv).toArray.all (·.oneCell') = true := by
  obtain ⟨a1, n1, c1, rfl, _⟩ := h.p
  obtain ⟨a2, n2, c2, _, _, rfl, _⟩ := h.ps
  obtain ⟨a3, n3, c3, rfl, _⟩ := h.ds
  rw [Array.all_eq_true_iff_forall_mem]
  intro v hv
  simp [opC, rootC] at hv
  rcases hv with rfl | rfl | rfl | ⟨x, _, rfl⟩ | ⟨x, _, rfl⟩ | rfl | rfl | rfl | rfl | ⟨x, _, rfl⟩ | ⟨x, _, rfl⟩ <;> rfl

/-- The slice value v reads as these Ops. -/
def RdO (w : World) (v : Value) (os : List OpD) : Prop :=
  ∃ (ao : Option Addr) (len cap : Nat) (pv kv dv : Nat → Value), v = .slice ao len cap ∧ os.length = len ∧ len ≤ cap ∧ cap ≤ 9223372036854775807 ∧ (∀ i (h : i < os.length), OkD w os[i] (pv i) (kv i) (dv i)) ∧
    (0 < len → ∃ b off, ao = some ⟨b, off, none⟩ ∧ ∀ i (h : i < os.length), w.rangeAt b (off + i * 135) (opC os[i] (pv i) (kv i) (dv i)))

set_option maxRecDepth 100000 in
set_option maxHeartbeats 1000000 in
theorem known_any (o : OpD) (pv kv dv : Value) (w : World) (h : OkD w o pv kv dv) :
    Calls Tryd.prog 10 #[.agg (opC o pv kv dv).toArray] w fun e w' => e = .returned (.bool (decide (1 ≤ o.kd ∧ o.kd ≤ 6))) ∧ Kept [] w w' := by
  have HG := hide (heap_alloc_new w (.cells (opC o pv kv dv).toArray 34))
  obtain ⟨⟨c0, c1, c2⟩, r3, r35, ⟨c67, c68, c69⟩, r70⟩ := op_cells (unhide HG) h.l.1 h.r.1
  have HK0 := hide ((Kept.refl [] w).alloc (.cells (opC o pv kv dv).toArray 34))
  clear r3 r35 r70 c1 c2 c67 c68 c69 HG h
  obtain ⟨K, hK⟩ : ∃ K, decide (1 ≤ o.kd ∧ o.kd ≤ 6) = K := ⟨_, rfl⟩
  rw [hK]
  have HKK := hide hK
  clear hK
  go_enter Tryd.func10, Tryd.ntmps10
  by_cases h1 : 1 ≤ o.kd
  · by_cases h2 : o.kd ≤ 6
    · have HD := hide (by rw [← unhide HKK]; simp [h1, h2] : K = true)
      go_wp2
      go_ret
      exact ⟨by rw [unhide HD]; rfl, unhide HK0⟩
    · have HD := hide (by rw [← unhide HKK]; simp [h1, h2] : K = false)
      go_wp2
      go_ret
      exact ⟨by rw [unhide HD]; rfl, unhide HK0⟩
  · have HD := hide (by rw [← unhide HKK]; simp [h1] : K = false)
    go_wp2
    go_ret
    exact ⟨by rw [unhide HD]; rfl, unhide HK0⟩

set_option maxRecDepth 100000 in
set_option maxHeartbeats 2000000 in
theorem digestInputs_walk (v : Value) (os : List OpD) (w : World) (hv : RdO w v os) (hT : Tabs w) :
    Calls Tryd.prog 3 #[v] w fun e w' => e = .returned (.bool true) ∧ Below w.heap.size w w' := by
  obtain ⟨ao, len, cap, pv, kv, dv, rfl, h1, h2, h3, h4, h5⟩ := hv
  have H4 := hide h4
  have H5 := hide h5
  clear h4 h5
  subst h1
  have HT := hide hT
  clear hT
  have hz0 := zero_op
  go_enter Tryd.func3, Tryd.ntmps3
  go_wp2_with fail
  refine Calls.mono (dawake_any _ (unhide HT)) ?_
  rintro e w1 ⟨rfl, k1⟩
  have HK1 := hide k1
  clear k1
  go_wp2_with fail
  go_loopw [13] (fun t13 wr => ∃ (i : Nat), i ≤ os.length ∧ t13 = .int .i64 i ∧ Hid (Kept [] w wr)) (fun t _ => os.length - (intOf t).toNat)
  case atStart => exact ⟨0, Nat.zero_le _, rfl, HK1⟩
  case round =>
    obtain ⟨i, hi, rfl, HK⟩ := hrel
    by_cases hlt : i < os.length
    · have hlt' : (i : Int) < os.length := by omega
      obtain ⟨b, off, rfl, hcc⟩ := unhide H5 (by omega)
      have HRG := hide (range_kept (hcc i hlt) (unhide HK) (by simp))
      have HO := hide ((unhide H4 i hlt).old (unhide HK))
      clear hcc
      generalize pv i = pi at HRG HO
      generalize kv i = ki at HRG HO
      generalize dv i = di at HRG HO
      generalize os[i] = o at HRG HO
      have hcl := opC_len (pv := pi) (kv := ki) (dv := di) (unhide HO).l.1 (unhide HO).r.1 (unhide HO).lg.1 (unhide HO).mp.1
      have HC1 := hide (opC_one (unhide HO))
      have HSZ := hide (by rw [hcl]; exact Tryd.size_op : (Tryd.prog.info? 34).map (·.size) = some (opC o pi ki di).length)
      have HSA := hide (by rw [List.size_toArray, hcl]; exact Tryd.size_op : (Tryd.prog.info? 34).map (·.size) = some (opC o pi ki di).toArray.size)
      have HZA := hide (by rw [zop_size, List.size_toArray, hcl] : zop.size = (opC o pi ki di).toArray.size)
      have k1 := (((Kept.refl [] wr).alloc (.cells zop 34)).setRow (g := wr.heap.size) (Or.inr (Nat.le_refl _)) (opC o pi ki di).toArray)
      have HNW := hide (setRow_heap (wr.alloc (.cells zop 34)) wr.heap.size zop (opC o pi ki di).toArray 34 (0, 0) (heap_alloc_new _ _))
      have HKW := hide ((unhide HK).trans k1 (by simp))
      have HOW := hide ((unhide HO).old k1)
      clear k1 hcl
      go_wp2_with (first
        | (refine wpList_load_mid rfl 34 _ rfl b (off + i * 135) rfl (opC o pi ki di) _ (unhide HRG) Tryd.underlying34 rfl (unhide HSZ) ?_)
        | (refine wpList_store_row rfl 34 (.tmp 4) _ rfl wr.heap.size (opC o pi ki di).toArray rfl rfl _ zop (heap_alloc_new _ _) (unhide HSA) (unhide HZA) (unhide HC1) ?_)
        | (refine wpList_load_row rfl 34 (.tmp 4) rfl wr.heap.size rfl _ (opC o pi ki di).toArray (0, 0) _ (unhide HNW) Tryd.underlying34 rfl (unhide HSA) ?_))
      refine Calls.mono (known_any o pi ki di _ (unhide HOW)) ?_
      rintro e w2 ⟨rfl, k2⟩
      have HK2 := hide ((unhide HKW).trans k2 (by simp))
      have HN2 := hide (k2.heap (unhide HNW) (by simp))
      have HO2 := hide ((unhide HOW).old k2)
      clear k2
      by_cases hk : 1 ≤ o.kd ∧ o.kd ≤ 6
      · rw [decide_eq_true hk]
        go_wp2_with (refine wpList_load_row rfl 34 (.tmp 4) rfl wr.heap.size rfl _ (opC o pi ki di).toArray (0, 0) _ (unhide HN2) Tryd.underlying34 rfl (unhide HSA) ?_)
        refine Calls.mono (input_any o pi ki di _ (unhide HO2) hk) ?_
        rintro e w3 ⟨v3, rfl, n3, k3⟩
        have HK3 := hide ((unhide HK2).trans k3 (by simp))
        have HN3 := hide (k3.heap (unhide HN2) (by simp))
        have HO3 := hide ((unhide HO2).old k3)
        have HP3 := hide n3.1
        clear n3 k3
        obtain ⟨E, hE⟩ : ∃ E, inE o = E := ⟨_, rfl⟩
        have HE := hide hE
        obtain ⟨B, hB⟩ : ∃ B, (if E = 0 then inB o else []) = B := ⟨_, rfl⟩
        have HB := hide hB
        rw [hE, hB] at HP3
        rw [hE]
        clear hE hB
        obtain ⟨a3, m3, c3, rfl, _⟩ := id (unhide HP3)
        go_wp2_with (refine wpList_load_row rfl 34 (.tmp 4) rfl wr.heap.size rfl _ (opC o pi ki di).toArray (0, 0) _ (unhide HN3) Tryd.underlying34 rfl (unhide HSA) ?_)
        refine Calls.mono (doc_any o pi ki di _ (unhide HO3) hk) ?_
        rintro e w4 ⟨v4, rfl, r4, k4⟩
        rw [unhide HE] at r4 ⊢
        rw [unhide HB] at r4
        have HK4 := hide ((unhide HK3).trans k4 (by simp))
        have HP4 := hide ((unhide HP3).old k4 (by simp))
        have HR4 := hide r4
        obtain ⟨a4, m4, c4, rfl, _⟩ := id r4
        clear r4 k4
        go_wp2_with fail
        refine Calls.mono (same_any _ _ B B _ (unhide HP4) (unhide HR4)) ?_
        rintro e w5 ⟨rfl, n5, rfl⟩
        rw [decide_eq_true rfl]
        go_wp2
        refine ⟨⟨i + 1, by omega, by go_num, hide ((unhide HK4).drewN n5)⟩, ?_⟩
        simp [intOf]; omega
      · rw [decide_eq_false hk]
        clear hk
        go_wp2
        refine ⟨⟨i + 1, by omega, by go_num, HK2⟩, ?_⟩
        simp [intOf]; omega
    · have hlt' : ¬ (i : Int) < os.length := by omega
      go_wp2
      go_ret
      exact ⟨rfl, (unhide HK).below (Nat.le_refl _) (by simp)⟩
end Go.Proofs.YtgnbigijpneebaaDoor
