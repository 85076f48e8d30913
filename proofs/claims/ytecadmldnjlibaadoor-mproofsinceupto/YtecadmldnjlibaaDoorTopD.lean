import Derived.Test.YtecadmldnjlibaaDoorTopC
import Derived.Test.YtecadmldnjlibaaDoorRowz
import Derived.Deep.RegionHeld3
import Derived.Test.YtecadmldnjlibaaDoorTopB
namespace Go.Proofs.YtecadmldnjlibaaDoor
open Go.RowKit Go.BigFrame
set_option linter.unusedVariables false
set_option linter.unusedSimpArgs false

/-- What the statements' tree answers. -/
def TrD (z : Int) (ls : List (List Nat)) (w : World) (e : Ending) (w' : World) : Prop :=
  (widthB z = false → e = .returned (.tuple #[.pointer none, .slice none 0 0, .bool false]) ∧ Kept [] w w') ∧
  (widthB z = true → ∃ t v qs u, e = .returned (.tuple #[.pointer (some ⟨t, 0, none⟩), u, .bool true]) ∧ TreeAt z w' t v qs ∧ leavesK qs = ls.map (cutL z.toNat) ∧ OwD w w' u (ls.map (cutL z.toNat)))
theorem cut_all {k : Nat} (h1 : 1 ≤ k) (h2 : k ≤ 32) {ls : List (List Nat)} (h : ∀ d ∈ ls, Dg d) : (ls.map (cutL k)).all (formB (k : Int)) = true := by
  rw [List.all_eq_true]
  intro x hx
  obtain ⟨d, hd, rfl⟩ := List.mem_map.1 hx
  exact cut_form h1 h2 (h d hd)

set_option maxRecDepth 100000 in
set_option maxHeartbeats 1000000 in
theorem tree_bad (z : Int) (lv : Value) (ls : List (List Nat)) (w : World) (hz : -9223372036854775808 ≤ z ∧ z ≤ 9223372036854775807) (hw : widthB z = false) :
    Calls Tryd.prog 16 #[.int .i64 z, lv] w (TrD z ls w) := by
  have HW := hide (rwidth_any z w hz)
  rw [hw] at HW
  have HF := hide hw
  clear hw hz
  go_enter Tryd.func16, Tryd.ntmps16
  go_wp2_with fail
  refine (unhide HW).mono ?_
  rintro e w1 ⟨rfl, rfl⟩
  go_wp2_with fail
  exact ⟨rfl, _, results_tmp3 rfl _ _ _, fun _ => ⟨rfl, Kept.refl _ _⟩, fun h => by rw [unhide HF] at h; simp at h⟩

set_option maxRecDepth 100000 in
set_option maxHeartbeats 1000000 in
theorem tree_ok (k : Nat) (lv : Value) (ls : List (List Nat)) (w : World) (h1 : 1 ≤ k) (h2 : k ≤ 32) (hl : RdD w lv ls) (hN : ls.length ≤ 1000000) (hT : Tabs w) (h6 : Tab6 w) :
    Calls Tryd.prog 16 #[.int .i64 (k : Int), lv] w (TrD (k : Int) ls w) := by
  have hwb : widthB (k : Int) = true := by simp [widthB]; omega
  have HW := hide (rwidth_any (k : Int) w (by omega))
  rw [hwb] at HW
  have HWB := hide hwb
  have HTB := hide hT
  have H6 := hide h6
  have HL := hide hl
  have HDG := hide (fun d hd => hl.dg (d := d) hd)
  obtain ⟨la, ll, lc, rfl, l1, l2, l3, l4, l5⟩ := hl
  subst l1
  clear hT h6 l4 l5 hwb
  go_enter Tryd.func16, Tryd.ntmps16
  go_wp2_with fail
  refine (unhide HW).mono ?_
  rintro e w1 ⟨rfl, rfl⟩
  go_wp2_with fail
  go_loopw [7, 18] (fun t7 t18 wr => ∃ (i : Nat), i ≤ ls.length ∧ t18 = .int .i64 (i : Int) ∧ Hid (OwD w1 wr t7 ((ls.take i).map (cutL k)))) (fun _ t _ => ls.length - (intOf t).toNat)
  case atStart => exact ⟨0, Nat.zero_le _, rfl, hide (OwD.nil _)⟩
  case round =>
    obtain ⟨i, hi, rfl, HO⟩ := hrel
    by_cases hlt : i < ls.length
    · have hlt' : (i : Int) < (ls.length : Int) := by omega
      obtain ⟨_, _, _, he, hel, _, _, _, hcell⟩ := (unhide HL).old (unhide HO).kept
      cases he
      obtain ⟨b, o, rfl, hc⟩ := hcell (by omega)
      have HC := hide (hc i hlt)
      have hgd : ls.getD i [] = ls[i] := by rw [List.getD_eq_getElem?_getD, List.getElem?_eq_getElem hlt]; rfl
      rw [hgd] at HC
      have HDi := hide (unhide HDG ls[i] (List.getElem_mem hlt))
      have HSN := hide (by rw [List.take_add_one, List.getElem?_eq_getElem hlt, List.map_append]; rfl : (ls.take (i + 1)).map (cutL k) = (ls.take i).map (cutL k) ++ [cutL k ls[i]])
      have HLN := hide (by rw [List.length_map, List.length_take]; omega : ((ls.take i).map (cutL k)).length + 1 ≤ 10000000)
      generalize ls[i] = d at HC HDi HSN
      generalize (ls.take i).map (cutL k) = ds at HO HSN HLN
      have hdl := (unhide HDi).1
      have HCE := hide (cI_end (k := k) hdl)
      have hcl := cutL_len k d h2 hdl
      have HCD := hide (cut_dg h2 (unhide HDi))
      obtain ⟨ua, ucap, rfl⟩ := owns_form (unhide HO).own
      have ia : ¬ (i : Int) < 0 := by omega
      have ib : ¬ (ls.length : Int) ≤ i := by omega
      clear hc hcell hel
      obtain ⟨wx, hwx⟩ : ∃ wx, wx = wr := ⟨_, rfl⟩
      subst hwx
      have HN0 := hide (cell_new wx d)
      have HK0 := hide (kept_old wx d)
      obtain ⟨wb, hwb⟩ : ∃ wb, (wx.alloc (.cells (zb 32) 41)).setRow wx.heap.size (brow d) = wb := ⟨_, rfl⟩
      rw [hwb] at HN0 HK0
      have HWBE := hide hwb
      clear hwb
      go_wp2_with (first
        | (refine wpList_load_mid rfl 41 _ rfl b (o + i * 32) rfl (d.map u8) _ (unhide HC) Tryd.underlying41 rfl (by rw [List.length_map, hdl]; exact Tryd.size_dig) ?_)
        | (rw [zb32]; refine wpList_store_row rfl 41 (.tmp 9) _ rfl wx.heap.size (brow d) rfl rfl _ (zb 32) (heap_alloc_new _ _) (Tryd.szD hdl) (by rw [zb_size, brow_size, hdl]) (brow_one _) ?_; rw [unhide HWBE]))
      go_loopw [10] (fun t wq => ∃ (j : Nat), k ≤ j ∧ j ≤ 32 ∧ t = .int .i64 j ∧ Hid (wq.heap[wx.heap.size]? = some (.cells (brow (cI k j d)) 41 (0, 0))) ∧ Hid (Kept [] wx wq)) (fun t _ => 32 - (intOf t).toNat)
      case atStart => exact ⟨k, Nat.le_refl _, h2, rfl, hide (by rw [cI_start]; exact unhide HN0), HK0⟩
      case round =>
        obtain ⟨j, hj1, hj2, rfl, HG, HKr⟩ := hrel
        by_cases hjl : j < 32
        · have hjl' : (j : Int) < 32 := by omega
          have q0 := brow_cell (unhide HG) j (by rw [cI_len hj1 hj2 hdl]; exact hjl)
          simp only [Go.Proofs.YtecadmldnjlibaaDoor.u8] at q0
          have z0 : wr.frozen? ⟨wx.heap.size, j, none⟩ = false := frozen_of_row _ _ _ _ _ (unhide HG)
          have HG2 := hide (by have h9 := heap_setCell_same wr wx.heap.size j _ 41 (.int .u8 0) (unhide HG); rw [cI_set hj1 hjl hdl] at h9; exact h9 : (wr.setCell ⟨wx.heap.size, j, none⟩ (.int .u8 0)).heap[wx.heap.size]? = some (.cells (brow (cI k (j + 1) d)) 41 (0, 0)))
          have HK2 := hide ((unhide HKr).setCell (p := ⟨wx.heap.size, j, none⟩) (Or.inr (Nat.le_refl _)) (.int .u8 0))
          go_wp2_with fail
          refine ⟨⟨j + 1, by omega, by omega, by go_num, HG2, HK2⟩, ?_⟩
          simp [intOf]; omega
        · have hjl' : ¬ (j : Int) < 32 := by omega
          have hj32 : j = 32 := by omega
          subst hj32
          rw [unhide HCE] at HG
          have HOB := hide ((unhide HO).pass (unhide HKr))
          have HOC := hide ((unhide HOB).pass ((Kept.refl [] wr).alloc (.cells (brow (cutL k d)) 41)))
          have HNC := hide (heap_alloc_new wr (.cells (brow (cutL k d)) 41))
          generalize cutL k d = D at HG HOC HNC HSN hcl HCD
          go_wp2_with (first
            | (refine wpList_load_mid rfl 41 _ rfl wx.heap.size 0 rfl (D.map u8) _ (range_row (unhide HG)) Tryd.underlying41 rfl (by rw [List.length_map, hcl]; exact Tryd.size_dig) ?_)
            | (at_builtin; rw [zb32, one_digP D hcl]; refine wpList_appendD rfl _ _ rfl rfl (wr.alloc (.cells (brow D) 41)) w1.heap.size (.slice ua ds.length ucap) ds [D] (some ⟨wr.heap.size, 0, none⟩) 1 1 (unhide HOC).own (RdD.oneP (unhide HNC) (unhide HCD)) (by have := unhide HLN; simp; omega) (unhide HOC).kept.size rfl rfl ?_; intro ao3 cap3 w3 HO3 HG3; have HO4 := hide ((unhide HOC).push (unhide HCD) (unhide HO3) (unhide HG3)); clear HO3 HG3))
          go_roundw
          case rel => exact ⟨i + 1, by omega, by simp, by rw [unhide HSN]; exact HO4⟩
          case measure => simp [intOf]; omega
    · have hlt' : ¬ (i : Int) < (ls.length : Int) := by omega
      have HE := hide (by rw [List.take_of_length_le (by omega)] : ls.take i = ls)
      rw [unhide HE] at HO
      go_wp2_with fail
      refine (newT_any (k : Int) wr (unhide HWB)).mono ?_
      rintro e w2 ⟨t0, rfl, _, tr2, k2⟩
      have HT2 := hide tr2
      have HO2 := hide ((unhide HO).pass k2)
      clear tr2 k2 HO
      go_wp2_with fail
      refine (appendT_any (k : Int) t0 (.slice none 0 0) u7 [] (ls.map (cutL k)) w2 (unhide HT2) (fun _ => rfl) (unhide HO2).rd (by simp [leavesK]; omega) ((unhide HTB).kept (unhide HO2).kept (by simp) (by simp)) ((unhide H6).kept (unhide HO2).kept)).mono ?_
      rintro e w3 ⟨hg1, _, k3⟩
      obtain ⟨t3, v3, qs3, rfl, _, tr3, lv3, _⟩ := hg1 (cut_all h1 h2 (unhide HDG))
      have HT3 := hide tr3
      have HL3 := hide lv3
      have HO3 := hide ((unhide HO2).pass k3)
      clear tr3 lv3 k3 HO2 hg1
      go_wp2_with fail
      refine ⟨rfl, _, results_tmp3 rfl _ _ _, fun h => by rw [unhide HWB] at h; simp at h, fun _ => ⟨t3, v3, qs3, u7, rfl, unhide HT3, by rw [unhide HL3]; simp [leavesK], by rw [Int.toNat_natCast]; exact unhide HO3⟩⟩
end Go.Proofs.YtecadmldnjlibaaDoor
namespace Go.Proofs.YtecadmldnjlibaaDoor
open Go.RowKit Go.BigFrame
set_option linter.unusedVariables false
set_option linter.unusedSimpArgs false

set_option maxRecDepth 100000 in
set_option maxHeartbeats 400000 in
theorem below64_any (k : Nat) (w : World) (h2 : 2 ≤ k) (hk : k < 18446744073709551616) :
    Calls Tryd.prog 39 #[.int .u64 k] w fun e w' => e = .returned (.int .u64 (belT k)) ∧ w' = w := by
  have hs : IntKind.u64.wrap ((k : Int) - 1) = ((k - 1 : Nat) : Int) := by rw [wrM]; omega
  have HB := hide (fun j (h : 2 ^ j ≤ k - 1) (h' : k - 1 < 2 ^ (j + 1)) => (by unfold belT; rw [(Nat.log2_eq_iff (by omega)).2 ⟨h, h'⟩] : belT k = 2 ^ j))
  obtain ⟨k1, hk1⟩ : ∃ k1, k - 1 = k1 := ⟨_, rfl⟩
  rw [hk1] at hs HB
  have h1 : 1 ≤ k1 := by omega
  have h3 : k1 < 18446744073709551616 := by omega
  obtain ⟨B, hBe⟩ : ∃ B, belT k = B := ⟨_, rfl⟩
  rw [hBe] at HB ⊢
  clear hBe hk1
  go_enter Tryd.func39, Tryd.ntmps39
  go_wp2_with fail
  go_loopw [3] (fun t3 wr => ∃ (m : Nat), t3 = .int .u64 (m : Int) ∧ 1 ≤ m ∧ m ≤ k1 ∧ Hid (∃ j, m = 2 ^ j) ∧ wr = w) (fun t _ => k1 - (intOf t).toNat)
  case atStart => exact ⟨1, rfl, by omega, by omega, hide ⟨0, rfl⟩, rfl⟩
  case round =>
    obtain ⟨m, rfl, hm1, hm2, HJ, rfl⟩ := hrel
    by_cases hle : 2 * m ≤ k1
    · have hle' : (m : Int) ≤ (k1 : Int) / 2 := by omega
      have hmul : IntKind.u64.wrap ((m : Int) * 2) = ((2 * m : Nat) : Int) := by rw [wrM]; omega
      have HJ2 := hide (by obtain ⟨j, hj⟩ := unhide HJ; exact ⟨j + 1, by rw [Nat.pow_succ]; omega⟩ : ∃ j, 2 * m = 2 ^ j)
      go_wp2_with (first | simp only [hs] | simp only [hmul])
      refine ⟨⟨2 * m, rfl, by omega, by omega, HJ2, by trivial⟩, ?_⟩
      simp [intOf]
      omega
    · have hle' : ¬ (m : Int) ≤ (k1 : Int) / 2 := by omega
      have HE := hide (by obtain ⟨j, hj⟩ := unhide HJ; rw [hj]; exact unhide HB j (by omega) (by rw [Nat.pow_succ]; omega) : B = m)
      go_wp2_with (simp only [hs])
      go_ret
      exact ⟨by rw [unhide HE]; rfl, rfl⟩

theorem stL_le : ∀ (c i n : Nat), stL c i n ≤ c
  | 0, _, _ => Nat.le_refl _
  | c + 1, i, n => by
    unfold stL
    have := stL_le c (i / 2) (n / 2 + n % 2)
    split
    · omega
    · split <;> omega
theorem stL_one (c i n : Nat) (h : n ≤ 1) : stL c i n = 0 := by
  cases c with
  | zero => rfl
  | succ c => unfold stL; rw [if_pos h]

end Go.Proofs.YtecadmldnjlibaaDoor
namespace Go.Proofs.YtecadmldnjlibaaDoor
open Go.RowKit Go.BigFrame
set_option linter.unusedVariables false
set_option linter.unusedSimpArgs false

theorem sinL_le : ∀ (c m n : Nat) (wh : Bool), sinL c m n wh ≤ c + 1
  | 0, _, _, wh => by unfold sinL; split <;> omega
  | c + 1, m, n, wh => by
    unfold sinL
    have h1 := sinL_le c m (belT n) wh
    have h2 := sinL_le c (m - belT n) (n - belT n) false
    split
    · split <;> omega
    · split <;> omega
theorem sinL_end (c m : Nat) (wh : Bool) : sinL c m m wh = if wh then 0 else 1 := by
  cases c with
  | zero => rfl
  | succ c => unfold sinL; rw [if_pos rfl]

theorem smL_len {m n : Nat} (hm : m ≤ n) (hn : n < 18446744073709551616) : (smL m n).length = if m = 0 then 0 else sinL 64 m n true := by
  unfold smL
  by_cases h0 : m = 0
  · rw [if_pos (Or.inl h0), if_pos h0]; rfl
  · rw [if_neg h0]
    by_cases h1 : m = n
    · rw [if_pos (Or.inr h1), h1, sinL_end]; rfl
    · rw [if_neg (by omega), seam_sin m 64 0 n true (by omega) hm (by omega)]; simp
theorem cntA_eq {i m n : Nat} (hi : i < n) (hm : m ≤ n) (hn : n < 18446744073709551616) : cntA i m n = (stL 64 i n : Int) := by
  unfold cntA
  rw [if_neg (by omega), path_all hi (by omega), levs_steps 64 i n hi (by omega)]

end Go.Proofs.YtecadmldnjlibaaDoor
namespace Go.Proofs.YtecadmldnjlibaaDoor
open Go.RowKit Go.BigFrame
set_option linter.unusedVariables false
set_option linter.unusedSimpArgs false

theorem RdD.flat {w : World} {g : Nat} {ds : List (List Nat)} {t : TypeId} {fr : Nat × Nat} (h : w.heap[g]? = some (.cells (flatD ds).toArray t fr)) (hd : ∀ d ∈ ds, Dg d) (n : Nat) (hn : ds.length = n) (hs : n ≤ 1000000) : RdD w (.slice (some ⟨g, 0, none⟩) n n) ds := by
  subst hn
  refine ⟨_, _, _, rfl, rfl, Nat.le_refl _, by omega, hd, fun _ => ⟨g, 0, rfl, fun i hi => ?_⟩⟩
  intro j v hv
  have hj : j < 32 := by
    have := (List.getElem?_eq_some_iff.1 hv).1
    rw [List.length_map, List.getD_eq_getElem?_getD, List.getElem?_eq_getElem hi] at this
    rw [← (hd ds[i] (List.getElem_mem hi)).1]; exact this
  have hq := flatD_at (fun d hd' => (hd d hd').1) i hi j hj
  rw [Nat.zero_add, cell_of_row _ _ _ _ _ _ h, List.getElem?_toArray, hq]
  exact hv
theorem RdD.range {w : World} {ao : Option Addr} {n c : Nat} {ds : List (List Nat)} (h : RdD w (.slice ao n c) ds) (hp : 0 < ds.length) : ∃ b o, ao = some ⟨b, o, none⟩ ∧ ∀ i, i < ds.length → w.rangeAt b (o + i * 32) ((ds.getD i []).map u8) := by
  obtain ⟨_, _, _, e, h1, h2, h3, h4, h5⟩ := h
  cases e
  obtain ⟨b, o, e, hc⟩ := h5 (by omega)
  exact ⟨b, o, e, fun i hi => hc i (by omega)⟩

def e1 : List Nat := 1 :: List.replicate 31 0
def e2 : List Nat := 2 :: List.replicate 31 0
def e3 : List Nat := 3 :: List.replicate 31 0
theorem e_dg : ∀ d ∈ [e1, e2, e3], Dg d := by
  intro d hd
  simp only [List.mem_cons, List.not_mem_nil, or_false] at hd
  rcases hd with rfl | rfl | rfl <;> exact ⟨rfl, by decide⟩
theorem e_cut : [e1, e2, e3].map (cutL 4) = [e1, e2, e3] := by decide +kernel
theorem e_path : pathF 2 64 0 3 = [(0, 2)] := by decide +kernel
theorem e_seam : smL 1 3 = [(1, 2), (2, 3)] := by decide +kernel
theorem e_in : inD 4 [e1, e2, e3] 2 3 = [nodS 4 e1 e2] := by
  unfold inD
  rw [if_neg (by decide), e_path]
  unfold rgL
  rw [List.map_cons, List.map_nil]
  unfold rgD
  rw [if_neg (by decide), rngD_cut (by decide) (by decide)]
  rfl
theorem e_cs : csD 4 [e1, e2, e3] 1 3 = [e2, e3] := by
  unfold csD
  rw [if_neg (by decide), e_seam]
  rfl

set_option maxRecDepth 100000 in
set_option maxHeartbeats 1000000 in
theorem mpawake_any (w : World) (hT : Tabs w) (h6 : Tab6 w) :
    Calls Tryd.prog 15 #[] w fun e w' => e = .returned (.bool true) ∧ Kept [] w w' := by
  have HTB := hide hT
  have H6 := hide h6
  clear hT h6
  go_enter Tryd.func15, Tryd.ntmps15
  go_wp2_with fail
  have kA := (Kept.refl [] w).alloc (.cells (flatD [e1, e2, e3]).toArray 41)
  have HTR := hide (tree_ok 4 (.slice (some ⟨w.heap.size, 0, none⟩) 3 3) [e1, e2, e3] _ (by decide) (by decide) (RdD.flat (heap_alloc_new w (.cells (flatD [e1, e2, e3]).toArray 41)) e_dg 3 rfl (by decide)) (by decide) ((unhide HTB).kept kA (by simp) (by simp)) ((unhide H6).kept kA))
  have HKA := hide kA
  clear kA
  refine Calls.mono (unhide HTR) ?_
  rintro e w1 ⟨_, h9⟩
  obtain ⟨t, v, qs, u, rfl, tr, lv, ow⟩ := h9 (by decide)
  rw [show ((4 : Nat) : Int).toNat = 4 from rfl, e_cut] at lv ow
  have HT1 := hide tr
  have HLV := hide lv
  have HO1 := hide (ow.back (unhide HKA))
  have HB := hide (by rw [lv]; decide : (leavesK qs).length < 32768)
  clear h9 tr lv ow HTR HKA
  obtain ⟨ua, uc, rfl⟩ := (unhide HO1).form
  go_wp2_with fail
  refine (mincl_any 4 t v qs 2 3 w1 (unhide HT1) (unhide HB) ((unhide HTB).kept (unhide HO1).kept (by simp) (by simp)) ((unhide H6).kept (unhide HO1).kept) (by decide)).mono ?_
  rintro e w2 ⟨p, rfl, o2⟩
  rw [unhide HLV, e_in] at o2
  rw [show inE (leavesK qs) 2 3 = 0 from by rw [unhide HLV]; rfl]
  have HO2 := hide o2
  have HT2 := hide ((unhide HT1).old o2.kept)
  have HOA2 := hide ((unhide HO1).pass o2.kept)
  clear o2 HO1 HT1
  obtain ⟨pa, pc, rfl⟩ := (unhide HO2).form
  go_wp2_with fail
  refine (mcons_any 4 t v qs 1 3 w2 (unhide HT2) (unhide HB) ((unhide HTB).kept (unhide HOA2).kept (by simp) (by simp)) ((unhide H6).kept (unhide HOA2).kept) (by decide)).mono ?_
  rintro e w3 ⟨q, rfl, o3⟩
  rw [unhide HLV, e_cs] at o3
  rw [show csE (leavesK qs) 1 3 = 0 from by rw [unhide HLV]; rfl]
  have HO3 := hide o3
  have HP3 := hide ((unhide HO2).pass o3.kept)
  have HOA3 := hide ((unhide HOA2).pass o3.kept)
  clear o3 HO2 HT2 HOA2
  obtain ⟨qa, qc, rfl⟩ := (unhide HO3).form
  go_wp2_with fail
  refine (counts_any 2 1 3 w3 (by decide) (by decide) (by decide)).mono ?_
  rintro e w4 ⟨rfl, k4⟩
  rw [show cntA 2 1 3 = 1 from by decide +kernel, show cntB 2 1 3 = 2 from by decide +kernel, show cntE 2 1 3 = 0 from rfl]
  have HQ4 := hide ((unhide HO3).pass k4)
  have HP4 := hide ((unhide HP3).pass k4)
  have HL4 := hide ((unhide HOA3).pass k4)
  clear k4 HO3 HP3 HOA3
  obtain ⟨pb, po, rfl, prd⟩ := (unhide HP4).rd.range (by decide)
  obtain ⟨qb, qo, rfl, qrd⟩ := (unhide HQ4).rd.range (by decide)
  obtain ⟨ub, uo, rfl, urd⟩ := (unhide HL4).rd.range (by decide)
  have p0 := prd 0 (by decide)
  have q0 := qrd 0 (by decide)
  have q1 := qrd 1 (by decide)
  have u0 := urd 0 (by decide)
  have u1 := urd 1 (by decide)
  have u2 := urd 2 (by decide)
  simp only [List.getD_cons_zero, List.getD_cons_succ, Nat.zero_mul, Nat.add_zero, Nat.one_mul] at p0 q0 q1 u0 u1 u2
  have HND := hide (fun w' (hw' : Kept [] w4 w') => (refNode_any 4 e1 e2 w' (by decide) (e_dg e1 (by simp)) (e_dg e2 (by simp))).mono (fun e w2 h2 => ⟨h2.1, hw'.trans h2.2 (by simp)⟩) : ∀ w', Kept [] w4 w' → Calls Tryd.prog 30 #[.int .i64 ((4 : Nat) : Int), .agg (brow e1), .agg (brow e2)] w' fun e w2 => e = .returned (.agg (brow (nodS 4 e1 e2))) ∧ Kept [] w4 w2)
  have hN := (nodS_dg 4 e1 e2).1
  generalize nodS 4 e1 e2 = N at p0 HND hN
  have he1 : e1.length = 32 := rfl
  have he2 : e2.length = 32 := rfl
  have he3 : e3.length = 32 := rfl
  have u2 : w4.rangeAt ub (uo + 64) (e3.map u8) := u2
  have hqN := fun W => dig_eq W N N hN hN
  have hq2 := fun W => dig_eq W e2 e2 he2 he2
  have hq3 := fun W => dig_eq W e3 e3 he3 he3
  rw [decide_eq_true rfl] at hqN hq2 hq3
  have hne : ∀ p : Prop, (∀ w', Kept [] w4 w' → p) = p := fun p => propext ⟨fun h => h w4 (Kept.refl [] w4), fun h _ _ => h⟩
  go_wp2_with fail
  refine wp_region_keep (by kernel_rfl) (by kernel_rfl) ?_
  iterate 2 (go_big_quiet_step (fail))
  refine wpQuiet_mid rfl 41 _ rfl pb (po) rfl (N.map u8) _ (fun w' hw' => range_kept p0 hw' (by simp)) Tryd.underlying41 rfl (by rw [List.length_map, hN]; exact Tryd.size_dig) ?_
  simp only [Act.put, List.setIfInBounds_toArray, List.set_cons_succ, List.set_cons_zero]
  iterate 2 (go_big_quiet_step (fail))
  refine wpQuiet_mid rfl 41 _ rfl ub (uo) rfl (e1.map u8) _ (fun w' hw' => range_kept u0 hw' (by simp)) Tryd.underlying41 rfl (by rw [List.length_map, he1]; exact Tryd.size_dig) ?_
  simp only [Act.put, List.setIfInBounds_toArray, List.set_cons_succ, List.set_cons_zero]
  iterate 2 (go_big_quiet_step (fail))
  refine wpQuiet_mid rfl 41 _ rfl ub (uo + 32) rfl (e2.map u8) _ (fun w' hw' => range_kept u1 hw' (by simp)) Tryd.underlying41 rfl (by rw [List.length_map, he2]; exact Tryd.size_dig) ?_
  simp only [Act.put, List.setIfInBounds_toArray, List.set_cons_succ, List.set_cons_zero]
  go_big_quiet_want
  go_big_quiet_op
  apply Exists.intro
  refine ⟨fun w' hw' => ?_, ?_⟩
  · exact unhide HND w' hw'
  go_big_quiet_on
  refine wpQuiet_val rfl (.bool true) (fun w' hw' => run_eql 41 (.tmp 67) (.tmp 74) _ rfl (brow N) (brow N) rfl rfl w' true (by kernel_rfl) (hqN w')) ?_
  simp only [Act.put, List.setIfInBounds_toArray, List.set_cons_succ, List.set_cons_zero]
  iterate 3 (go_big_quiet_step (fail))
  refine wpQuiet_mid rfl 41 _ rfl qb (qo) rfl (e2.map u8) _ (fun w' hw' => range_kept q0 hw' (by simp)) Tryd.underlying41 rfl (by rw [List.length_map, he2]; exact Tryd.size_dig) ?_
  simp only [Act.put, List.setIfInBounds_toArray, List.set_cons_succ, List.set_cons_zero]
  iterate 2 (go_big_quiet_step (fail))
  refine wpQuiet_mid rfl 41 _ rfl ub (uo + 32) rfl (e2.map u8) _ (fun w' hw' => range_kept u1 hw' (by simp)) Tryd.underlying41 rfl (by rw [List.length_map, he2]; exact Tryd.size_dig) ?_
  simp only [Act.put, List.setIfInBounds_toArray, List.set_cons_succ, List.set_cons_zero]
  refine wpQuiet_val rfl (.bool true) (fun w' hw' => run_eql 41 (.tmp 79) (.tmp 82) _ rfl (brow e2) (brow e2) rfl rfl w' true (by kernel_rfl) (hq2 w')) ?_
  simp only [Act.put, List.setIfInBounds_toArray, List.set_cons_succ, List.set_cons_zero]
  iterate 4 (go_big_quiet_step (fail))
  refine wpQuiet_mid rfl 41 _ rfl qb (qo + 32) rfl (e3.map u8) _ (fun w' hw' => range_kept q1 hw' (by simp)) Tryd.underlying41 rfl (by rw [List.length_map, he3]; exact Tryd.size_dig) ?_
  simp only [Act.put, List.setIfInBounds_toArray, List.set_cons_succ, List.set_cons_zero]
  iterate 2 (go_big_quiet_step (fail))
  refine wpQuiet_mid rfl 41 _ rfl ub (uo + 64) rfl (e3.map u8) _ (fun w' hw' => range_kept u2 hw' (by simp)) Tryd.underlying41 rfl (by rw [List.length_map, he3]; exact Tryd.size_dig) ?_
  simp only [Act.put, List.setIfInBounds_toArray, List.set_cons_succ, List.set_cons_zero]
  refine wpQuiet_val rfl (.bool true) (fun w' hw' => run_eql 41 (.tmp 88) (.tmp 91) _ rfl (brow e3) (brow e3) rfl rfl w' true (by kernel_rfl) (hq3 w')) ?_
  simp only [Act.put, List.setIfInBounds_toArray, List.set_cons_succ, List.set_cons_zero]
  repeat (go_big_quiet_step (fail))
  refine wpQuiet_nil ?_
  intro w7 hw7
  have HK7 := hide ((unhide HL4).kept.trans hw7 (by simp))
  clear hw7
  go_wp2
  go_ret
  exact ⟨rfl, unhide HK7⟩
end Go.Proofs.YtecadmldnjlibaaDoor
/-
  Laws for drawn regions, by genreg.py. No program.
-/
namespace Go.Proofs.YtecadmldnjlibaaDoor
open Go Go.RowKit Go.BigFrame
set_option linter.unusedVariables false
set_option linter.unusedSimpArgs false
section
variable {P : Program} {Q : Exit → Act → World → Prop}
theorem wp_mu15 {id : Nat} {o0 o1 o2 o3 o4 o5 o6 o7 o8 o9 o10 o11 o12 o13 o14 : Oper} {a : Act} {w : World} (hm : P.follows .mixedOrders = true) (hs : Region.noSelect #[o0, o1, o2, o3, o4, o5, o6, o7, o8, o9, o10, o11, o12, o13, o14] = true)
    (f0 : Region.free .any #[o0, o1, o2, o3, o4, o5, o6, o7, o8, o9, o10, o11, o12, o13, o14] #[false, false, false, false, false, false, false, false, false, false, false, false, false, false, false] 0 = true) (r0 : (Region.ready .any #[o0, o1, o2, o3, o4, o5, o6, o7, o8, o9, o10, o11, o12, o13, o14] #[false, false, false, false, false, false, false, false, false, false, false, false, false, false, false]).contains 0 = true)
    (f1 : Region.free .any #[o0, o1, o2, o3, o4, o5, o6, o7, o8, o9, o10, o11, o12, o13, o14] #[true, false, false, false, false, false, false, false, false, false, false, false, false, false, false] 1 = true) (r1 : (Region.ready .any #[o0, o1, o2, o3, o4, o5, o6, o7, o8, o9, o10, o11, o12, o13, o14] #[true, false, false, false, false, false, false, false, false, false, false, false, false, false, false]).contains 1 = true)
    (f2 : Region.free .any #[o0, o1, o2, o3, o4, o5, o6, o7, o8, o9, o10, o11, o12, o13, o14] #[true, true, false, false, false, false, false, false, false, false, false, false, false, false, false] 2 = true) (r2 : (Region.ready .any #[o0, o1, o2, o3, o4, o5, o6, o7, o8, o9, o10, o11, o12, o13, o14] #[true, true, false, false, false, false, false, false, false, false, false, false, false, false, false]).contains 2 = true)
    (f3 : Region.free .any #[o0, o1, o2, o3, o4, o5, o6, o7, o8, o9, o10, o11, o12, o13, o14] #[true, true, true, false, false, false, false, false, false, false, false, false, false, false, false] 3 = true) (r3 : (Region.ready .any #[o0, o1, o2, o3, o4, o5, o6, o7, o8, o9, o10, o11, o12, o13, o14] #[true, true, true, false, false, false, false, false, false, false, false, false, false, false, false]).contains 3 = true)
    (f4 : Region.free .any #[o0, o1, o2, o3, o4, o5, o6, o7, o8, o9, o10, o11, o12, o13, o14] #[true, true, true, true, false, false, false, false, false, false, false, false, false, false, false] 4 = true) (r4 : (Region.ready .any #[o0, o1, o2, o3, o4, o5, o6, o7, o8, o9, o10, o11, o12, o13, o14] #[true, true, true, true, false, false, false, false, false, false, false, false, false, false, false]).contains 4 = true)
    (f5 : Region.free .any #[o0, o1, o2, o3, o4, o5, o6, o7, o8, o9, o10, o11, o12, o13, o14] #[true, true, true, true, true, false, false, false, false, false, false, false, false, false, false] 5 = true) (r5 : (Region.ready .any #[o0, o1, o2, o3, o4, o5, o6, o7, o8, o9, o10, o11, o12, o13, o14] #[true, true, true, true, true, false, false, false, false, false, false, false, false, false, false]).contains 5 = true)
    (f6 : Region.free .any #[o0, o1, o2, o3, o4, o5, o6, o7, o8, o9, o10, o11, o12, o13, o14] #[true, true, true, true, true, true, false, false, false, false, false, false, false, false, false] 6 = true) (r6 : (Region.ready .any #[o0, o1, o2, o3, o4, o5, o6, o7, o8, o9, o10, o11, o12, o13, o14] #[true, true, true, true, true, true, false, false, false, false, false, false, false, false, false]).contains 6 = true)
    (f7 : Region.free .any #[o0, o1, o2, o3, o4, o5, o6, o7, o8, o9, o10, o11, o12, o13, o14] #[true, true, true, true, true, true, true, false, false, false, false, false, false, false, false] 7 = true) (r7 : (Region.ready .any #[o0, o1, o2, o3, o4, o5, o6, o7, o8, o9, o10, o11, o12, o13, o14] #[true, true, true, true, true, true, true, false, false, false, false, false, false, false, false]).contains 7 = true)
    (f8 : Region.free .any #[o0, o1, o2, o3, o4, o5, o6, o7, o8, o9, o10, o11, o12, o13, o14] #[true, true, true, true, true, true, true, true, false, false, false, false, false, false, false] 8 = true) (r8 : (Region.ready .any #[o0, o1, o2, o3, o4, o5, o6, o7, o8, o9, o10, o11, o12, o13, o14] #[true, true, true, true, true, true, true, true, false, false, false, false, false, false, false]).contains 8 = true)
    (f9 : Region.free .any #[o0, o1, o2, o3, o4, o5, o6, o7, o8, o9, o10, o11, o12, o13, o14] #[true, true, true, true, true, true, true, true, true, false, false, false, false, false, false] 9 = true) (r9 : (Region.ready .any #[o0, o1, o2, o3, o4, o5, o6, o7, o8, o9, o10, o11, o12, o13, o14] #[true, true, true, true, true, true, true, true, true, false, false, false, false, false, false]).contains 9 = true)
    (f10 : Region.free .any #[o0, o1, o2, o3, o4, o5, o6, o7, o8, o9, o10, o11, o12, o13, o14] #[true, true, true, true, true, true, true, true, true, true, false, false, false, false, false] 10 = true) (r10 : (Region.ready .any #[o0, o1, o2, o3, o4, o5, o6, o7, o8, o9, o10, o11, o12, o13, o14] #[true, true, true, true, true, true, true, true, true, true, false, false, false, false, false]).contains 10 = true)
    (q_ : Region.ready .any #[o0, o1, o2, o3, o4, o5, o6, o7, o8, o9, o10, o11, o12, o13, o14] #[true, true, true, true, true, true, true, true, true, true, true, false, false, false, false] = [11])
    (q11_ : Region.ready .any #[o0, o1, o2, o3, o4, o5, o6, o7, o8, o9, o10, o11, o12, o13, o14] #[true, true, true, true, true, true, true, true, true, true, true, true, false, false, false] = [12])
    (q11_12_ : Region.ready .any #[o0, o1, o2, o3, o4, o5, o6, o7, o8, o9, o10, o11, o12, o13, o14] #[true, true, true, true, true, true, true, true, true, true, true, true, true, false, false] = [13])
    (f11_12_13_14 : Region.free .any #[o0, o1, o2, o3, o4, o5, o6, o7, o8, o9, o10, o11, o12, o13, o14] #[true, true, true, true, true, true, true, true, true, true, true, true, true, true, false] 14 = true) (r11_12_13_14 : (Region.ready .any #[o0, o1, o2, o3, o4, o5, o6, o7, o8, o9, o10, o11, o12, o13, o14] #[true, true, true, true, true, true, true, true, true, true, true, true, true, true, false]).contains 14 = true)
    (q11_12_13_ : Region.ready .any #[o0, o1, o2, o3, o4, o5, o6, o7, o8, o9, o10, o11, o12, o13, o14] #[true, true, true, true, true, true, true, true, true, true, true, true, true, true, true] = [])
    (g11 : o11.guard = none)    (g12 : o12.guard = none)    (g13 : o13.guard = none)
    (v0 v1 v2 v3 v4 v5 v6 v7 v8 v9 v10 : Value) (A0 A1 A2 A3 A4 A5 A6 A7 A8 A9 A10 : Act)
    (S : World → Prop)
    (I_ : World → Prop)
    (I11_ : Value → World → Prop)
    (I11_12_ : Value → Value → World → Prop)
    (I11_12_13_ : Value → Value → Value → World → Prop)
    (v14 : Value → Value)
    (p0 : a.put o0.dst v0 = A0) (hy0 : YieldsIf P #[o0, o1, o2, o3, o4, o5, o6, o7, o8, o9, o10, o11, o12, o13, o14] S o0 v0 a)
    (p1 : A0.put o1.dst v1 = A1) (hy1 : YieldsIf P #[o0, o1, o2, o3, o4, o5, o6, o7, o8, o9, o10, o11, o12, o13, o14] S o1 v1 A0)
    (p2 : A1.put o2.dst v2 = A2) (hy2 : YieldsIf P #[o0, o1, o2, o3, o4, o5, o6, o7, o8, o9, o10, o11, o12, o13, o14] S o2 v2 A1)
    (p3 : A2.put o3.dst v3 = A3) (hy3 : YieldsIf P #[o0, o1, o2, o3, o4, o5, o6, o7, o8, o9, o10, o11, o12, o13, o14] S o3 v3 A2)
    (p4 : A3.put o4.dst v4 = A4) (hy4 : YieldsIf P #[o0, o1, o2, o3, o4, o5, o6, o7, o8, o9, o10, o11, o12, o13, o14] S o4 v4 A3)
    (p5 : A4.put o5.dst v5 = A5) (hy5 : YieldsIf P #[o0, o1, o2, o3, o4, o5, o6, o7, o8, o9, o10, o11, o12, o13, o14] S o5 v5 A4)
    (p6 : A5.put o6.dst v6 = A6) (hy6 : YieldsIf P #[o0, o1, o2, o3, o4, o5, o6, o7, o8, o9, o10, o11, o12, o13, o14] S o6 v6 A5)
    (p7 : A6.put o7.dst v7 = A7) (hy7 : YieldsIf P #[o0, o1, o2, o3, o4, o5, o6, o7, o8, o9, o10, o11, o12, o13, o14] S o7 v7 A6)
    (p8 : A7.put o8.dst v8 = A8) (hy8 : YieldsIf P #[o0, o1, o2, o3, o4, o5, o6, o7, o8, o9, o10, o11, o12, o13, o14] S o8 v8 A7)
    (p9 : A8.put o9.dst v9 = A9) (hy9 : YieldsIf P #[o0, o1, o2, o3, o4, o5, o6, o7, o8, o9, o10, o11, o12, o13, o14] S o9 v9 A8)
    (p10 : A9.put o10.dst v10 = A10) (hy10 : YieldsIf P #[o0, o1, o2, o3, o4, o5, o6, o7, o8, o9, o10, o11, o12, o13, o14] S o10 v10 A9)
    (i0 : I_ w.drew)
    (hIS : (∀ w', I_  w' → S w') ∧ (∀ (u11 : Value) w', I11_ u11 w' → S w') ∧ (∀ (u11 u12 : Value) w', I11_12_ u11 u12 w' → S w') ∧ (∀ (u11 u12 u13 : Value) w', I11_12_13_ u11 u12 u13 w' → S w'))
    (s_11 : ∀ w', I_  w' → ∀ K : Act → World → Prop, (∀ (u11 : Value) w2, I11_ u11 w2 → K (A10.put o11.dst u11) w2) → o11.wp P A10 w' K (NoPanic Q))
    (s11_12 : ∀ (u11 : Value) w', I11_ u11 w' → ∀ K : Act → World → Prop, (∀ (u12 : Value) w2, I11_12_ u11 u12 w2 → K ((A10.put o11.dst u11).put o12.dst u12) w2) → o12.wp P (A10.put o11.dst u11) w' K (NoPanic Q))
    (s11_12_13 : ∀ (u11 u12 : Value) w', I11_12_ u11 u12 w' → ∀ K : Act → World → Prop, (∀ (u13 : Value) w2, I11_12_13_ u11 u12 u13 w2 → K (((A10.put o11.dst u11).put o12.dst u12).put o13.dst u13) w2) → o13.wp P ((A10.put o11.dst u11).put o12.dst u12) w' K (NoPanic Q))
    (y11_12_13_14 : ∀ (u11 u12 u13 : Value) w', I11_12_13_ u11 u12 u13 w' → YieldsIf P #[o0, o1, o2, o3, o4, o5, o6, o7, o8, o9, o10, o11, o12, o13, o14] S o14 (v14 u13) (((A10.put o11.dst u11).put o12.dst u12).put o13.dst u13))
    (h : ∀ (u11 u12 u13 : Value) w', I11_12_13_ u11 u12 u13 w' → Q .normal ((((A10.put o11.dst u11).put o12.dst u12).put o13.dst u13).put o14.dst (v14 u13)) w') :
    (Code.region id #[o0, o1, o2, o3, o4, o5, o6, o7, o8, o9, o10, o11, o12, o13, o14] true).wp P Q a w := by
  subst p0 p1 p2 p3 p4 p5 p6 p7 p8 p9 p10
  obtain ⟨z_, z11_, z11_12_, z11_12_13_⟩ := hIS
  refine wp_region_noPanic ?_
  refine wp_region_held_drew (S := S) hm (z_ _ i0) (fun hH => ?_)
  show wpAnyH P .any #[o0, o1, o2, o3, o4, o5, o6, o7, o8, o9, o10, o11, o12, o13, o14] (NoPanic Q) S 15 #[false, false, false, false, false, false, false, false, false, false, false, false, false, false, false] a w.drew
  refine wpAnyH_take (i := 0) (oi := o0) rfl hs f0 r0 (fun _ _ _ h => h) hy0 hH ?_
  refine wpAnyH_take (i := 1) (oi := o1) rfl hs f1 r1 (fun _ _ _ h => h) hy1 hH ?_
  refine wpAnyH_take (i := 2) (oi := o2) rfl hs f2 r2 (fun _ _ _ h => h) hy2 hH ?_
  refine wpAnyH_take (i := 3) (oi := o3) rfl hs f3 r3 (fun _ _ _ h => h) hy3 hH ?_
  refine wpAnyH_take (i := 4) (oi := o4) rfl hs f4 r4 (fun _ _ _ h => h) hy4 hH ?_
  refine wpAnyH_take (i := 5) (oi := o5) rfl hs f5 r5 (fun _ _ _ h => h) hy5 hH ?_
  refine wpAnyH_take (i := 6) (oi := o6) rfl hs f6 r6 (fun _ _ _ h => h) hy6 hH ?_
  refine wpAnyH_take (i := 7) (oi := o7) rfl hs f7 r7 (fun _ _ _ h => h) hy7 hH ?_
  refine wpAnyH_take (i := 8) (oi := o8) rfl hs f8 r8 (fun _ _ _ h => h) hy8 hH ?_
  refine wpAnyH_take (i := 9) (oi := o9) rfl hs f9 r9 (fun _ _ _ h => h) hy9 hH ?_
  refine wpAnyH_take (i := 10) (oi := o10) rfl hs f10 r10 (fun _ _ _ h => h) hy10 hH ?_
  generalize (((((((((((a.put o0.dst v0).put o1.dst v1).put o2.dst v2).put o3.dst v3).put o4.dst v4).put o5.dst v5).put o6.dst v6).put o7.dst v7).put o8.dst v8).put o9.dst v9).put o10.dst v10) = B at *
  have wa11 : ∀ y, Region.wanted o11 y = true := fun y => by unfold Region.wanted; rw [g11]
  have wa12 : ∀ y, Region.wanted o12 y = true := fun y => by unfold Region.wanted; rw [g12]
  have wa13 : ∀ y, Region.wanted o13 y = true := fun y => by unfold Region.wanted; rw [g13]
  have t11_12_13_ : ∀ (u11 u12 u13 : Value) w', I11_12_13_ u11 u12 u13 w' → wpAnyH P .any #[o0, o1, o2, o3, o4, o5, o6, o7, o8, o9, o10, o11, o12, o13, o14] (NoPanic Q) S 0 #[true, true, true, true, true, true, true, true, true, true, true, true, true, true, true] ((((B.put o11.dst u11).put o12.dst u12).put o13.dst u13).put o14.dst (v14 u13)) w' := by
    intro u11 u12 u13 w0 i0
    exact ⟨q11_12_13_, NoPanic.normal (h u11 u12 u13 w0 i0)⟩
  have t11_12_ : ∀ (u11 u12 : Value) w', I11_12_ u11 u12 w' → wpAnyH P .any #[o0, o1, o2, o3, o4, o5, o6, o7, o8, o9, o10, o11, o12, o13, o14] (NoPanic Q) S 2 #[true, true, true, true, true, true, true, true, true, true, true, true, true, false, false] ((B.put o11.dst u11).put o12.dst u12) w' := by
    intro u11 u12 w0 i0
    refine wpAnyH_ready (rs := [13]) q11_12_ (by simp) (AllReadyH.cons (o := o13) rfl (fun K hK => ?_) AllReadyH.nil)
    · rw [if_pos (wa13 _)]
      refine s11_12_13 u11 u12 w0 i0 K (fun u13 w1 i1 => hK.out _ _ (z11_12_13_ u11 u12 u13 w1 i1) (fun _ => ?_))
      clear hK
      refine wpAnyH_take (i := 14) (oi := o14) rfl hs f11_12_13_14 r11_12_13_14 (fun _ _ _ h => h) (y11_12_13_14 u11 u12 u13 w1 i1) (z11_12_13_ u11 u12 u13 w1 i1) ?_
      exact t11_12_13_ u11 u12 u13 w1 i1
  have t11_ : ∀ (u11 : Value) w', I11_ u11 w' → wpAnyH P .any #[o0, o1, o2, o3, o4, o5, o6, o7, o8, o9, o10, o11, o12, o13, o14] (NoPanic Q) S 3 #[true, true, true, true, true, true, true, true, true, true, true, true, false, false, false] (B.put o11.dst u11) w' := by
    intro u11 w0 i0
    refine wpAnyH_ready (rs := [12]) q11_ (by simp) (AllReadyH.cons (o := o12) rfl (fun K hK => ?_) AllReadyH.nil)
    · rw [if_pos (wa12 _)]
      refine s11_12 u11 w0 i0 K (fun u12 w1 i1 => hK.out _ _ (z11_12_ u11 u12 w1 i1) (fun _ => ?_))
      clear hK
      exact t11_12_ u11 u12 w1 i1
  have t_ : ∀ w', I_  w' → wpAnyH P .any #[o0, o1, o2, o3, o4, o5, o6, o7, o8, o9, o10, o11, o12, o13, o14] (NoPanic Q) S 4 #[true, true, true, true, true, true, true, true, true, true, true, false, false, false, false] B w' := by
    intro w0 i0
    refine wpAnyH_ready (rs := [11]) q_ (by simp) (AllReadyH.cons (o := o11) rfl (fun K hK => ?_) AllReadyH.nil)
    · rw [if_pos (wa11 _)]
      refine s_11  w0 i0 K (fun u11 w1 i1 => hK.out _ _ (z11_ u11 w1 i1) (fun _ => ?_))
      clear hK
      exact t11_ u11 w1 i1
  exact t_ w.drew i0

end
end Go.Proofs.YtecadmldnjlibaaDoor
namespace Go.Proofs.YtecadmldnjlibaaDoor
open Go.RowKit Go.BigFrame
set_option linter.unusedVariables false
set_option linter.unusedSimpArgs false

set_option maxRecDepth 100000 in
set_option maxHeartbeats 1000000 in
/-- Lists that read alike are alike. -/
theorem samep_any (va vb : Value) (ds : List (List Nat)) (w : World) (ha : RdD w va ds) (hb : RdD w vb ds) :
    Calls Tryd.prog 21 #[va, vb] w fun e w' => e = .returned (.bool true) ∧ Kept [] w w' := by
  have HA := hide ha
  have HB := hide hb
  obtain ⟨aa, an, ac, rfl, a1, a2, a3, a4, a5⟩ := ha
  obtain ⟨ba, bn, bc, rfl, b1, b2, b3, b4, b5⟩ := hb
  subst a1
  subst b1
  clear a4 a5 b4 b5
  go_enter Tryd.func21, Tryd.ntmps21
  go_wp2_with fail
  go_loopw [5] (fun t5 wr => ∃ (i : Nat), i ≤ ds.length ∧ t5 = .int .i64 (i : Int) ∧ Hid (Kept [] w wr)) (fun t _ => ds.length - (intOf t).toNat)
  case atStart => exact ⟨0, Nat.zero_le _, rfl, hide (Kept.refl _ _)⟩
  case round =>
    obtain ⟨i, hi, rfl, HK⟩ := hrel
    by_cases hlt : i < ds.length
    · have hlt' : (i : Int) < (ds.length : Int) := by omega
      obtain ⟨b, o, rfl, hc⟩ := ((unhide HA).old (unhide HK)).range (by omega)
      obtain ⟨b', o', rfl, hc'⟩ := ((unhide HB).old (unhide HK)).range (by omega)
      have r1 := hc i hlt
      have r2 := hc' i hlt
      have hdg := (unhide HA).dg (d := ds.getD i []) (by rw [List.getD_eq_getElem?_getD, List.getElem?_eq_getElem hlt]; exact List.getElem_mem hlt)
      generalize ds.getD i [] = d at r1 r2 hdg
      have hdl := hdg.1
      have hq := fun W => dig_eq W d d hdl hdl
      rw [decide_eq_true rfl] at hq
      have ia : ¬ (i : Int) < 0 := by omega
      have ib : ¬ (ds.length : Int) ≤ i := by omega
      clear hc hc' hdg
      have hne : ∀ p : Prop, (∀ w', Kept [] wr w' → p) = p := fun p => propext ⟨fun h => h wr (Kept.refl [] wr), fun h _ _ => h⟩
      go_wp2_with fail
      refine wp_region_keep (by kernel_rfl) (by kernel_rfl) ?_
      iterate 3 (go_big_quiet_step (fail))
      refine wpQuiet_mid rfl 41 _ rfl b (o + i * 32) rfl (d.map u8) _ (fun w' hw' => range_kept r1 hw' (by simp)) Tryd.underlying41 rfl (by rw [List.length_map, hdl]; exact Tryd.size_dig) ?_
      simp only [Act.put, List.setIfInBounds_toArray, List.set_cons_succ, List.set_cons_zero]
      iterate 3 (go_big_quiet_step (fail))
      refine wpQuiet_mid rfl 41 _ rfl b' (o' + i * 32) rfl (d.map u8) _ (fun w' hw' => range_kept r2 hw' (by simp)) Tryd.underlying41 rfl (by rw [List.length_map, hdl]; exact Tryd.size_dig) ?_
      simp only [Act.put, List.setIfInBounds_toArray, List.set_cons_succ, List.set_cons_zero]
      refine wpQuiet_val rfl (.bool false) (fun w' _ => run_neq 41 _ _ _ rfl (d.map u8).toArray (d.map u8).toArray rfl rfl w' true (by kernel_rfl) (hq w')) ?_
      simp only [Act.put, List.setIfInBounds_toArray, List.set_cons_succ, List.set_cons_zero]
      refine wpQuiet_nil ?_
      intro w6 hw6
      have HK6 := hide ((unhide HK).trans hw6 (by simp))
      clear hw6 hne hq r1 r2
      go_wp2_with fail
      refine ⟨⟨i + 1, by omega, by simp, HK6⟩, ?_⟩
      simp [intOf]
      omega
    · have hlt' : ¬ (i : Int) < (ds.length : Int) := by omega
      go_wp2_with fail
      go_ret
      exact ⟨rfl, unhide HK⟩

theorem run_mid {P : Program} {op : Oper} {a : Act} (ty : TypeId) (x : Operand) (ho : op.op = .load ty x) (b off : Nat) (hx : a.eval x = .pointer (some ⟨b, off, none⟩)) (cs : List Value) (d : TypeDesc) (w : World) (hg : w.rangeAt b off cs)
    (hu : P.underlying ty = some d) (hd : d.isRow = true) (hi : (P.info? ty).map (·.size) = some cs.length) : (execOp a.eval op).run P w = .ok (.value (.agg cs.toArray)) w := by
  unfold execOp
  simp only [ho]
  have := run_loadVar_mid (P := P) w b off ty cs d hg hu hd hi
  simp only [hx, Instr.loadAt, Instr.sureAddr, Sem.run_bind, Sem.run_pure, Result.andThen_ok, this]

theorem wp_appendP {P : Program} {o : Oper} {a : Act} {w : World} {K : Act → World → Prop} {Q : Exit → Act → World → Prop} {s x : Operand} {t : TypeId} (ho : o.op = .call { callee := .builtin .append, args := #[s, x], argTypes := #[t, t] }) (hty : o.type = t) {v u r : Value} {w1 : World} (hs : a.eval s = v) (hx : a.eval x = u)
    (hrun : (Builtin.append_ #[t, t] t #[v, u]).run P w = .ok r w1) (hK : K (a.put o.dst r) w1) : o.wp P a w K Q := by
  unfold Oper.wp execOp
  simp only [ho, hty, resolve, invoke, builtin, Sem.run_bind, Sem.run_pure, Result.andThen_ok, List.map_toArray, List.map_cons, List.map_nil, hs, hx, hrun]
  exact hK

theorem upL_dg (z : Int) : ∀ (ls : List (List Nat)), (∀ d ∈ ls, Dg d) → ∀ d ∈ upL z ls, Dg d
  | [], _, d, hd => by simp [upL] at hd
  | [a], h, d, hd => h d (by simpa [upL] using hd)
  | a :: b :: r, h, d, hd => by
    rw [upL, List.mem_cons] at hd
    rcases hd with rfl | hd
    · exact nodS_dg z _ _
    · exact upL_dg z r (fun x hx => h x (by simp [hx])) d hd

set_option maxRecDepth 100000 in
set_option maxHeartbeats 1000000 in
theorem up_any (k : Nat) (hk : 1 ≤ k ∧ k ≤ 32) (lv : Value) (ls : List (List Nat)) (w : World) (hl : RdD w lv ls) (hN : ls.length ≤ 1000000) :
    Calls Tryd.prog 61 #[.int .i64 (k : Int), lv] w fun e w' => ∃ u, e = .returned u ∧ OwD w w' u (upL (k : Int) ls) := by
  have HL := hide hl
  have HDG := hide (fun d hd => hl.dg (d := d) hd)
  have HUL := hide (upL_len (k : Int) ls)
  obtain ⟨la, ll, lc, rfl, l1, l2, l3, l4, l5⟩ := hl
  subst l1
  have HC5 := hide (fun h => l5 h)
  clear l4 l5
  go_enter Tryd.func61, Tryd.ntmps61
  go_wp2_with fail
  go_loopw [5, 6] (fun t5 t6 wr => ∃ (j : Nat), 2 * j ≤ ls.length + 1 ∧ t6 = .int .i64 ((2 * j : Nat) : Int) ∧ Hid (OwD w wr t5 ((upL (k : Int) ls).take j))) (fun _ t _ => ls.length + 1 - (intOf t).toNat)
  case atStart => exact ⟨0, by omega, rfl, hide (OwD.nil _)⟩
  case round =>
    obtain ⟨j, hj, rfl, HO⟩ := hrel
    by_cases hlt : 2 * j < ls.length
    · obtain ⟨b, o, hla, hc⟩ := unhide HC5 (by omega)
      subst hla
      have HAT := hide (upL_at (k : Int) ls j)
      have r0 := hc (2 * j) hlt
      have hbw : b < w.heap.size := by
        have hd0 := (unhide HDG (ls.getD (2 * j) []) (by rw [List.getD_eq_getElem?_getD, List.getElem?_eq_getElem hlt]; exact List.getElem_mem hlt)).1
        cases hx : ls.getD (2 * j) [] with
        | nil => rw [hx] at hd0; simp at hd0
        | cons y r => rw [hx] at r0; exact block_lt_of_cell (r0 0 _ rfl)
      have HLN := hide (by rw [List.length_take]; omega : ((upL (k : Int) ls).take j).length ≤ j)
      have hdg0 := unhide HDG (ls.getD (2 * j) []) (by rw [List.getD_eq_getElem?_getD, List.getElem?_eq_getElem hlt]; exact List.getElem_mem hlt)
      obtain ⟨i, hij⟩ : ∃ i, 2 * j = i := ⟨_, rfl⟩
      rw [hij] at hlt r0 hdg0 HAT
      have HIJ := hide hij
      have hlt' : (i : Int) < (ls.length : Int) := by omega
      have ia : ¬ (i : Int) < 0 := by omega
      have ib : ¬ (ls.length : Int) ≤ i := by omega
      have hi1 : IntKind.i64.wrap ((i : Int) + 1) = (i : Int) + 1 := by simp [IntKind.wrap, IntKind.signed, IntKind.bits]; omega
      have hi2 : IntKind.i64.wrap ((i : Int) + 2) = (i : Int) + 2 := by simp [IntKind.wrap, IntKind.signed, IntKind.bits]; omega
      rw [hij]
      clear hij
      have r0 := range_kept r0 (unhide HO).kept (by simp)
      by_cases hbr : i + 1 < ls.length
      · have hbr' : (i : Int) + 1 < (ls.length : Int) := by omega
        have hdg1 := unhide HDG (ls.getD (i + 1) []) (by rw [List.getD_eq_getElem?_getD, List.getElem?_eq_getElem hbr]; exact List.getElem_mem hbr)
        have r1 := range_kept (hc (i + 1) hbr) (unhide HO).kept (by simp)
        rw [if_pos hbr] at HAT
        generalize ls.getD i [] = d0 at r0 hdg0 HAT
        generalize ls.getD (i + 1) [] = d1 at r1 hdg1 HAT
        have HSN := hide (by rw [List.take_add_one, unhide HAT]; rfl : (upL (k : Int) ls).take (j + 1) = (upL (k : Int) ls).take j ++ [nodS (k : Int) d0 d1])
        have ic : ¬ (i : Int) + 1 < 0 := by omega
        have id' : ¬ (ls.length : Int) ≤ (i : Int) + 1 := by omega
        have HND := hide (fun W => refNode_any k d0 d1 W hk hdg0 hdg1)
        have HDX := hide (nodS_dg (k : Int) d0 d1)
        generalize nodS (k : Int) d0 d1 = X at HND HDX HSN
        generalize (upL (k : Int) ls).take j = ds at HO HSN HLN
        obtain ⟨ua, ucap, rfl⟩ := owns_form (unhide HO).own
        have hxl := (unhide HDX).1
        have h0l := hdg0.1
        have h1l := hdg1.1
        have HR0 := hide r0
        have HR1 := hide r1
        have hnb : b ∉ (Value.slice ua ds.length ucap).ownBlock.toList := by
          intro hm
          have := ((unhide HO).own.lt b (by simpa using hm)).1
          omega
        clear hc r0 r1 HAT
        go_wp2_with fail
        refine wp_mu15 (by kernel_rfl) (by kernel_rfl) (by kernel_rfl) (by kernel_rfl) (by kernel_rfl) (by kernel_rfl) (by kernel_rfl) (by kernel_rfl) (by kernel_rfl) (by kernel_rfl) (by kernel_rfl) (by kernel_rfl) (by kernel_rfl) (by kernel_rfl) (by kernel_rfl) (by kernel_rfl) (by kernel_rfl) (by kernel_rfl) (by kernel_rfl) (by kernel_rfl) (by kernel_rfl) (by kernel_rfl) (by kernel_rfl) (by kernel_rfl) (by kernel_rfl) (by kernel_rfl) (by kernel_rfl) (by kernel_rfl) (by kernel_rfl) (by kernel_rfl) rfl rfl rfl
          (.slice ua ds.length ucap) (.int .i64 (k : Int)) (.slice (some ⟨b, o, none⟩) ls.length lc) (.int .i64 (i : Int)) (.pointer (some ⟨b, o + i * 32, none⟩)) (.agg (d0.map Go.Proofs.YtecadmldnjlibaaDoor.u8).toArray) (.slice (some ⟨b, o, none⟩) ls.length lc) (.int .i64 (i : Int)) (.int .i64 ((i : Int) + 1)) (.pointer (some ⟨b, o + (i + 1) * 32, none⟩)) (.agg (d1.map Go.Proofs.YtecadmldnjlibaaDoor.u8).toArray) _ _ _ _ _ _ _ _ _ _ _
          (fun w' => Kept (Value.slice ua ds.length ucap).ownBlock.toList wr w')
          (fun w' => Kept [] wr w')
          (fun u11 w' => u11 = .agg (X.map Go.Proofs.YtecadmldnjlibaaDoor.u8).toArray ∧ Kept [] wr w')
          (fun u11 u12 w' => u11 = .agg (X.map Go.Proofs.YtecadmldnjlibaaDoor.u8).toArray ∧ (∃ H, u12 = .slice (some ⟨H, 0, none⟩) 1 1 ∧ w'.heap[H]? = some (.cells (brow X) 41 (0, 0))) ∧ Kept [] wr w')
          (fun u11 u12 u13 w' => (∃ aa cc, u13 = .slice aa (ds.length + 1) cc) ∧ OwD w w' u13 (ds ++ [X]) ∧ Kept (Value.slice ua ds.length ucap).ownBlock.toList wr w')
          (fun u13 => u13)
          (by simp only [Act.put, List.setIfInBounds_toArray, List.set_cons_zero, List.set_cons_succ]; rfl) (by exact Or.inl ⟨by rfl, fun W' hW' => by go_simp⟩)
          (by simp only [Act.put, List.setIfInBounds_toArray, List.set_cons_zero, List.set_cons_succ]; rfl) (by exact Or.inl ⟨by rfl, fun W' hW' => by go_simp⟩)
          (by simp only [Act.put, List.setIfInBounds_toArray, List.set_cons_zero, List.set_cons_succ]; rfl) (by exact Or.inl ⟨by rfl, fun W' hW' => by go_simp⟩)
          (by simp only [Act.put, List.setIfInBounds_toArray, List.set_cons_zero, List.set_cons_succ]; rfl) (by exact Or.inl ⟨by rfl, fun W' hW' => by go_simp⟩)
          (by simp only [Act.put, List.setIfInBounds_toArray, List.set_cons_zero, List.set_cons_succ]; rfl) (by exact Or.inl ⟨by rfl, fun W' hW' => by go_simp⟩)
          (by simp only [Act.put, List.setIfInBounds_toArray, List.set_cons_zero, List.set_cons_succ]; rfl) (by exact Or.inl ⟨by rfl, fun W' hW' => run_mid 41 (.tmp 22) rfl b (o + i * 32) rfl (d0.map Go.Proofs.YtecadmldnjlibaaDoor.u8) _ W' (range_kept (unhide HR0) hW' hnb) Tryd.underlying41 rfl (by rw [List.length_map, h0l]; exact Tryd.size_dig)⟩)
          (by simp only [Act.put, List.setIfInBounds_toArray, List.set_cons_zero, List.set_cons_succ]; rfl) (by exact Or.inl ⟨by rfl, fun W' hW' => by go_simp⟩)
          (by simp only [Act.put, List.setIfInBounds_toArray, List.set_cons_zero, List.set_cons_succ]; rfl) (by exact Or.inl ⟨by rfl, fun W' hW' => by go_simp⟩)
          (by simp only [Act.put, List.setIfInBounds_toArray, List.set_cons_zero, List.set_cons_succ]; rfl) (by exact Or.inl ⟨by rfl, fun W' hW' => by go_simp⟩)
          (by simp only [Act.put, List.setIfInBounds_toArray, List.set_cons_zero, List.set_cons_succ]; rfl) (by exact Or.inl ⟨by rfl, fun W' hW' => by go_simp⟩)
          (by simp only [Act.put, List.setIfInBounds_toArray, List.set_cons_zero, List.set_cons_succ]; rfl) (by exact Or.inl ⟨by rfl, fun W' hW' => run_mid 41 (.tmp 27) rfl b (o + (i + 1) * 32) rfl (d1.map Go.Proofs.YtecadmldnjlibaaDoor.u8) _ W' (range_kept (unhide HR1) hW' hnb) Tryd.underlying41 rfl (by rw [List.length_map, h1l]; exact Tryd.size_dig)⟩)
          (Kept.refl [] wr).drew
          ⟨fun w' h => h.mono (by simp), fun u w' h => h.2.mono (by simp), fun u y w' h => h.2.2.mono (by simp), fun u y x w' h => h.2.2⟩
          (by intro w' i9 K hK; exact wp_callN rfl Tryd.call30 [.int .i64 (k : Int), .agg (brow d0), .agg (brow d1)] rfl (unhide HND w') (fun e w2 h => ⟨_, h.1, hK _ _ ⟨rfl, i9.trans h.2 (by simp)⟩⟩))
          (by
            intro u11 w' hh K hK
            simp only [Act.put, List.setIfInBounds_toArray, List.set_cons_zero, List.set_cons_succ] at hK ⊢
            obtain ⟨rfl, i9⟩ := hh
            have hfs : ∀ A : Array Value, (List.foldl (fun cs x => cs.setIfInBounds x.snd x.fst) A (List.map Go.Proofs.YtecadmldnjlibaaDoor.u8 X).zipIdx).size = A.size := fun A => fold_size _ A 0
            unfold Oper.wp execOp
            go_simp
            rw [zb32, one_digP X hxl]
            exact hK _ _ ⟨rfl, ⟨_, rfl, heap_alloc_new _ _⟩, i9.alloc _⟩)
          (by
            intro u11 u12 w' hh K hK
            simp only [Act.put, List.setIfInBounds_toArray, List.set_cons_zero, List.set_cons_succ] at hK ⊢
            obtain ⟨rfl, ⟨H, rfl, hH⟩, i9⟩ := hh
            have hO := (unhide HO).pass i9
            obtain ⟨ao1, cap1, w1, hrun, h2, h3⟩ := appendD w' w.heap.size (.slice ua ds.length ucap) ds [X] (some ⟨H, 0, none⟩) 1 1 hO.own (RdD.oneP hH (unhide HDX)) (by have := unhide HLN; simp; omega) hO.kept.size
            exact wp_appendP rfl rfl rfl rfl hrun (hK _ _ ⟨⟨_, _, rfl⟩, hO.push (unhide HDX) h2 h3, (i9.mono (by simp)).grown h3 (by intro k hk; left; simp [hk])⟩))
          (by rintro u11 u12 u13 w' ⟨⟨aa, cc, rfl⟩, _⟩; exact Or.inl ⟨by rfl, fun W' hW' => by go_simp⟩)
          ?_
        rintro u11 u12 u13 X4 ⟨⟨aa, cc, rfl⟩, hO4, k4⟩
        simp only [Act.put, List.setIfInBounds_toArray, List.set_cons_zero, List.set_cons_succ]
        have HO4 := hide hO4
        clear hO4 k4
        go_wp2_with (first | simp only [hi2])
        refine ⟨⟨j + 1, by have := unhide HIJ; omega, by have := unhide HIJ; simp; omega, by rw [unhide HSN]; exact HO4⟩, ?_⟩
        simp [intOf]
        omega
      · have hbr' : ¬ (i : Int) + 1 < (ls.length : Int) := by omega
        rw [if_neg hbr, if_pos hlt] at HAT
        generalize ls.getD i [] = X at r0 hdg0 HAT
        have HSN := hide (by rw [List.take_add_one, unhide HAT]; rfl : (upL (k : Int) ls).take (j + 1) = (upL (k : Int) ls).take j ++ [X])
        generalize (upL (k : Int) ls).take j = ds at HO HSN HLN
        obtain ⟨ua, ucap, rfl⟩ := owns_form (unhide HO).own
        have HDX := hide hdg0
        have hxl := hdg0.1
        have HR0 := hide r0
        have HOC := hide ((unhide HO).pass ((Kept.refl [] wr).alloc (.cells (brow X) 41)))
        have HNC := hide (heap_alloc_new wr (.cells (brow X) 41))
        clear hc r0 HAT hdg0
        go_wp2_with (first
          | simp only [hi2]
          | (refine wpList_load_mid rfl 41 _ rfl b (o + i * 32) rfl (X.map Go.Proofs.YtecadmldnjlibaaDoor.u8) _ (unhide HR0) Tryd.underlying41 rfl (by rw [List.length_map, hxl]; exact Tryd.size_dig) ?_)
          | (at_builtin; rw [zb32, one_digP X hxl]; refine wpList_appendD rfl _ _ rfl rfl (wr.alloc (.cells (brow X) 41)) w.heap.size (.slice ua ds.length ucap) ds [X] (some ⟨wr.heap.size, 0, none⟩) 1 1 (unhide HOC).own (RdD.oneP (unhide HNC) (unhide HDX)) (by have := unhide HLN; simp; omega) (unhide HOC).kept.size rfl rfl ?_; intro ao3 cap3 w3 HO3 HG3; have HO4 := hide ((unhide HOC).push (unhide HDX) (unhide HO3) (unhide HG3)); clear HO3 HG3))
        refine ⟨⟨j + 1, by have := unhide HIJ; omega, by have := unhide HIJ; simp; omega, by rw [unhide HSN]; exact HO4⟩, ?_⟩
        simp [intOf]
        omega
    · have hlt' : ¬ ((2 * j : Nat) : Int) < (ls.length : Int) := by omega
      have HE := hide (by rw [List.take_of_length_le (by rw [unhide HUL]; omega)] : (upL (k : Int) ls).take j = upL (k : Int) ls)
      rw [unhide HE] at HO
      go_wp2_with fail
      go_ret
      exact ⟨_, rfl, unhide HO⟩
end Go.Proofs.YtecadmldnjlibaaDoor
namespace Go.Proofs.YtecadmldnjlibaaDoor
open Go.RowKit Go.BigFrame
set_option linter.unusedVariables false
set_option linter.unusedSimpArgs false

def lenV : Value → Nat
  | .slice _ n _ => n
  | _ => 0
theorem RdD.keptP {L : List Nat} {w w' : World} {v : Value} {ds : List (List Nat)} (h : RdD w v ds) (k : Kept L w w') (hn : ∀ b ∈ blk v, b ∉ L) : RdD w' v ds := by
  obtain ⟨ao, len, cap, rfl, h1, h2, h3, h4, h5⟩ := h
  refine ⟨ao, len, cap, rfl, h1, h2, h3, h4, fun hp => ?_⟩
  obtain ⟨b, o, rfl, hc⟩ := h5 hp
  exact ⟨b, o, rfl, fun i hi => range_kept (hc i hi) k (hn b (by simp [blk]))⟩
theorem OwD.bk {w0 w : World} {v : Value} {ds : List (List Nat)} (h : OwD w0 w v ds) : ∀ b ∈ blk v, w0.heap.size ≤ b := by
  intro b hb
  rcases h.own.2 with ⟨rfl, _⟩ | ⟨g, cap, cur, rfl, hg, _⟩
  · simp [blk] at hb
  · simp [blk] at hb; omega
theorem lvN_le (N h : Nat) : lvN N h ≤ N := by
  rcases Nat.lt_or_ge N (lvN N h) with h1 | h1
  · have h2 := lt_lvN.1 h1
    have h3 : 1 ≤ 2 ^ h := Nat.one_le_two_pow
    have := Nat.le_mul_of_pos_right N (show 0 < 2 ^ h by omega)
    omega
  · exact h1
/-- The digests of an inclusion proof up to a height. -/
def ptD (z : Int) (L : List (List Nat)) (i h : Nat) : List (List Nat) := (levs L.length i h).map fun s => rngD z (noT z) L s.1 s.2
theorem ptD_some {z : Int} {L : List (List Nat)} {i h : Nat} (hb : broN i h * 2 ^ h < L.length) : ptD z L i (h + 1) = ptD z L i h ++ [(lvl z (noT z) L h).getD (broN i h) []] := by
  unfold ptD
  rw [levs_succ, List.map_append, lvl_getD hb]
  unfold broS
  rw [if_pos hb]
  rfl
theorem ptD_none {z : Int} {L : List (List Nat)} {i h : Nat} (hb : ¬ broN i h * 2 ^ h < L.length) : ptD z L i (h + 1) = ptD z L i h := by
  unfold ptD
  rw [levs_succ]
  unfold broS
  rw [if_neg hb]
  simp
theorem ptD_len (z : Int) (L : List (List Nat)) (i h : Nat) : (ptD z L i h).length ≤ h := by
  unfold ptD levs
  rw [List.length_map]
  refine Nat.le_trans (List.length_filterMap_le _ _) ?_
  simp
theorem ptD_end {z : Int} {L : List (List Nat)} {i h : Nat} (hi : i < L.length) (hN : L.length ≤ 2 ^ h) (hh : h ≤ 64) : ptD z L i h = ptD z L i 64 := by
  unfold ptD
  have := levs_stop hi hN (64 - h)
  rw [show h + (64 - h) = 64 by omega] at this
  rw [this]

set_option maxRecDepth 100000 in
set_option maxHeartbeats 1000000 in
theorem refPath_any (k : Nat) (hk : 1 ≤ k ∧ k ≤ 32) (lv : Value) (L : List (List Nat)) (i : Nat) (w : World) (hl : RdD w lv L) (hi : i < L.length) (hN : L.length ≤ 1000000) :
    Calls Tryd.prog 45 #[.int .i64 (k : Int), lv, .int .i64 (i : Int)] w fun e w' => ∃ u, e = .returned u ∧ OwD w w' u (ptD (k : Int) L i 64) := by
  have HL := hide hl
  have hlz : lvl (k : Int) (noT (k : Int)) L 0 = L := lvl_zero _ _ _
  have HLZ := hide hlz
  go_enter Tryd.func45, Tryd.ntmps45
  obtain ⟨la, ll, lc, rfl, -⟩ := hl
  clear hlz
  go_wp2_with fail
  go_loopw [2, 7, 8] (fun t2 t7 t8 wr => ∃ (h : Nat), h ≤ 60 ∧ t2 = .int .i64 ((i / 2 ^ h : Nat) : Int) ∧ Hid (OwD w wr t7 (ptD (k : Int) L i h)) ∧ Hid (RdD wr t8 (lvl (k : Int) (noT (k : Int)) L h)) ∧ Hid (∀ b ∈ blk t8, t7.ownBlock ≠ some b)) (fun _ _ t _ => lenV t)
  case atStart => exact ⟨0, by omega, by simp, hide (by unfold ptD levs; exact OwD.nil _), hide (by rw [unhide HLZ]; exact unhide HL), hide (by intro b _; simp [Value.ownBlock])⟩
  case round =>
    obtain ⟨h, hh, rfl, HO, HR, HNE⟩ := hrel
    have hll := lvl_len (k : Int) (noT (k : Int)) L h
    have HLU := hide (lvl_up (k : Int) (noT (k : Int)) L h)
    have HLV1 := hide (lvN_up L.length h)
    have HBS := hide (fun hb => ptD_some (z := (k : Int)) (L := L) (i := i) (h := h) hb)
    have HBN := hide (fun hb => ptD_none (z := (k : Int)) (L := L) (i := i) (h := h) hb)
    have HPL := hide (ptD_len (k : Int) L i h)
    have HPE := hide (fun hN => ptD_end (z := (k : Int)) (L := L) (i := i) (h := h) hi hN (by omega))
    have HLT := hide (fun b => lt_lvN (N := L.length) (h := h) (b := b))
    have HQ2 := hide (by rw [Nat.pow_succ, ← Nat.div_div_eq_div_mul] : i / 2 ^ (h + 1) = i / 2 ^ h / 2)
    have hqi : i / 2 ^ h ≤ 1000000 := Nat.le_trans (Nat.div_le_self _ _) (by omega)
    have HBRN := hide (by unfold broN; rfl : broN i h = if i / 2 ^ h % 2 = 0 then i / 2 ^ h + 1 else i / 2 ^ h - 1)
    obtain ⟨va, vn, vc, rfl, v1, v2, v3, -⟩ := id (unhide HR)
    have hvn : vn = lvN L.length h := by rw [← hll, v1]
    have HVN := hide hvn
    have HUP := hide (fun W (hr : RdD W (.slice va vn vc) (lvl (k : Int) (noT (k : Int)) L h)) => up_any k hk (.slice va vn vc) _ W hr (by rw [v1, hvn]; exact Nat.le_trans (lvN_le _ _) hN))
    rw [unhide HLU] at HUP
    have HLL := hide (lvl_len (k : Int) (noT (k : Int)) L (h + 1))
    have HDGL := hide (fun d hd => (unhide HR).dg (d := d) hd)
    have hvb : vn ≤ 1000000 := by rw [hvn]; exact Nat.le_trans (lvN_le _ _) hN
    have HH := hide (fun (hv : 1 < vn) => (by
      rcases Nat.lt_or_ge h 20 with h9 | h9
      · exact h9
      · have h8 := lt_lvN.1 (by rw [← hvn]; exact hv : 1 < lvN L.length h)
        have : 2 ^ 20 ≤ 2 ^ h := Nat.pow_le_pow_right (by omega) h9
        omega : h < 20))
    have HV1 := hide v1
    clear v1 hvn hll
    obtain ⟨q, hq⟩ : ∃ q, i / 2 ^ h = q := ⟨_, rfl⟩
    rw [hq] at HQ2 hqi HBRN
    have HQH := hide (by rw [unhide HQ2]; omega : ((i / 2 ^ (h + 1) : Nat) : Int) = (q : Int) / 2)
    rw [hq]
    clear hq
    by_cases hg : 1 < vn
    · have hg' : (1 : Int) < (vn : Int) := by omega
      have hh1 : h + 1 ≤ 60 := by have := unhide HH hg; omega
      obtain ⟨bn, hbn⟩ : ∃ bn, broN i h = bn := ⟨_, rfl⟩
      have hbn2 : bn = if q % 2 = 0 then q + 1 else q - 1 := by rw [← hbn]; exact unhide HBRN
      rw [hbn] at HBS HBN
      have HVN2 := unhide HVN
      have HLTB := hide ((unhide HLT bn))
      rw [← HVN2] at HLTB
      generalize lvl (k : Int) (noT (k : Int)) L h = lev at HR HUP HDGL HV1 HBS
      generalize hlev2 : lvl (k : Int) (noT (k : Int)) L (h + 1) = lev2 at HUP HLL
      have HLEV2 := hide hlev2
      clear hlev2 hbn HBRN HLU HPE HLT
      have HME := hide (by rw [unhide HLL, unhide HLV1, ← HVN2]; omega : lev2.length < vn)
      clear HVN2
      rcases (by omega : q % 2 = 0 ∨ q % 2 = 1) with hpar | hpar
      · have hz : (q : Int) % 2 = 0 := by omega
        have hz2 : (q : Int).tmod 2 = 0 := by rw [Int.tmod_eq_emod_of_nonneg (by omega)]; exact hz
        rw [if_pos hpar] at hbn2
        subst hbn2
        by_cases hbl : q + 1 < vn
        · have hbl' : (q : Int) + 1 < (vn : Int) := by omega
          have ic : ¬ (q : Int) + 1 < 0 := by omega
          have id' : ¬ (vn : Int) ≤ (q : Int) + 1 := by omega
          have hlv : q + 1 < lev.length := by rw [unhide HV1]; exact hbl
          obtain ⟨b, o, rfl, hc⟩ := (unhide HR).range (by omega)
          have HC := hide (hc (q + 1) hlv)
          have HDX := hide (unhide HDGL (lev.getD (q + 1) []) (by rw [List.getD_eq_getElem?_getD, List.getElem?_eq_getElem hlv]; exact List.getElem_mem hlv))
          have HSN := hide (unhide HBS ((unhide HLTB).1 hbl))
          generalize lev.getD (q + 1) [] = X at HC HDX HSN
          generalize ptD (k : Int) L i h = ds at HO HSN HPL
          obtain ⟨ua, ucap, rfl⟩ := owns_form (unhide HO).own
          have hxl := (unhide HDX).1
          have HOC := hide ((unhide HO).pass ((Kept.refl [] wr).alloc (.cells (brow X) 41)))
          have HNC := hide (heap_alloc_new wr (.cells (brow X) 41))
          have HRC := hide ((unhide HR).old ((Kept.refl [] wr).alloc (.cells (brow X) 41)))
          clear hc HBS HBN HLTB HDGL HR
          go_wp2_with (first
            | (refine wpList_load_mid rfl 41 _ rfl b (o + (q + 1) * 32) rfl (X.map Go.Proofs.YtecadmldnjlibaaDoor.u8) _ (unhide HC) Tryd.underlying41 rfl (by rw [List.length_map, hxl]; exact Tryd.size_dig) ?_)
            | (at_builtin; rw [zb32, one_digP X hxl]; refine wpList_appendD rfl _ _ rfl rfl (wr.alloc (.cells (brow X) 41)) w.heap.size (.slice ua ds.length ucap) ds [X] (some ⟨wr.heap.size, 0, none⟩) 1 1 (unhide HOC).own (RdD.oneP (unhide HNC) (unhide HDX)) (by have := unhide HPL; simp; omega) (unhide HOC).kept.size rfl rfl ?_; intro ao3 cap3 w3 HO3 HG3; have HO4 := hide ((unhide HOC).push (unhide HDX) (unhide HO3) (unhide HG3)); have HR3 := hide ((unhide HRC).keptP ((Kept.refl (Value.slice ua ds.length ucap).ownBlock.toList _).grown (unhide HG3) (by intro k hk; left; simp [hk])) (by intro b9 hb9 hm; exact unhide HNE b9 hb9 (by simpa using hm))); clear HO3 HG3))
          refine (unhide HUP w3 (unhide HR3)).mono ?_
          rintro e w4 ⟨u, rfl, o4⟩
          obtain ⟨u4, c4, rfl⟩ := o4.form
          have HO5 := hide ((unhide HO4).pass o4.kept)
          have HR5 := hide o4.rd
          have HN5 := hide (by intro b9 hb9 e9; have h1 := o4.bk b9 hb9; have h2 := ((unhide HO4).own.lt b9 e9).2; omega : ∀ b ∈ blk (.slice u4 lev2.length c4), (Value.slice ao3 (ds.length + [X].length) cap3).ownBlock ≠ some b)
          clear o4 HO4 HR3 HUP
          go_wp2_with fail
          go_roundw
          case rel => exact ⟨h + 1, hh1, by rw [unhide HQH], by rw [unhide HSN]; exact HO5, by rw [unhide HLEV2]; exact HR5, HN5⟩
          case measure => simp only [lenV]; exact unhide HME
        · have hbl' : ¬ (q : Int) + 1 < (vn : Int) := by omega
          have HSN := hide (unhide HBN (fun hx => hbl ((unhide HLTB).2 hx)))
          clear HBS HBN HLTB HDGL
          go_wp2_with fail
          refine (unhide HUP wr (unhide HR)).mono ?_
          rintro e w4 ⟨u, rfl, o4⟩
          obtain ⟨u4, c4, rfl⟩ := o4.form
          have HO5 := hide ((unhide HO).pass o4.kept)
          have HR5 := hide o4.rd
          have HN5 := hide (by intro b9 hb9 e9; have h1 := o4.bk b9 hb9; have h2 := ((unhide HO).own.lt b9 e9).2; omega : ∀ b ∈ blk (.slice u4 lev2.length c4), u7.ownBlock ≠ some b)
          clear o4 HO HUP
          go_wp2_with fail
          go_roundw
          case rel => exact ⟨h + 1, hh1, by rw [unhide HQH], by rw [unhide HSN]; exact HO5, by rw [unhide HLEV2]; exact HR5, HN5⟩
          case measure => simp only [lenV]; exact unhide HME
      · have hz : (q : Int) % 2 = 1 := by omega
        have hz2 : (q : Int).tmod 2 = 1 := by rw [Int.tmod_eq_emod_of_nonneg (by omega)]; exact hz
        rw [if_neg (by omega)] at hbn2
        subst hbn2
        by_cases hbl : q - 1 < vn
        · have hbl' : (q : Int) - 1 < (vn : Int) := by omega
          have ic : ¬ (q : Int) - 1 < 0 := by omega
          have id' : ¬ (vn : Int) ≤ (q : Int) - 1 := by omega
          have hlv : q - 1 < lev.length := by rw [unhide HV1]; exact hbl
          obtain ⟨b, o, rfl, hc⟩ := (unhide HR).range (by omega)
          have HC := hide (hc (q - 1) hlv)
          have HDX := hide (unhide HDGL (lev.getD (q - 1) []) (by rw [List.getD_eq_getElem?_getD, List.getElem?_eq_getElem hlv]; exact List.getElem_mem hlv))
          have HSN := hide (unhide HBS ((unhide HLTB).1 hbl))
          generalize lev.getD (q - 1) [] = X at HC HDX HSN
          generalize ptD (k : Int) L i h = ds at HO HSN HPL
          obtain ⟨ua, ucap, rfl⟩ := owns_form (unhide HO).own
          have hxl := (unhide HDX).1
          have HOC := hide ((unhide HO).pass ((Kept.refl [] wr).alloc (.cells (brow X) 41)))
          have HNC := hide (heap_alloc_new wr (.cells (brow X) 41))
          have HRC := hide ((unhide HR).old ((Kept.refl [] wr).alloc (.cells (brow X) 41)))
          clear hc HBS HBN HLTB HDGL HR
          go_wp2_with (first
            | (refine wpList_load_mid rfl 41 _ rfl b (o + (q - 1) * 32) rfl (X.map Go.Proofs.YtecadmldnjlibaaDoor.u8) _ (unhide HC) Tryd.underlying41 rfl (by rw [List.length_map, hxl]; exact Tryd.size_dig) ?_)
            | (at_builtin; rw [zb32, one_digP X hxl]; refine wpList_appendD rfl _ _ rfl rfl (wr.alloc (.cells (brow X) 41)) w.heap.size (.slice ua ds.length ucap) ds [X] (some ⟨wr.heap.size, 0, none⟩) 1 1 (unhide HOC).own (RdD.oneP (unhide HNC) (unhide HDX)) (by have := unhide HPL; simp; omega) (unhide HOC).kept.size rfl rfl ?_; intro ao3 cap3 w3 HO3 HG3; have HO4 := hide ((unhide HOC).push (unhide HDX) (unhide HO3) (unhide HG3)); have HR3 := hide ((unhide HRC).keptP ((Kept.refl (Value.slice ua ds.length ucap).ownBlock.toList _).grown (unhide HG3) (by intro k hk; left; simp [hk])) (by intro b9 hb9 hm; exact unhide HNE b9 hb9 (by simpa using hm))); clear HO3 HG3))
          refine (unhide HUP w3 (unhide HR3)).mono ?_
          rintro e w4 ⟨u, rfl, o4⟩
          obtain ⟨u4, c4, rfl⟩ := o4.form
          have HO5 := hide ((unhide HO4).pass o4.kept)
          have HR5 := hide o4.rd
          have HN5 := hide (by intro b9 hb9 e9; have h1 := o4.bk b9 hb9; have h2 := ((unhide HO4).own.lt b9 e9).2; omega : ∀ b ∈ blk (.slice u4 lev2.length c4), (Value.slice ao3 (ds.length + [X].length) cap3).ownBlock ≠ some b)
          clear o4 HO4 HR3 HUP
          go_wp2_with fail
          go_roundw
          case rel => exact ⟨h + 1, hh1, by rw [unhide HQH], by rw [unhide HSN]; exact HO5, by rw [unhide HLEV2]; exact HR5, HN5⟩
          case measure => simp only [lenV]; exact unhide HME
        · have hbl' : ¬ (q : Int) - 1 < (vn : Int) := by omega
          have HSN := hide (unhide HBN (fun hx => hbl ((unhide HLTB).2 hx)))
          clear HBS HBN HLTB HDGL
          go_wp2_with fail
          refine (unhide HUP wr (unhide HR)).mono ?_
          rintro e w4 ⟨u, rfl, o4⟩
          obtain ⟨u4, c4, rfl⟩ := o4.form
          have HO5 := hide ((unhide HO).pass o4.kept)
          have HR5 := hide o4.rd
          have HN5 := hide (by intro b9 hb9 e9; have h1 := o4.bk b9 hb9; have h2 := ((unhide HO).own.lt b9 e9).2; omega : ∀ b ∈ blk (.slice u4 lev2.length c4), u7.ownBlock ≠ some b)
          clear o4 HO HUP
          go_wp2_with fail
          go_roundw
          case rel => exact ⟨h + 1, hh1, by rw [unhide HQH], by rw [unhide HSN]; exact HO5, by rw [unhide HLEV2]; exact HR5, HN5⟩
          case measure => simp only [lenV]; exact unhide HME
    · have hg' : ¬ (1 : Int) < (vn : Int) := by omega
      have HE := hide (unhide HPE (by
        rcases Nat.lt_or_ge (2 ^ h) L.length with h9 | h9
        · have := lt_lvN.2 (by omega : 1 * 2 ^ h < L.length)
          have := unhide HVN
          omega
        · exact h9))
      rw [unhide HE] at HO
      go_wp2_with fail
      go_ret
      exact ⟨_, rfl, unhide HO⟩
end Go.Proofs.YtecadmldnjlibaaDoor
namespace Go.Proofs.YtecadmldnjlibaaDoor
open Go.RowKit Go.BigFrame
set_option linter.unusedVariables false
set_option linter.unusedSimpArgs false

set_option maxRecDepth 100000 in
set_option maxHeartbeats 1000000 in
theorem docIncl_any (k : Nat) (hk : 1 ≤ k ∧ k ≤ 32) (lv : Value) (L : List (List Nat)) (i n : Nat) (w : World) (hl : RdD w lv L) (hN : L.length ≤ 1000000) (hn64 : n < 18446744073709551616) :
    Calls Tryd.prog 25 #[.int .i64 (k : Int), lv, .int .u64 (i : Int), .int .u64 (n : Int)] w fun e w' => ∃ u, e = .returned (.tuple #[u, .int .i64 (inE L i n)]) ∧ OwD w w' u (inD (k : Int) L i n) := by
  have HL := hide hl
  obtain ⟨la, ll, lc, rfl, l1, l2, l3, -⟩ := id hl
  have hcv : IntKind.u64.wrap (ll : Int) = (ll : Int) := by rw [wrM]; omega
  by_cases h1 : n ≤ i
  · have h1' : (n : Int) ≤ (i : Int) := by omega
    have hE : inE L i n = 4 := by unfold inE; rw [if_pos (Or.inl h1)]
    have hD : inD (k : Int) L i n = [] := by unfold inD; rw [if_pos (Or.inl h1)]
    rw [hE, hD]
    clear hE hD hl l1
    go_enter Tryd.func25, Tryd.ntmps25
    go_wp2_with fail
    all_goals exact ⟨rfl, _, results_tmp2 rfl _ _ _, _, rfl, OwD.nil _⟩
  · have h1' : ¬ (n : Int) ≤ (i : Int) := by omega
    by_cases h2 : ll < n
    · have h2' : (ll : Int) < (n : Int) := by omega
      have hE : inE L i n = 4 := by unfold inE; rw [if_pos (Or.inr (by omega))]
      have hD : inD (k : Int) L i n = [] := by unfold inD; rw [if_pos (Or.inr (by omega))]
      rw [hE, hD]
      clear hE hD hl l1
      go_enter Tryd.func25, Tryd.ntmps25
      go_wp2_with (simp only [hcv])
      all_goals exact ⟨rfl, _, results_tmp2 rfl _ _ _, _, rfl, OwD.nil _⟩
    · have h2' : ¬ (ll : Int) < (n : Int) := by omega
      have hE : inE L i n = 0 := by unfold inE; rw [if_neg (by omega)]
      have HP := hide (refPath_any k hk (.slice la n lc) (L.take n) i w (hl.upto n (by omega)) (by rw [List.length_take]; omega) (by rw [List.length_take]; omega))
      have hD : inD (k : Int) L i n = ptD (k : Int) (L.take n) i 64 := by
        rw [inD_levs (by omega) (by omega) hn64]
        unfold ptD
        rw [List.length_take, Nat.min_eq_left (by omega)]
      rw [hE, hD]
      have hci : IntKind.i64.wrap (i : Int) = (i : Int) := by simp [IntKind.wrap, IntKind.signed, IntKind.bits]; omega
      have hnl : n ≤ ll := by omega
      have hnc : ¬ (lc : Int) < (n : Int) := by omega
      have hnc2 : n ≤ lc := by omega
      generalize ptD (k : Int) (L.take n) i 64 = ds at HP ⊢
      clear hE hD hl l1
      go_enter Tryd.func25, Tryd.ntmps25
      go_wp2_with (first | simp only [hcv] | simp only [hci])
      refine (unhide HP).mono ?_
      rintro e w1 ⟨u, rfl, o1⟩
      have HO := hide o1
      clear o1
      go_wp2_with fail
      exact ⟨rfl, _, results_tmp2 rfl _ _ _, u, rfl, unhide HO⟩
end Go.Proofs.YtecadmldnjlibaaDoor
/-
  Laws for drawn regions, by genreg.py. No program.
-/
namespace Go.Proofs.YtecadmldnjlibaaDoor
open Go Go.RowKit Go.BigFrame
set_option linter.unusedVariables false
set_option linter.unusedSimpArgs false
section
variable {P : Program} {Q : Exit → Act → World → Prop}
theorem wp_fo9 {id : Nat} {o0 o1 o2 o3 o4 o5 o6 o7 o8 : Oper} {a : Act} {w : World} (hm : P.follows .mixedOrders = true) (hs : Region.noSelect #[o0, o1, o2, o3, o4, o5, o6, o7, o8] = true)
    (f0 : Region.free .any #[o0, o1, o2, o3, o4, o5, o6, o7, o8] #[false, false, false, false, false, false, false, false, false] 0 = true) (r0 : (Region.ready .any #[o0, o1, o2, o3, o4, o5, o6, o7, o8] #[false, false, false, false, false, false, false, false, false]).contains 0 = true)
    (f1 : Region.free .any #[o0, o1, o2, o3, o4, o5, o6, o7, o8] #[true, false, false, false, false, false, false, false, false] 1 = true) (r1 : (Region.ready .any #[o0, o1, o2, o3, o4, o5, o6, o7, o8] #[true, false, false, false, false, false, false, false, false]).contains 1 = true)
    (f2 : Region.free .any #[o0, o1, o2, o3, o4, o5, o6, o7, o8] #[true, true, false, false, false, false, false, false, false] 2 = true) (r2 : (Region.ready .any #[o0, o1, o2, o3, o4, o5, o6, o7, o8] #[true, true, false, false, false, false, false, false, false]).contains 2 = true)
    (f3 : Region.free .any #[o0, o1, o2, o3, o4, o5, o6, o7, o8] #[true, true, true, false, false, false, false, false, false] 3 = true) (r3 : (Region.ready .any #[o0, o1, o2, o3, o4, o5, o6, o7, o8] #[true, true, true, false, false, false, false, false, false]).contains 3 = true)
    (f4 : Region.free .any #[o0, o1, o2, o3, o4, o5, o6, o7, o8] #[true, true, true, true, false, false, false, false, false] 4 = true) (r4 : (Region.ready .any #[o0, o1, o2, o3, o4, o5, o6, o7, o8] #[true, true, true, true, false, false, false, false, false]).contains 4 = true)
    (q_ : Region.ready .any #[o0, o1, o2, o3, o4, o5, o6, o7, o8] #[true, true, true, true, true, false, false, false, false] = [5, 6])
    (q5_ : Region.ready .any #[o0, o1, o2, o3, o4, o5, o6, o7, o8] #[true, true, true, true, true, true, false, false, false] = [6])
    (q6_ : Region.ready .any #[o0, o1, o2, o3, o4, o5, o6, o7, o8] #[true, true, true, true, true, false, true, false, false] = [5])
    (q5_6_ : Region.ready .any #[o0, o1, o2, o3, o4, o5, o6, o7, o8] #[true, true, true, true, true, true, true, false, false] = [7])
    (q5_6_7_ : Region.ready .any #[o0, o1, o2, o3, o4, o5, o6, o7, o8] #[true, true, true, true, true, true, true, true, false] = [8])
    (q5_6_7_8_ : Region.ready .any #[o0, o1, o2, o3, o4, o5, o6, o7, o8] #[true, true, true, true, true, true, true, true, true] = [])
    (g5 : o5.guard = none)    (g6 : o6.guard = none)    (g7 : o7.guard = none)    (g8 : o8.guard = none)
    (ne6_5 : ∀ d, o6.dst = some d → o5.dst ≠ some d)
    (v0 v1 v2 v3 v4 : Value) (A0 A1 A2 A3 A4 : Act)
    (S : World → Prop)
    (I_ : World → Prop)
    (I5_ : Value → World → Prop)
    (I6_ : Value → World → Prop)
    (I5_6_ : Value → Value → World → Prop)
    (I5_6_7_ : Value → Value → Value → World → Prop)
    (I5_6_7_8_ : Value → Value → Value → Value → World → Prop)
    (p0 : a.put o0.dst v0 = A0) (hy0 : YieldsIf P #[o0, o1, o2, o3, o4, o5, o6, o7, o8] S o0 v0 a)
    (p1 : A0.put o1.dst v1 = A1) (hy1 : YieldsIf P #[o0, o1, o2, o3, o4, o5, o6, o7, o8] S o1 v1 A0)
    (p2 : A1.put o2.dst v2 = A2) (hy2 : YieldsIf P #[o0, o1, o2, o3, o4, o5, o6, o7, o8] S o2 v2 A1)
    (p3 : A2.put o3.dst v3 = A3) (hy3 : YieldsIf P #[o0, o1, o2, o3, o4, o5, o6, o7, o8] S o3 v3 A2)
    (p4 : A3.put o4.dst v4 = A4) (hy4 : YieldsIf P #[o0, o1, o2, o3, o4, o5, o6, o7, o8] S o4 v4 A3)
    (i0 : I_ w.drew)
    (hIS : (∀ w', I_  w' → S w') ∧ (∀ (u5 : Value) w', I5_ u5 w' → S w') ∧ (∀ (u6 : Value) w', I6_ u6 w' → S w') ∧ (∀ (u5 u6 : Value) w', I5_6_ u5 u6 w' → S w') ∧ (∀ (u5 u6 u7 : Value) w', I5_6_7_ u5 u6 u7 w' → S w') ∧ (∀ (u5 u6 u7 u8 : Value) w', I5_6_7_8_ u5 u6 u7 u8 w' → S w'))
    (s_5 : ∀ w', I_  w' → ∀ K : Act → World → Prop, (∀ (u5 : Value) w2, I5_ u5 w2 → K (A4.put o5.dst u5) w2) → o5.wp P A4 w' K (NoPanic Q))
    (s_6 : ∀ w', I_  w' → ∀ K : Act → World → Prop, (∀ (u6 : Value) w2, I6_ u6 w2 → K (A4.put o6.dst u6) w2) → o6.wp P A4 w' K (NoPanic Q))
    (s5_6 : ∀ (u5 : Value) w', I5_ u5 w' → ∀ K : Act → World → Prop, (∀ (u6 : Value) w2, I5_6_ u5 u6 w2 → K ((A4.put o5.dst u5).put o6.dst u6) w2) → o6.wp P (A4.put o5.dst u5) w' K (NoPanic Q))
    (s6_5 : ∀ (u6 : Value) w', I6_ u6 w' → ∀ K : Act → World → Prop, (∀ (u5 : Value) w2, I5_6_ u5 u6 w2 → K ((A4.put o6.dst u6).put o5.dst u5) w2) → o5.wp P (A4.put o6.dst u6) w' K (NoPanic Q))
    (s5_6_7 : ∀ (u5 u6 : Value) w', I5_6_ u5 u6 w' → ∀ K : Act → World → Prop, (∀ (u7 : Value) w2, I5_6_7_ u5 u6 u7 w2 → K (((A4.put o5.dst u5).put o6.dst u6).put o7.dst u7) w2) → o7.wp P ((A4.put o5.dst u5).put o6.dst u6) w' K (NoPanic Q))
    (s5_6_7_8 : ∀ (u5 u6 u7 : Value) w', I5_6_7_ u5 u6 u7 w' → ∀ K : Act → World → Prop, (∀ (u8 : Value) w2, I5_6_7_8_ u5 u6 u7 u8 w2 → K ((((A4.put o5.dst u5).put o6.dst u6).put o7.dst u7).put o8.dst u8) w2) → o8.wp P (((A4.put o5.dst u5).put o6.dst u6).put o7.dst u7) w' K (NoPanic Q))
    (h : ∀ (u5 u6 u7 u8 : Value) w', I5_6_7_8_ u5 u6 u7 u8 w' → Q .normal ((((A4.put o5.dst u5).put o6.dst u6).put o7.dst u7).put o8.dst u8) w') :
    (Code.region id #[o0, o1, o2, o3, o4, o5, o6, o7, o8] true).wp P Q a w := by
  subst p0 p1 p2 p3 p4
  obtain ⟨z_, z5_, z6_, z5_6_, z5_6_7_, z5_6_7_8_⟩ := hIS
  refine wp_region_noPanic ?_
  refine wp_region_held_drew (S := S) hm (z_ _ i0) (fun hH => ?_)
  show wpAnyH P .any #[o0, o1, o2, o3, o4, o5, o6, o7, o8] (NoPanic Q) S 9 #[false, false, false, false, false, false, false, false, false] a w.drew
  refine wpAnyH_take (i := 0) (oi := o0) rfl hs f0 r0 (fun _ _ _ h => h) hy0 hH ?_
  refine wpAnyH_take (i := 1) (oi := o1) rfl hs f1 r1 (fun _ _ _ h => h) hy1 hH ?_
  refine wpAnyH_take (i := 2) (oi := o2) rfl hs f2 r2 (fun _ _ _ h => h) hy2 hH ?_
  refine wpAnyH_take (i := 3) (oi := o3) rfl hs f3 r3 (fun _ _ _ h => h) hy3 hH ?_
  refine wpAnyH_take (i := 4) (oi := o4) rfl hs f4 r4 (fun _ _ _ h => h) hy4 hH ?_
  generalize (((((a.put o0.dst v0).put o1.dst v1).put o2.dst v2).put o3.dst v3).put o4.dst v4) = B at *
  have wa5 : ∀ y, Region.wanted o5 y = true := fun y => by unfold Region.wanted; rw [g5]
  have wa6 : ∀ y, Region.wanted o6 y = true := fun y => by unfold Region.wanted; rw [g6]
  have wa7 : ∀ y, Region.wanted o7 y = true := fun y => by unfold Region.wanted; rw [g7]
  have wa8 : ∀ y, Region.wanted o8 y = true := fun y => by unfold Region.wanted; rw [g8]
  have t5_6_7_8_ : ∀ (u5 u6 u7 u8 : Value) w', I5_6_7_8_ u5 u6 u7 u8 w' → wpAnyH P .any #[o0, o1, o2, o3, o4, o5, o6, o7, o8] (NoPanic Q) S 0 #[true, true, true, true, true, true, true, true, true] ((((B.put o5.dst u5).put o6.dst u6).put o7.dst u7).put o8.dst u8) w' := by
    intro u5 u6 u7 u8 w0 i0
    exact ⟨q5_6_7_8_, NoPanic.normal (h u5 u6 u7 u8 w0 i0)⟩
  have t5_6_7_ : ∀ (u5 u6 u7 : Value) w', I5_6_7_ u5 u6 u7 w' → wpAnyH P .any #[o0, o1, o2, o3, o4, o5, o6, o7, o8] (NoPanic Q) S 1 #[true, true, true, true, true, true, true, true, false] (((B.put o5.dst u5).put o6.dst u6).put o7.dst u7) w' := by
    intro u5 u6 u7 w0 i0
    refine wpAnyH_ready (rs := [8]) q5_6_7_ (by simp) (AllReadyH.cons (o := o8) rfl (fun K hK => ?_) AllReadyH.nil)
    · rw [if_pos (wa8 _)]
      refine s5_6_7_8 u5 u6 u7 w0 i0 K (fun u8 w1 i1 => hK.out _ _ (z5_6_7_8_ u5 u6 u7 u8 w1 i1) (fun _ => ?_))
      clear hK
      exact t5_6_7_8_ u5 u6 u7 u8 w1 i1
  have t5_6_ : ∀ (u5 u6 : Value) w', I5_6_ u5 u6 w' → wpAnyH P .any #[o0, o1, o2, o3, o4, o5, o6, o7, o8] (NoPanic Q) S 2 #[true, true, true, true, true, true, true, false, false] ((B.put o5.dst u5).put o6.dst u6) w' := by
    intro u5 u6 w0 i0
    refine wpAnyH_ready (rs := [7]) q5_6_ (by simp) (AllReadyH.cons (o := o7) rfl (fun K hK => ?_) AllReadyH.nil)
    · rw [if_pos (wa7 _)]
      refine s5_6_7 u5 u6 w0 i0 K (fun u7 w1 i1 => hK.out _ _ (z5_6_7_ u5 u6 u7 w1 i1) (fun _ => ?_))
      clear hK
      exact t5_6_7_ u5 u6 u7 w1 i1
  have t6_ : ∀ (u6 : Value) w', I6_ u6 w' → wpAnyH P .any #[o0, o1, o2, o3, o4, o5, o6, o7, o8] (NoPanic Q) S 3 #[true, true, true, true, true, false, true, false, false] (B.put o6.dst u6) w' := by
    intro u6 w0 i0
    refine wpAnyH_ready (rs := [5]) q6_ (by simp) (AllReadyH.cons (o := o5) rfl (fun K hK => ?_) AllReadyH.nil)
    · rw [if_pos (wa5 _)]
      refine s6_5 u6 w0 i0 K (fun u5 w1 i1 => hK.out _ _ (z5_6_ u5 u6 w1 i1) (fun _ => ?_))
      clear hK
      rw [Act.put_comm _ _ _ ne6_5]
      exact t5_6_ u5 u6 w1 i1
  have t5_ : ∀ (u5 : Value) w', I5_ u5 w' → wpAnyH P .any #[o0, o1, o2, o3, o4, o5, o6, o7, o8] (NoPanic Q) S 3 #[true, true, true, true, true, true, false, false, false] (B.put o5.dst u5) w' := by
    intro u5 w0 i0
    refine wpAnyH_ready (rs := [6]) q5_ (by simp) (AllReadyH.cons (o := o6) rfl (fun K hK => ?_) AllReadyH.nil)
    · rw [if_pos (wa6 _)]
      refine s5_6 u5 w0 i0 K (fun u6 w1 i1 => hK.out _ _ (z5_6_ u5 u6 w1 i1) (fun _ => ?_))
      clear hK
      exact t5_6_ u5 u6 w1 i1
  have t_ : ∀ w', I_  w' → wpAnyH P .any #[o0, o1, o2, o3, o4, o5, o6, o7, o8] (NoPanic Q) S 4 #[true, true, true, true, true, false, false, false, false] B w' := by
    intro w0 i0
    refine wpAnyH_ready (rs := [5, 6]) q_ (by simp) (AllReadyH.cons (o := o5) rfl (fun K hK => ?_) (AllReadyH.cons (o := o6) rfl (fun K hK => ?_) AllReadyH.nil))
    · rw [if_pos (wa5 _)]
      refine s_5  w0 i0 K (fun u5 w1 i1 => hK.out _ _ (z5_ u5 w1 i1) (fun _ => ?_))
      clear hK
      exact t5_ u5 w1 i1
    · rw [if_pos (wa6 _)]
      refine s_6  w0 i0 K (fun u6 w1 i1 => hK.out _ _ (z6_ u6 w1 i1) (fun _ => ?_))
      clear hK
      exact t6_ u6 w1 i1
  exact t_ w.drew i0

theorem wp_fp7 {id : Nat} {o0 o1 o2 o3 o4 o5 o6 : Oper} {a : Act} {w : World} (hm : P.follows .mixedOrders = true) (hs : Region.noSelect #[o0, o1, o2, o3, o4, o5, o6] = true)
    (f0 : Region.free .any #[o0, o1, o2, o3, o4, o5, o6] #[false, false, false, false, false, false, false] 0 = true) (r0 : (Region.ready .any #[o0, o1, o2, o3, o4, o5, o6] #[false, false, false, false, false, false, false]).contains 0 = true)
    (f1 : Region.free .any #[o0, o1, o2, o3, o4, o5, o6] #[true, false, false, false, false, false, false] 1 = true) (r1 : (Region.ready .any #[o0, o1, o2, o3, o4, o5, o6] #[true, false, false, false, false, false, false]).contains 1 = true)
    (f2 : Region.free .any #[o0, o1, o2, o3, o4, o5, o6] #[true, true, false, false, false, false, false] 2 = true) (r2 : (Region.ready .any #[o0, o1, o2, o3, o4, o5, o6] #[true, true, false, false, false, false, false]).contains 2 = true)
    (f3 : Region.free .any #[o0, o1, o2, o3, o4, o5, o6] #[true, true, true, false, false, false, false] 3 = true) (r3 : (Region.ready .any #[o0, o1, o2, o3, o4, o5, o6] #[true, true, true, false, false, false, false]).contains 3 = true)
    (f4 : Region.free .any #[o0, o1, o2, o3, o4, o5, o6] #[true, true, true, true, false, false, false] 4 = true) (r4 : (Region.ready .any #[o0, o1, o2, o3, o4, o5, o6] #[true, true, true, true, false, false, false]).contains 4 = true)
    (q_ : Region.ready .any #[o0, o1, o2, o3, o4, o5, o6] #[true, true, true, true, true, false, false] = [5])
    (q5_ : Region.ready .any #[o0, o1, o2, o3, o4, o5, o6] #[true, true, true, true, true, true, false] = [6])
    (q5_6_ : Region.ready .any #[o0, o1, o2, o3, o4, o5, o6] #[true, true, true, true, true, true, true] = [])
    (g5 : o5.guard = none)    (g6 : o6.guard = none)
    (v0 v1 v2 v3 v4 : Value) (A0 A1 A2 A3 A4 : Act)
    (S : World → Prop)
    (I_ : World → Prop)
    (I5_ : Value → World → Prop)
    (I5_6_ : Value → Value → World → Prop)
    (p0 : a.put o0.dst v0 = A0) (hy0 : YieldsIf P #[o0, o1, o2, o3, o4, o5, o6] S o0 v0 a)
    (p1 : A0.put o1.dst v1 = A1) (hy1 : YieldsIf P #[o0, o1, o2, o3, o4, o5, o6] S o1 v1 A0)
    (p2 : A1.put o2.dst v2 = A2) (hy2 : YieldsIf P #[o0, o1, o2, o3, o4, o5, o6] S o2 v2 A1)
    (p3 : A2.put o3.dst v3 = A3) (hy3 : YieldsIf P #[o0, o1, o2, o3, o4, o5, o6] S o3 v3 A2)
    (p4 : A3.put o4.dst v4 = A4) (hy4 : YieldsIf P #[o0, o1, o2, o3, o4, o5, o6] S o4 v4 A3)
    (i0 : I_ w.drew)
    (hIS : (∀ w', I_  w' → S w') ∧ (∀ (u5 : Value) w', I5_ u5 w' → S w') ∧ (∀ (u5 u6 : Value) w', I5_6_ u5 u6 w' → S w'))
    (s_5 : ∀ w', I_  w' → ∀ K : Act → World → Prop, (∀ (u5 : Value) w2, I5_ u5 w2 → K (A4.put o5.dst u5) w2) → o5.wp P A4 w' K (NoPanic Q))
    (s5_6 : ∀ (u5 : Value) w', I5_ u5 w' → ∀ K : Act → World → Prop, (∀ (u6 : Value) w2, I5_6_ u5 u6 w2 → K ((A4.put o5.dst u5).put o6.dst u6) w2) → o6.wp P (A4.put o5.dst u5) w' K (NoPanic Q))
    (h : ∀ (u5 u6 : Value) w', I5_6_ u5 u6 w' → Q .normal ((A4.put o5.dst u5).put o6.dst u6) w') :
    (Code.region id #[o0, o1, o2, o3, o4, o5, o6] true).wp P Q a w := by
  subst p0 p1 p2 p3 p4
  obtain ⟨z_, z5_, z5_6_⟩ := hIS
  refine wp_region_noPanic ?_
  refine wp_region_held_drew (S := S) hm (z_ _ i0) (fun hH => ?_)
  show wpAnyH P .any #[o0, o1, o2, o3, o4, o5, o6] (NoPanic Q) S 7 #[false, false, false, false, false, false, false] a w.drew
  refine wpAnyH_take (i := 0) (oi := o0) rfl hs f0 r0 (fun _ _ _ h => h) hy0 hH ?_
  refine wpAnyH_take (i := 1) (oi := o1) rfl hs f1 r1 (fun _ _ _ h => h) hy1 hH ?_
  refine wpAnyH_take (i := 2) (oi := o2) rfl hs f2 r2 (fun _ _ _ h => h) hy2 hH ?_
  refine wpAnyH_take (i := 3) (oi := o3) rfl hs f3 r3 (fun _ _ _ h => h) hy3 hH ?_
  refine wpAnyH_take (i := 4) (oi := o4) rfl hs f4 r4 (fun _ _ _ h => h) hy4 hH ?_
  generalize (((((a.put o0.dst v0).put o1.dst v1).put o2.dst v2).put o3.dst v3).put o4.dst v4) = B at *
  have wa5 : ∀ y, Region.wanted o5 y = true := fun y => by unfold Region.wanted; rw [g5]
  have wa6 : ∀ y, Region.wanted o6 y = true := fun y => by unfold Region.wanted; rw [g6]
  have t5_6_ : ∀ (u5 u6 : Value) w', I5_6_ u5 u6 w' → wpAnyH P .any #[o0, o1, o2, o3, o4, o5, o6] (NoPanic Q) S 0 #[true, true, true, true, true, true, true] ((B.put o5.dst u5).put o6.dst u6) w' := by
    intro u5 u6 w0 i0
    exact ⟨q5_6_, NoPanic.normal (h u5 u6 w0 i0)⟩
  have t5_ : ∀ (u5 : Value) w', I5_ u5 w' → wpAnyH P .any #[o0, o1, o2, o3, o4, o5, o6] (NoPanic Q) S 1 #[true, true, true, true, true, true, false] (B.put o5.dst u5) w' := by
    intro u5 w0 i0
    refine wpAnyH_ready (rs := [6]) q5_ (by simp) (AllReadyH.cons (o := o6) rfl (fun K hK => ?_) AllReadyH.nil)
    · rw [if_pos (wa6 _)]
      refine s5_6 u5 w0 i0 K (fun u6 w1 i1 => hK.out _ _ (z5_6_ u5 u6 w1 i1) (fun _ => ?_))
      clear hK
      exact t5_6_ u5 u6 w1 i1
  have t_ : ∀ w', I_  w' → wpAnyH P .any #[o0, o1, o2, o3, o4, o5, o6] (NoPanic Q) S 2 #[true, true, true, true, true, false, false] B w' := by
    intro w0 i0
    refine wpAnyH_ready (rs := [5]) q_ (by simp) (AllReadyH.cons (o := o5) rfl (fun K hK => ?_) AllReadyH.nil)
    · rw [if_pos (wa5 _)]
      refine s_5  w0 i0 K (fun u5 w1 i1 => hK.out _ _ (z5_ u5 w1 i1) (fun _ => ?_))
      clear hK
      exact t5_ u5 w1 i1
  exact t_ w.drew i0

end
end Go.Proofs.YtecadmldnjlibaaDoor
namespace Go.Proofs.YtecadmldnjlibaaDoor
open Go.RowKit Go.BigFrame
set_option linter.unusedVariables false
set_option linter.unusedSimpArgs false

/-- What Leaf answers. -/
def lfD (L : List (List Nat)) (i : Nat) : List Nat := if L.length ≤ i then List.replicate 32 0 else L.getD i []
def lfE (L : List (List Nat)) (i : Nat) : Int := if L.length ≤ i then 4 else 0
theorem lfD_dg {z : Int} {w : World} {ps : List Pk} (h : PKs z w ps) (i : Nat) : Dg (lfD (leavesK ps) i) := by
  unfold lfD
  split
  · exact ⟨by simp, by simp⟩
  · rename_i h1
    rw [List.getD_eq_getElem?_getD, List.getElem?_eq_getElem (by omega)]
    exact (h.leaves _ (List.getElem_mem _)).1

set_option maxRecDepth 100000 in
set_option maxHeartbeats 400000 in
theorem leafT_nil (i : Int) (w : World) :
    Calls Tryd.prog 29 #[.pointer none, .int .u64 i] w fun e w' => e = .returned (.tuple #[.agg (zb 32), .int .i64 5]) ∧ Kept [] w w' := by
  have HZ := hide (heap_alloc_new w (.cells (zb 32) 41))
  have HK := hide (((Kept.refl [] w).alloc (.cells (zb 32) 41)).setRow (g := w.heap.size) (Or.inr (Nat.le_refl _)) (zb 32))
  go_enter Tryd.func29, Tryd.ntmps29
  go_wp2_with (rw [zb32]; refine wpList_store_row rfl 41 _ _ rfl w.heap.size (zb 32) rfl rfl _ (zb 32) (unhide HZ) (by rw [zb_size]; exact Tryd.size_dig) rfl (brow_one _) ?_)
  refine bodyPost_ret (v := .tuple #[.agg (zb 32), .int .i64 5]) ?_ rfl ⟨rfl, unhide HK⟩
  exact results_cell_tmp rfl _ _ w.heap.size _ (zb 32) (0, 0) _ rfl (setRow_heap _ _ _ _ _ _ (unhide HZ)) Tryd.underlying41 rfl (by rw [zb_size]; exact Tryd.size_dig) _ rfl

set_option maxRecDepth 100000 in
set_option maxHeartbeats 400000 in
theorem leafT_all (z : Int) (t : Nat) (v : Value) (ps : List Pk) (i : Nat) (w : World) (hT : TreeAt z w t v ps) (hb : (leavesK ps).length < 32768) :
    Calls Tryd.prog 29 #[.pointer (some ⟨t, 0, none⟩), .int .u64 i] w fun e w' => e = .returned (.tuple #[.agg (brow (lfD (leavesK ps) i)), .int .i64 (lfE (leavesK ps) i)]) ∧ Kept [] w w' := by
  have hdl := (lfD_dg hT.pk i).1
  have c1 := cell_of_row _ _ 1 _ _ _ hT.row
  simp at c1
  have k0 := (Kept.refl [] w).alloc (.cells (zb 32) 41)
  have d1 := k0.cell c1 (by simp)
  have HZ := hide (heap_alloc_new w (.cells (zb 32) 41))
  have HK := hide k0
  rw [← zb32] at d1
  by_cases h : (leavesK ps).length ≤ i
  · have e1 : lfD (leavesK ps) i = List.replicate 32 0 := if_pos h
    have e2 : lfE (leavesK ps) i = 4 := if_pos h
    rw [e1, e2]
    have h' : ((leavesK ps).length : Int) ≤ i := by omega
    generalize (leavesK ps).length = n at d1 h'
    clear e1 e2 h hdl hb c1 k0 hT
    show Calls Tryd.prog 29 #[.pointer (some ⟨t, 0, none⟩), .int .u64 i] w fun e w' => e = .returned (.tuple #[.agg (zb 32), .int .i64 4]) ∧ Kept [] w w'
    go_enter Tryd.func29, Tryd.ntmps29
    go_wp2_with (rw [zb32]; refine wpList_store_row rfl 41 _ _ rfl w.heap.size (zb 32) rfl rfl _ (zb 32) (unhide HZ) (by rw [zb_size]; exact Tryd.size_dig) rfl (brow_one _) ?_)
    refine bodyPost_ret (v := .tuple #[.agg (zb 32), .int .i64 4]) ?_ rfl ⟨rfl, (unhide HK).setRow (g := w.heap.size) (Or.inr (Nat.le_refl _)) (zb 32)⟩
    exact results_cell_tmp rfl _ _ w.heap.size _ (zb 32) (0, 0) _ rfl (setRow_heap _ _ _ _ _ _ (unhide HZ)) Tryd.underlying41 rfl (by rw [zb_size]; exact Tryd.size_dig) _ rfl
  · have e2 : lfE (leavesK ps) i = 0 := if_neg h
    rw [e2]
    have h' : ¬ ((leavesK ps).length : Int) ≤ i := by omega
    have HKE := hide (by
      have h9 := keptT_any z t v ps i 0 _ (hT.old k0) (by simp; omega) (by simp) hb
      have e3 : perT z 0 (((leavesK ps).drop i).take (2 ^ 0)) = lfD (leavesK ps) i := by
        unfold lfD
        rw [if_neg h]
        simp [perT, List.getD_eq_getElem?_getD, List.getElem?_drop, List.getElem?_take]
      rw [e3] at h9
      exact h9 : Calls Tryd.prog 47 #[.pointer (some ⟨t, 0, none⟩), .int .u64 i, .int .i64 ((0 : Nat) : Int)] (w.alloc (.cells (zb 32) 41)) fun e w' => e = .returned (.agg (brow (lfD (leavesK ps) i))) ∧ Kept [] _ w')
    generalize (leavesK ps).length = n at d1 h'
    generalize lfD (leavesK ps) i = D at HKE hdl ⊢
    clear e2 h hb c1 k0 hT
    go_enter Tryd.func29, Tryd.ntmps29
    go_wp2_with fail
    rw [zb32]
    refine (unhide HKE).mono ?_
    rintro e w5 ⟨rfl, k5⟩
    have HZ5 := hide (k5.heap (unhide HZ) (by simp))
    have HK5 := hide (((unhide HK).trans k5 (by simp)).setRow (g := w.heap.size) (Or.inr (Nat.le_refl _)) (brow D))
    clear k5
    go_wp2_with (refine wpList_store_row rfl 41 _ _ rfl w.heap.size (brow D) rfl rfl _ (zb 32) (unhide HZ5) (by rw [brow_size, hdl]; exact Tryd.size_dig) (by rw [zb_size, brow_size, hdl]) (brow_one _) ?_)
    refine bodyPost_ret (v := .tuple #[.agg (brow D), .int .i64 0]) ?_ rfl ⟨rfl, unhide HK5⟩
    exact results_cell_tmp rfl _ _ w.heap.size _ (brow D) (0, 0) _ rfl (setRow_heap _ _ _ _ _ _ (unhide HZ5)) Tryd.underlying41 rfl (by rw [brow_size, hdl]; exact Tryd.size_dig) _ rfl
end Go.Proofs.YtecadmldnjlibaaDoor
namespace Go.Proofs.YtecadmldnjlibaaDoor
open Go.RowKit Go.BigFrame
set_option linter.unusedVariables false
set_option linter.unusedSimpArgs false

theorem levs_pre (N i h : Nat) : ∀ d, ∃ r, levs N i (h + d) = levs N i h ++ r
  | 0 => ⟨[], by simp⟩
  | d + 1 => by
    obtain ⟨r, hr⟩ := levs_pre N i h d
    exact ⟨r ++ (broS N i (h + d)).toList, by rw [← Nat.add_assoc, levs_succ, hr, List.append_assoc]⟩
theorem ptD_pre {z : Int} {L : List (List Nat)} {i h : Nat} (hh : h ≤ 64) : ∃ r, ptD z L i 64 = ptD z L i h ++ r := by
  obtain ⟨r, hr⟩ := levs_pre L.length i h (64 - h)
  rw [show h + (64 - h) = 64 by omega] at hr
  exact ⟨r.map fun s => rngD z (noT z) L s.1 s.2, by unfold ptD; rw [hr, List.map_append]⟩
theorem ptD_at {z : Int} {L : List (List Nat)} {i h : Nat} (hh : h < 64) (hb : broN i h * 2 ^ h < L.length) : (ptD z L i h).length < (ptD z L i 64).length ∧ (ptD z L i 64).getD (ptD z L i h).length [] = (lvl z (noT z) L h).getD (broN i h) [] := by
  obtain ⟨r, hr⟩ := ptD_pre (z := z) (L := L) (i := i) (h := h + 1) (by omega)
  rw [ptD_some hb] at hr
  rw [hr]
  refine ⟨by simp, ?_⟩
  rw [List.getD_eq_getElem?_getD, List.append_assoc, List.getElem?_append_right (Nat.le_refl _), Nat.sub_self]
  rfl
/-- The node on the way at a height. -/
def nodH (z : Int) (L : List (List Nat)) (i h : Nat) : List Nat := (lvl z (noT z) L h).getD (i / 2 ^ h) []
theorem nodH_up {z : Int} {L : List (List Nat)} {i h : Nat} (hi : i < L.length) :
    nodH z L i (h + 1) = if i / 2 ^ h % 2 = 1 then nodS z ((lvl z (noT z) L h).getD (broN i h) []) (nodH z L i h) else if i / 2 ^ h + 1 < lvN L.length h then nodS z (nodH z L i h) ((lvl z (noT z) L h).getD (broN i h) []) else nodH z L i h := by
  have hq : i / 2 ^ (h + 1) = i / 2 ^ h / 2 := by rw [Nat.pow_succ, ← Nat.div_div_eq_div_mul]
  have hlt : i / 2 ^ h < lvN L.length h := lt_lvN.2 (Nat.lt_of_le_of_lt (Nat.div_mul_le_self i (2 ^ h)) hi)
  unfold nodH broN
  rw [hq]
  generalize i / 2 ^ h = q at hlt ⊢
  rw [List.getD_eq_getElem?_getD, ← lvl_up, upL_at, lvl_len]
  rcases (by omega : q % 2 = 0 ∨ q % 2 = 1) with hp | hp
  · have e2 : 2 * (q / 2) = q := by omega
    rw [if_neg (by omega : ¬ q % 2 = 1), if_pos hp, e2]
    by_cases hb : q + 1 < lvN L.length h
    · rw [if_pos hb, if_pos hb]; rfl
    · rw [if_neg hb, if_neg hb, if_pos hlt]; rfl
  · have e2 : 2 * (q / 2) + 1 = q := by omega
    have e3 : 2 * (q / 2) = q - 1 := by omega
    rw [if_pos hp, if_neg (by omega : ¬ q % 2 = 0), e2, if_pos hlt, e3]
    rfl
theorem nodH_zero (z : Int) (L : List (List Nat)) (i : Nat) : nodH z L i 0 = L.getD i [] := by
  unfold nodH
  rw [lvl_zero, Nat.pow_zero, Nat.div_one]
theorem nodH_top {z : Int} {L : List (List Nat)} {i h : Nat} (hi : i < L.length) (hN : L.length ≤ 2 ^ h) : nodH z L i h = rngD z (noT z) L 0 L.length := by
  unfold nodH
  rw [Nat.div_eq_of_lt (by omega), lvl_getD (by omega)]
  congr 1
  · omega
  · omega
theorem lvl_fm {z : Int} {L : List (List Nat)} (hw : widthB z = true) (hL : ∀ d ∈ L, Dg d ∧ formB z d = true) {h j : Nat} (hj : j < lvN L.length h) : Dg ((lvl z (noT z) L h).getD j []) ∧ formB z ((lvl z (noT z) L h).getD j []) = true := by
  rw [lvl_getD (lt_lvN.1 hj)]
  exact ⟨log_dg _ _ _ (noT_dg _) (fun d hd => (hL d (List.mem_of_mem_drop (List.mem_of_mem_take hd))).1), log_form _ _ _ hw (noT_form hw) (fun d hd => (hL d (List.mem_of_mem_drop (List.mem_of_mem_take hd))).2)⟩
theorem dnodeF_any (z : Int) (l m : List Nat) (w : World) (hw : widthB z = true) (hl : Dg l) (hm : Dg m) (hlf : formB z l = true) (hmf : formB z m = true) (hT : Tabs w) :
    Calls Tryd.prog 60 #[.int .i64 z, .agg (brow l), .agg (brow m)] w fun e w' => e = .returned (.tuple #[.agg (brow (nodS z l m)), .int .i64 0]) ∧ Kept [] w w' := by
  have hz : 1 ≤ z ∧ z ≤ 32 := by simpa [widthB] using hw
  have h := node_all z l m w (by omega) hl.1 hm.1 hl.2 hm.2 hT
  rw [formedE_two hw hlf hmf] at h
  have e1 : sunD 0 z (nodeB z l m) = nodS z l m := by unfold nodS sunD; rw [if_pos rfl]
  have e2 : sunE 0 z = 0 := by simp [sunE, sumE, hw]
  rw [e1, e2] at h
  exact h
/-- One step of the fold, told whole. -/
structure FoS (z : Int) (L P : List (List Nat)) (i h : Nat) : Prop where
  dg : Dg (nodH z L i h) ∧ formB z (nodH z L i h) = true
  bro : (i / 2 ^ h % 2 = 1 ∨ i / 2 ^ h + 1 < lvN L.length h) → (ptD z L i h).length < P.length ∧ (Dg (P.getD (ptD z L i h).length []) ∧ formB z (P.getD (ptD z L i h).length []) = true) ∧ (ptD z L i (h + 1)).length = (ptD z L i h).length + 1 ∧ nodH z L i (h + 1) = (if i / 2 ^ h % 2 = 1 then nodS z (P.getD (ptD z L i h).length []) (nodH z L i h) else nodS z (nodH z L i h) (P.getD (ptD z L i h).length []))
  non : ¬ (i / 2 ^ h % 2 = 1 ∨ i / 2 ^ h + 1 < lvN L.length h) → (ptD z L i (h + 1)).length = (ptD z L i h).length ∧ nodH z L i (h + 1) = nodH z L i h
  fin : lvN L.length h ≤ 2 → (ptD z L i (h + 1)).length = P.length
  lt : i / 2 ^ h < lvN L.length h
theorem foS_of {z : Int} {L : List (List Nat)} {i h : Nat} (hw : widthB z = true) (hL : ∀ d ∈ L, Dg d ∧ formB z d = true) (hi : i < L.length) (hh : h < 64) : FoS z L (ptD z L i 64) i h := by
  have hlt : i / 2 ^ h < lvN L.length h := lt_lvN.2 (Nat.lt_of_le_of_lt (Nat.div_mul_le_self i (2 ^ h)) hi)
  have hup := nodH_up (z := z) (L := L) (i := i) (h := h) hi
  have hbr : (i / 2 ^ h % 2 = 1 ∨ i / 2 ^ h + 1 < lvN L.length h) ↔ broN i h < lvN L.length h := by
    unfold broN
    generalize i / 2 ^ h = q at hlt ⊢
    split <;> omega
  refine ⟨lvl_fm hw hL hlt, fun hb => ?_, fun hb => ?_, fun hc => ?_, hlt⟩
  · have hb2 := lt_lvN.1 (hbr.1 hb)
    have h1 := ptD_at (z := z) (L := L) (i := i) (h := h) hh hb2
    rw [h1.2]
    refine ⟨h1.1, lvl_fm hw hL (hbr.1 hb), by rw [ptD_some hb2]; simp, ?_⟩
    rw [hup]
    by_cases hp : i / 2 ^ h % 2 = 1
    · rw [if_pos hp, if_pos hp]
    · rw [if_neg hp, if_neg hp, if_pos (by omega)]
  · have hb2 : ¬ broN i h * 2 ^ h < L.length := fun hh' => hb (hbr.2 (lt_lvN.2 hh'))
    refine ⟨by rw [ptD_none hb2], ?_⟩
    rw [hup, if_neg (by omega), if_neg (by omega)]
  · have h1 : lvN L.length (h + 1) ≤ 1 := by rw [lvN_up]; omega
    have h2 : L.length ≤ 2 ^ (h + 1) := by
      rcases Nat.lt_or_ge (2 ^ (h + 1)) L.length with h9 | h9
      · have := lt_lvN.2 (by omega : 1 * 2 ^ (h + 1) < L.length); omega
      · exact h9
    rw [ptD_end hi h2 (by omega)]
end Go.Proofs.YtecadmldnjlibaaDoor
namespace Go.Proofs.YtecadmldnjlibaaDoor
open Go.RowKit Go.BigFrame
set_option linter.unusedVariables false
set_option linter.unusedSimpArgs false

/-- A number is an odd one times a power of two. -/
theorem odd_part : ∀ (m : Nat), 0 < m → ∃ q h, m = (2 * q + 1) * 2 ^ h
  | m, hm => by
    rcases (by omega : m % 2 = 1 ∨ m % 2 = 0) with h | h
    · exact ⟨m / 2, 0, by rw [Nat.pow_zero, Nat.mul_one]; omega⟩
    · obtain ⟨q, k, e⟩ := odd_part (m / 2) (by omega)
      exact ⟨q, k + 1, by rw [Nat.pow_succ, ← Nat.mul_assoc, ← e]; omega⟩
  termination_by m => m
  decreasing_by omega

/-- The brothers of the way of i from height h0 on. -/
def levR (N i h0 : Nat) : Nat → List (Nat × Nat)
  | 0 => []
  | c + 1 => levR N i h0 c ++ (if h0 ≤ c then (broS N i c).toList else [])
theorem levR_low (N i h0 : Nat) : ∀ c, c ≤ h0 → levR N i h0 c = []
  | 0, _ => rfl
  | c + 1, h => by rw [levR, levR_low N i h0 c (by omega), if_neg (by omega)]; rfl
theorem levR_pre (N i h0 h : Nat) : ∀ d, ∃ r, levR N i h0 (h + d) = levR N i h0 h ++ r
  | 0 => ⟨[], by simp⟩
  | d + 1 => by
    obtain ⟨r, hr⟩ := levR_pre N i h0 h d
    exact ⟨r ++ (if h0 ≤ h + d then (broS N i (h + d)).toList else []), by rw [← Nat.add_assoc, levR, hr, List.append_assoc]⟩

theorem seamF_fuel (m : Nat) : ∀ (c lo hi : Nat) (wh : Bool), lo < m → m ≤ hi → hi - lo ≤ 2 ^ c → seamF m (c + 1) lo hi wh = seamF m c lo hi wh
  | 0, lo, hi, wh, h1, h2, h3 => by
    have : m = hi := by simp at h3; omega
    rw [seamF_end this, seamF_end this]
  | c + 1, lo, hi, wh, h1, h2, h3 => by
    by_cases h : m = hi
    · rw [seamF_end h, seamF_end h]
    · have hb := belT_half (n := hi - lo) (c := c) (by omega) h3
      have hb2 := belT_lt (n := hi - lo) (by omega)
      by_cases h4 : m ≤ lo + belT (hi - lo)
      · rw [seamF_l h h4, seamF_l h h4, seamF_fuel m c _ _ _ h1 h4 (by omega)]
      · rw [seamF_r h h4, seamF_r h h4, seamF_fuel m c _ _ _ (by omega) h2 (by omega)]

theorem belT_mid {k h : Nat} (h1 : 2 ^ h < k) (h2 : k ≤ 2 * 2 ^ h) : belT k = 2 ^ h := by
  have hp : 1 ≤ 2 ^ h := Nat.one_le_two_pow
  unfold belT
  congr 1
  rw [Nat.log2_eq_iff (by omega), Nat.pow_succ]
  omega

theorem odd_mul {a b p : Nat} (h : a * p = b * p + p) (hp : 0 < p) : a = b + 1 := by
  have : a * p = (b + 1) * p := by rw [Nat.add_mul, Nat.one_mul]; exact h
  exact Nat.eq_of_mul_eq_mul_right hp this

/-- m's noughts are at most c where m lies above a multiple of 2^(c+1), by at most 2^c. -/
theorem nought_le {m q h0 c lo r : Nat} (hm : m = (2 * q + 1) * 2 ^ h0) (hl : 2 ^ (c + 1) ∣ lo) (e : m = lo + r) (h1 : 0 < r) (h2 : r < 2 ^ (c + 1)) : h0 ≤ c := by
  rcases Nat.lt_or_ge c h0 with h | h
  · exfalso
    have hd : 2 ^ (c + 1) ∣ m := by
      rw [hm]
      exact Nat.dvd_trans (Nat.pow_dvd_pow 2 (by omega)) (Nat.dvd_mul_left _ _)
    have : 2 ^ (c + 1) ∣ r := by
      rw [e] at hd
      exact (Nat.dvd_add_right hl).1 hd
    have := Nat.le_of_dvd h1 this
    omega
  · exact h
theorem nought_lt {m q h0 c lo r : Nat} (hm : m = (2 * q + 1) * 2 ^ h0) (hl : 2 ^ c ∣ lo) (e : m = lo + r) (h1 : 0 < r) (h2 : r < 2 ^ c) : h0 < c := by
  rcases Nat.lt_or_ge h0 c with h | h
  · exact h
  · exfalso
    have hd : 2 ^ c ∣ m := by
      rw [hm]
      exact Nat.dvd_trans (Nat.pow_dvd_pow 2 h) (Nat.dvd_mul_left _ _)
    have : 2 ^ c ∣ r := by
      rw [e] at hd
      exact (Nat.dvd_add_right hl).1 hd
    have := Nat.le_of_dvd h1 this
    omega
theorem nought_eq {m q h0 c x : Nat} (hm : m = (2 * q + 1) * 2 ^ h0) (e : m = 2 ^ c * (2 * x + 1)) : h0 = c := by
  rcases Nat.lt_trichotomy h0 c with h | h | h
  · exfalso
    obtain ⟨d, rfl⟩ : ∃ d, c = h0 + (d + 1) := ⟨c - h0 - 1, by omega⟩
    rw [hm, Nat.pow_add, Nat.mul_comm (2 * q + 1), Nat.mul_assoc] at e
    have := Nat.eq_of_mul_eq_mul_left (Nat.two_pow_pos h0) e
    rw [Nat.pow_succ, Nat.mul_comm (2 ^ d) 2, Nat.mul_assoc] at this
    omega
  · exact h
  · exfalso
    obtain ⟨d, rfl⟩ : ∃ d, h0 = c + (d + 1) := ⟨h0 - c - 1, by omega⟩
    rw [hm, Nat.pow_add, Nat.mul_comm (2 * q + 1), Nat.mul_assoc] at e
    have := Nat.eq_of_mul_eq_mul_left (Nat.two_pow_pos c) e
    rw [Nat.pow_succ, Nat.mul_comm (2 ^ d) 2, Nat.mul_assoc] at this
    omega

/-- A consistency proof's ranges, from below. -/
theorem seam_levs (N m q h0 : Nat) (hm : m = (2 * q + 1) * 2 ^ h0) (hmN : m < N) : ∀ (c lo hi : Nat) (wh : Bool), (wh = true ↔ lo = 0) → lo < m → m ≤ hi → 2 ^ c ∣ lo → hi - lo ≤ 2 ^ c → hi ≤ N → (hi = N ∨ hi - lo = 2 ^ c) → (m = hi → h0 = c) →
    seamF m c lo hi wh = (if m = 2 ^ h0 then [] else [(m - 2 ^ h0, m)]) ++ levR N (m - 1) h0 c
  | c, lo, hi, wh, hw, h1, h2, h3, h4, h5, h6, h7 => by
    by_cases hme : m = hi
    · have hc := h7 hme
      subst hc
      rw [seamF_end hme, levR_low N _ h0 h0 (Nat.le_refl _), List.append_nil]
      have hl : hi - lo = 2 ^ h0 := by omega
      cases wh with
      | true =>
        have := hw.1 rfl
        rw [if_pos rfl, if_pos (by omega)]
      | false =>
        have : lo ≠ 0 := fun h => by have := hw.2 h; simp at this
        rw [if_neg (by simp), if_neg (by omega)]
        have e1 : m - 2 ^ h0 = lo := by omega
        rw [e1, hme]
    · cases c with
      | zero => simp at h4; omega
      | succ c =>
        obtain ⟨x, rfl⟩ := h3
        have hp : 1 ≤ 2 ^ c := Nat.one_le_two_pow
        have hps : 2 ^ (c + 1) = 2 * 2 ^ c := by rw [Nat.pow_succ]; omega
        have hlo : 2 ^ (c + 1) * x = 2 ^ c * (2 * x) := by rw [hps, Nat.mul_assoc, Nat.mul_left_comm]
        by_cases hn : hi - 2 ^ (c + 1) * x ≤ 2 ^ c
        · have hN : hi = N := by omega
          have hz : h0 < c := nought_lt (r := m - 2 ^ (c + 1) * x) hm ⟨2 * x, hlo⟩ (by omega) (by omega) (by omega)
          rw [seamF_fuel m c _ _ _ h1 h2 hn, seam_levs N m q h0 hm hmN c _ hi wh hw h1 h2 ⟨2 * x, hlo⟩ hn h5 (Or.inl hN) (fun h => absurd h hme), levR, if_pos (show h0 ≤ c by omega)]
          have hd : (m - 1) / 2 ^ c = 2 * x := by
            obtain ⟨r, hr⟩ : ∃ r, m - 1 = 2 ^ c * (2 * x) + r := ⟨m - 1 - 2 ^ c * (2 * x), by omega⟩
            rw [hr, Nat.mul_add_div (by omega), Nat.div_eq_of_lt (by omega)]; rfl
          have hb : broN (m - 1) c * 2 ^ c = 2 ^ c * (2 * x) + 2 ^ c := by
            unfold broN
            rw [hd, if_pos (by omega), Nat.mul_comm, Nat.mul_add, Nat.mul_one]
          have : broS N (m - 1) c = none := by
            unfold broS
            rw [if_neg (by rw [hb]; omega)]
          rw [this]; simp
        · have hbel : belT (hi - 2 ^ (c + 1) * x) = 2 ^ c := belT_mid (by omega) (by omega)
          by_cases hs : m ≤ 2 ^ (c + 1) * x + 2 ^ c
          · have hz : h0 ≤ c := nought_le (r := m - 2 ^ (c + 1) * x) (lo := 2 ^ (c + 1) * x) hm ⟨x, rfl⟩ (by omega) (by omega) (by omega)
            rw [seamF_l hme (by rw [hbel]; exact hs), hbel, seam_levs N m q h0 hm hmN c _ _ wh hw h1 hs ⟨2 * x, hlo⟩ (by omega) (by omega) (Or.inr (by omega)) (fun h => nought_eq (x := x) hm (by rw [Nat.mul_add, ← hlo, Nat.mul_one]; exact h)), levR, if_pos hz, ← List.append_assoc]
            congr 1
            have hd : (m - 1) / 2 ^ c = 2 * x := by
              obtain ⟨r, hr⟩ : ∃ r, m - 1 = 2 ^ c * (2 * x) + r := ⟨m - 1 - 2 ^ c * (2 * x), by omega⟩
              rw [hr, Nat.mul_add_div (by omega), Nat.div_eq_of_lt (by omega)]; rfl
            have hbn : broN (m - 1) c = 2 * x + 1 := by unfold broN; rw [hd, if_pos (by omega)]
            have e1 : (2 * x + 1) * 2 ^ c = 2 ^ c * (2 * x) + 2 ^ c := by rw [Nat.mul_comm, Nat.mul_add, Nat.mul_one]
            have e2 : (2 * x + 1 + 1) * 2 ^ c = 2 ^ c * (2 * x) + 2 * 2 ^ c := by rw [Nat.add_assoc, Nat.add_mul, Nat.mul_comm (2 * x)]
            unfold broS
            rw [hbn, e1, e2, if_pos (by omega), ← hlo, Nat.min_def]
            split
            · have : hi = 2 ^ (c + 1) * x + 2 * 2 ^ c := by omega
              simp [this]
            · have : hi = N := by omega
              simp [this]
          · have hz : h0 < c := nought_lt (r := m - (2 ^ (c + 1) * x + 2 ^ c)) (lo := 2 ^ (c + 1) * x + 2 ^ c) hm ⟨2 * x + 1, by rw [hlo, Nat.mul_add, Nat.mul_one]⟩ (by omega) (by omega) (by omega)
            rw [seamF_r hme (by rw [hbel]; exact hs), hbel, seam_levs N m q h0 hm hmN c _ _ false ⟨fun h => by simp at h, fun h => by omega⟩ (by omega) h2 ⟨2 * x + 1, by rw [hlo, Nat.mul_add, Nat.mul_one]⟩ (by omega) h5 (by omega) (fun h => absurd h hme), levR, if_pos (show h0 ≤ c by omega), ← List.append_assoc]
            congr 1
            have hd : (m - 1) / 2 ^ c = 2 * x + 1 := by
              obtain ⟨r, hr⟩ : ∃ r, m - 1 = 2 ^ c * (2 * x + 1) + r := ⟨m - 1 - 2 ^ c * (2 * x + 1), by rw [Nat.mul_add]; omega⟩
              have : r < 2 ^ c := by rw [Nat.mul_add] at hr; omega
              rw [hr, Nat.mul_add_div (by omega), Nat.div_eq_of_lt this]
            have hbn : broN (m - 1) c = 2 * x := by unfold broN; rw [hd, if_neg (by omega), Nat.add_sub_cancel]
            have e1 : 2 * x * 2 ^ c = 2 ^ c * (2 * x) := by rw [Nat.mul_comm]
            have e2 : (2 * x + 1) * 2 ^ c = 2 ^ c * (2 * x) + 2 ^ c := by rw [Nat.mul_comm, Nat.mul_add, Nat.mul_one]
            unfold broS
            rw [hbn, e1, e2, if_pos (by omega), ← hlo, Nat.min_eq_left (by omega)]
            simp
theorem seam_all {N m q h0 : Nat} (hm : m = (2 * q + 1) * 2 ^ h0) (hm0 : 0 < m) (hmN : m < N) (hN : N ≤ 2 ^ 64) : smL m N = (if m = 2 ^ h0 then [] else [(m - 2 ^ h0, m)]) ++ levR N (m - 1) h0 64 := by
  unfold smL
  rw [if_neg (by omega)]
  exact seam_levs N m q h0 hm hmN 64 0 N true (by simp) hm0 (by omega) (Nat.dvd_zero _) (by omega) (Nat.le_refl _) (Or.inl rfl) (fun h => by omega)

/-- The left end of the node on the way of i at a height. -/
def loH (i h : Nat) : Nat := i / 2 ^ h * 2 ^ h
/-- What the fold holds at a height: the old tree's node and the new one's. -/
def aH (z : Int) (L : List (List Nat)) (m h : Nat) : List Nat := rngD z (noT z) L (loH (m - 1) h) m
def bH (z : Int) (L : List (List Nat)) (m n h : Nat) : List Nat := rngD z (noT z) L (loH (m - 1) h) (min (loH (m - 1) h + 2 ^ h) n)

theorem loH_le (i h : Nat) : loH i h ≤ i ∧ i < loH i h + 2 ^ h := by
  unfold loH
  have h1 := Nat.div_mul_le_self i (2 ^ h)
  have h2 := Nat.lt_div_mul_add (a := i) (b := 2 ^ h) (Nat.two_pow_pos h)
  exact ⟨h1, h2⟩
theorem div_up (i h : Nat) : i / 2 ^ (h + 1) = i / 2 ^ h / 2 := by rw [Nat.pow_succ, ← Nat.div_div_eq_div_mul]
theorem loH_even {i h : Nat} (he : i / 2 ^ h % 2 = 0) : loH i (h + 1) = loH i h := by
  unfold loH
  rw [div_up, Nat.pow_succ, Nat.mul_comm (2 ^ h) 2, ← Nat.mul_assoc]
  congr 1
  omega
theorem loH_odd {i h : Nat} (he : i / 2 ^ h % 2 = 1) : loH i (h + 1) + 2 ^ h = loH i h := by
  unfold loH
  rw [div_up, Nat.pow_succ, Nat.mul_comm (2 ^ h) 2, ← Nat.mul_assoc]
  have : i / 2 ^ h = i / 2 ^ h / 2 * 2 + 1 := by omega
  conv => rhs; rw [this]
  rw [Nat.add_mul, Nat.one_mul]
theorem bro_odd {N i h : Nat} (he : i / 2 ^ h % 2 = 1) (hi : i < N) : broS N i h = some (loH i (h + 1), loH i h) := by
  have h1 := loH_odd he
  have h2 := loH_le i h
  have hb : broN i h * 2 ^ h = loH i (h + 1) := by
    unfold broN
    rw [if_neg (by omega), Nat.sub_mul, Nat.one_mul]
    unfold loH at h1 h2 ⊢
    omega
  have hb1 : (broN i h + 1) * 2 ^ h = loH i h := by rw [Nat.add_mul, Nat.one_mul, hb]; exact h1
  unfold broS
  rw [hb, hb1, if_pos (by omega), Nat.min_eq_left (by omega)]
theorem bro_even {N i h : Nat} (he : i / 2 ^ h % 2 = 0) : broS N i h = if loH i h + 2 ^ h < N then some (loH i h + 2 ^ h, min (loH i h + 2 * 2 ^ h) N) else none := by
  have hb : broN i h * 2 ^ h = loH i h + 2 ^ h := by
    unfold broN
    rw [if_pos he, Nat.add_mul, Nat.one_mul]
    rfl
  have hb1 : (broN i h + 1) * 2 ^ h = loH i h + 2 * 2 ^ h := by rw [Nat.add_mul, Nat.one_mul, hb]; omega
  unfold broS
  rw [hb, hb1]
theorem same_top {i N h : Nat} (hN : 0 < N) : (N - 1) / 2 ^ h = i / 2 ^ h → N ≤ loH i h + 2 ^ h := by
  intro e
  have := loH_le (N - 1) h
  unfold loH at this ⊢
  rw [e] at this
  omega
theorem less_top {i N h : Nat} (hN : 0 < N) (h1 : i < N) : ¬ (N - 1) / 2 ^ h = i / 2 ^ h → loH i h + 2 ^ h < N := by
  intro e
  have h2 : i / 2 ^ h ≤ (N - 1) / 2 ^ h := Nat.div_le_div_right (by omega)
  have h3 : i / 2 ^ h + 1 ≤ (N - 1) / 2 ^ h := by omega
  have h4 := Nat.mul_le_mul_right (2 ^ h) h3
  have h5 := loH_le (N - 1) h
  unfold loH at h5 ⊢
  rw [Nat.add_mul, Nat.one_mul] at h4
  omega

section
variable {z : Int} {L : List (List Nat)} {m n h0 h : Nat}
/-- No brother. -/
theorem si_same (hm : 0 < m) (hmn : m < n) (he : (m - 1) / 2 ^ h % 2 = 0) (hs : (n - 1) / 2 ^ h = (m - 1) / 2 ^ h) : aH z L m (h + 1) = aH z L m h ∧ bH z L m n (h + 1) = bH z L m n h ∧ levR n (m - 1) h0 (h + 1) = levR n (m - 1) h0 h := by
  have h1 := loH_even he
  have h2 := same_top (by omega) hs
  refine ⟨by unfold aH; rw [h1], ?_, ?_⟩
  · unfold bH
    rw [h1, Nat.min_eq_right (by rw [Nat.pow_succ]; omega), Nat.min_eq_right h2]
  · rw [levR, bro_even he, if_neg (show ¬ loH (m - 1) h + 2 ^ h < n by omega)]
    simp
/-- A brother to the left. -/
theorem si_left (hm : 0 < m) (hmn : m < n) (hn : n ≤ L.length) (hh : h0 ≤ h) (he : (m - 1) / 2 ^ h % 2 = 1) : ∃ s : Nat × Nat, levR n (m - 1) h0 (h + 1) = levR n (m - 1) h0 h ++ [s] ∧ s.1 < s.2 ∧ s.2 ≤ n ∧ aH z L m (h + 1) = nodS z (rngD z (noT z) L s.1 s.2) (aH z L m h) ∧ bH z L m n (h + 1) = nodS z (rngD z (noT z) L s.1 s.2) (bH z L m n h) := by
  have h1 := loH_odd he
  have h2 := loH_le (m - 1) h
  have hp := Nat.two_pow_pos h
  refine ⟨(loH (m - 1) (h + 1), loH (m - 1) h), by rw [levR, if_pos hh, bro_odd he (by omega)]; rfl, by simp; omega, by simp; omega, ?_, ?_⟩
  · unfold aH
    have hb : belT (m - loH (m - 1) (h + 1)) = 2 ^ h := belT_mid (by omega) (by omega)
    rw [rngD_cut (lo := loH (m - 1) (h + 1)) (hi := m) (by omega) (by omega), hb, h1]
    rfl
  · unfold bH
    have e1 : loH (m - 1) (h + 1) + 2 ^ (h + 1) = loH (m - 1) h + 2 ^ h := by rw [Nat.pow_succ]; omega
    rw [e1]
    have h3 : loH (m - 1) h < min (loH (m - 1) h + 2 ^ h) n := by omega
    have h4 : min (loH (m - 1) h + 2 ^ h) n ≤ loH (m - 1) h + 2 ^ h := Nat.min_le_left _ _
    have h5 : min (loH (m - 1) h + 2 ^ h) n ≤ n := Nat.min_le_right _ _
    generalize min (loH (m - 1) h + 2 ^ h) n = y at h3 h4 h5 ⊢
    have hb : belT (y - loH (m - 1) (h + 1)) = 2 ^ h := belT_mid (by omega) (by omega)
    rw [rngD_cut (lo := loH (m - 1) (h + 1)) (hi := y) (by omega) (by omega), hb, h1]
    rfl
/-- A brother to the right. -/
theorem si_right (hm : 0 < m) (hmn : m < n) (hn : n ≤ L.length) (hh : h0 ≤ h) (he : (m - 1) / 2 ^ h % 2 = 0) (hs : ¬ (n - 1) / 2 ^ h = (m - 1) / 2 ^ h) : ∃ s : Nat × Nat, levR n (m - 1) h0 (h + 1) = levR n (m - 1) h0 h ++ [s] ∧ s.1 < s.2 ∧ s.2 ≤ n ∧ aH z L m (h + 1) = aH z L m h ∧ bH z L m n (h + 1) = nodS z (bH z L m n h) (rngD z (noT z) L s.1 s.2) := by
  have h1 := loH_even he
  have h2 := loH_le (m - 1) h
  have h3 := less_top (i := m - 1) (N := n) (by omega) (by omega) hs
  have hp := Nat.two_pow_pos h
  refine ⟨(loH (m - 1) h + 2 ^ h, min (loH (m - 1) h + 2 * 2 ^ h) n), by rw [levR, if_pos hh, bro_even he, if_pos h3]; rfl, by simp; omega, by simp; omega, by unfold aH; rw [h1], ?_⟩
  unfold bH
  have e1 : loH (m - 1) (h + 1) + 2 ^ (h + 1) = loH (m - 1) h + 2 * 2 ^ h := by rw [Nat.pow_succ]; omega
  rw [e1, Nat.min_eq_left (by omega : loH (m - 1) h + 2 ^ h ≤ n), h1]
  have h5 : loH (m - 1) h + 2 ^ h < min (loH (m - 1) h + 2 * 2 ^ h) n := by omega
  have h6 : min (loH (m - 1) h + 2 * 2 ^ h) n ≤ loH (m - 1) h + 2 * 2 ^ h := Nat.min_le_left _ _
  have h7 : min (loH (m - 1) h + 2 * 2 ^ h) n ≤ n := Nat.min_le_right _ _
  show rngD z (noT z) L (loH (m - 1) h) _ = nodS z _ (rngD z (noT z) L (loH (m - 1) h + 2 ^ h) (min (loH (m - 1) h + 2 * 2 ^ h) n))
  generalize min (loH (m - 1) h + 2 * 2 ^ h) n = y at h5 h6 h7 ⊢
  have hb : belT (y - loH (m - 1) h) = 2 ^ h := belT_mid (by omega) (by omega)
  rw [rngD_cut (lo := loH (m - 1) h) (hi := y) (by omega) (by omega), hb]
  rfl
/-- The next brother to the left of a node that is the last of its height. -/
theorem si_next (hm : 0 < m) (hmn : m < n) : ∀ (f h : Nat), (m - 1) / 2 ^ h = f → 0 < f → ((m - 1) / 2 ^ h % 2 = 1 ∨ (n - 1) / 2 ^ h = (m - 1) / 2 ^ h) → ∃ k, h ≤ k ∧ (m - 1) / 2 ^ k % 2 = 1 ∧ (∀ g, h ≤ g → g < k → (m - 1) / 2 ^ g % 2 = 0 ∧ 0 < (m - 1) / 2 ^ g) ∧ aH z L m k = aH z L m h ∧ bH z L m n k = bH z L m n h ∧ levR n (m - 1) h0 k = levR n (m - 1) h0 h
  | f, h, hf, hf0, ho => by
    by_cases hod : (m - 1) / 2 ^ h % 2 = 1
    · exact ⟨h, Nat.le_refl _, hod, fun g h1 h2 => by omega, rfl, rfl, rfl⟩
    · have he : (m - 1) / 2 ^ h % 2 = 0 := by omega
      have hs : (n - 1) / 2 ^ h = (m - 1) / 2 ^ h := by omega
      have s := si_same (z := z) (L := L) (h0 := h0) hm hmn he hs
      obtain ⟨k, k1, k2, k3, k4, k5, k6⟩ := si_next hm hmn (f / 2) (h + 1) (by rw [div_up, hf]) (by omega) (Or.inr (by rw [div_up, div_up, hs]))
      refine ⟨k, by omega, k2, fun g h1 h2 => ?_, by rw [k4, s.1], by rw [k5, s.2.1], by rw [k6, s.2.2]⟩
      by_cases hg : g = h
      · subst hg; exact ⟨he, by omega⟩
      · exact k3 g (by omega) h2
  termination_by f => f
  decreasing_by omega
theorem si_none (hm : 0 < m) (hmn : m < n) (hs : (n - 1) / 2 ^ h = 0) : ∀ d, levR n (m - 1) h0 (h + d) = levR n (m - 1) h0 h
  | 0 => rfl
  | d + 1 => by
    have ih := si_none hm hmn hs d
    have e1 : (n - 1) / 2 ^ (h + d) = 0 := by rw [Nat.pow_add, ← Nat.div_div_eq_div_mul, hs, Nat.zero_div]
    have e2 : (m - 1) / 2 ^ (h + d) = 0 := by
      have := Nat.div_le_div_right (c := 2 ^ (h + d)) (by omega : m - 1 ≤ n - 1)
      rw [e1] at this
      exact Nat.le_zero.1 this
    have s := si_same (z := 1) (L := []) (h0 := h0) (h := h + d) hm hmn (by rw [e2]) (by rw [e1, e2])
    rw [← Nat.add_assoc, s.2.2, ih]
end
end Go.Proofs.YtecadmldnjlibaaDoor
namespace Go.Proofs.YtecadmldnjlibaaDoor
open Go.RowKit Go.BigFrame
set_option linter.unusedVariables false
set_option linter.unusedSimpArgs false

theorem pow_div {m q h0 : Nat} (hm : m = (2 * q + 1) * 2 ^ h0) : (m - 1) / 2 ^ h0 = 2 * q := by
  have hp := Nat.two_pow_pos h0
  have e : m - 1 = 2 ^ h0 * (2 * q) + (2 ^ h0 - 1) := by rw [hm, Nat.add_mul, Nat.one_mul, Nat.mul_comm (2 * q)]; omega
  rw [e, Nat.mul_add_div hp, Nat.div_eq_of_lt (by omega)]; rfl
theorem pow_odd {m q h0 g : Nat} (hm : m = (2 * q + 1) * 2 ^ h0) (hg : g < h0) : (m - 1) / 2 ^ g % 2 = 1 := by
  obtain ⟨d, rfl⟩ : ∃ d, h0 = g + (d + 1) := ⟨h0 - g - 1, by omega⟩
  have hp := Nat.two_pow_pos g
  have hy : 0 < (2 * q + 1) * 2 ^ d := Nat.mul_pos (by omega) (Nat.two_pow_pos d)
  have e : m = 2 ^ g * (2 * ((2 * q + 1) * 2 ^ d)) := by
    rw [hm, Nat.pow_add, Nat.pow_succ, Nat.mul_comm (2 ^ d) 2, Nat.mul_left_comm, Nat.mul_left_comm 2]
  generalize (2 * q + 1) * 2 ^ d = y at e hy
  obtain ⟨x, rfl⟩ : ∃ x, y = x + 1 := ⟨y - 1, by omega⟩
  have e2 : m - 1 = 2 ^ g * (2 * x + 1) + (2 ^ g - 1) := by
    have : 2 ^ g * (2 * (x + 1)) = 2 ^ g * (2 * x + 1) + 2 ^ g := by rw [show 2 * (x + 1) = 2 * x + 1 + 1 by omega, Nat.mul_succ]
    omega
  rw [e2, Nat.mul_add_div hp, Nat.div_eq_of_lt (by omega)]; omega
theorem pow_and {m q h0 : Nat} (hm : m = (2 * q + 1) * 2 ^ h0) : m &&& (m - 1) = 0 ↔ m = 2 ^ h0 := by
  have hp := Nat.two_pow_pos h0
  constructor
  · intro h
    by_cases hq : q = 0
    · subst hq; rw [hm]; simp
    · exfalso
      have e1 : m / 2 ^ h0 = 2 * q + 1 := by rw [hm, Nat.mul_div_cancel _ hp]
      have e2 := pow_div hm
      have : (m &&& (m - 1)) / 2 ^ h0 = (2 * q + 1) &&& (2 * q) := by rw [← Nat.shiftRight_eq_div_pow, Nat.shiftRight_and_distrib, Nat.shiftRight_eq_div_pow, Nat.shiftRight_eq_div_pow, e1, e2]
      rw [h, Nat.zero_div] at this
      have h2 : ((2 * q + 1) &&& (2 * q)) / 2 = q := by
        rw [Nat.and_div_two, show (2 * q + 1) / 2 = q by omega, show 2 * q / 2 = q by omega, Nat.and_self]
      rw [← this] at h2
      simp at h2
      exact hq h2.symm
  · intro h
    rw [h]
    exact Nat.and_two_pow_sub_one_eq_mod (2 ^ h0) h0 ▸ Nat.mod_self _

/-- The digests that the fold takes. -/
def QL (z : Int) (L : List (List Nat)) (m n h0 : Nat) : List (List Nat) := rngD z (noT z) L (m - 2 ^ h0) m :: (levR n (m - 1) h0 64).map (fun s => rngD z (noT z) L s.1 s.2)

section
variable {z : Int} {L : List (List Nat)} {m n h0 h : Nat}
theorem levR_le (hh : h ≤ 64) : (levR n (m - 1) h0 h).length ≤ (levR n (m - 1) h0 64).length := by
  obtain ⟨r, hr⟩ := levR_pre n (m - 1) h0 h (64 - h)
  rw [show h + (64 - h) = 64 by omega] at hr
  rw [hr, List.length_append]; omega
theorem QL_len : (QL z L m n h0).length = (levR n (m - 1) h0 64).length + 1 := by simp [QL]
theorem QL_at {s : Nat × Nat} {k : Nat} (hk : k < 64) (e : levR n (m - 1) h0 (k + 1) = levR n (m - 1) h0 k ++ [s]) : (levR n (m - 1) h0 k).length < (levR n (m - 1) h0 64).length ∧ (QL z L m n h0).getD ((levR n (m - 1) h0 k).length + 1) [] = rngD z (noT z) L s.1 s.2 := by
  obtain ⟨r, hr⟩ := levR_pre n (m - 1) h0 (k + 1) (64 - (k + 1))
  rw [show k + 1 + (64 - (k + 1)) = 64 by omega, e] at hr
  refine ⟨by rw [hr]; simp, ?_⟩
  unfold QL
  rw [hr, List.getD_eq_getElem?_getD, List.getElem?_cons_succ, List.getElem?_map, List.append_assoc, List.getElem?_append_right (Nat.le_refl _), Nat.sub_self]
  rfl
theorem small_top {x h : Nat} (hx : x < 2 ^ 64) (h1 : x / 2 ^ h ≠ 0) : h < 64 := by
  rcases Nat.lt_or_ge h 64 with h2 | h2
  · exact h2
  · exfalso
    apply h1
    refine Nat.div_eq_of_lt (Nat.lt_of_lt_of_le hx (Nat.pow_le_pow_right (by omega) h2))
theorem si_pos (hm : 0 < m) (hmn : m < n) (hh : h ≤ 64) (hj : (levR n (m - 1) h0 h).length + 1 < (QL z L m n h0).length) : (n - 1) / 2 ^ h ≠ 0 := by
  intro hs
  have := si_none (h0 := h0) hm hmn hs (64 - h)
  rw [show h + (64 - h) = 64 by omega] at this
  rw [QL_len, this] at hj
  omega
theorem si_up (hm : 0 < m) (hmn : m < n) (hn : n ≤ L.length) (hN : n < 2 ^ 64) (hh0 : h0 ≤ h) (hs : (n - 1) / 2 ^ h ≠ 0) (ho : (m - 1) / 2 ^ h % 2 = 1 ∨ (n - 1) / 2 ^ h = (m - 1) / 2 ^ h) :
    ∃ k, h ≤ k ∧ k < 64 ∧ (m - 1) / 2 ^ k % 2 = 1 ∧ (∀ g, h ≤ g → g < k → (m - 1) / 2 ^ g % 2 = 0 ∧ 0 < (m - 1) / 2 ^ g) ∧ (levR n (m - 1) h0 h).length < (levR n (m - 1) h0 64).length ∧ (levR n (m - 1) h0 (k + 1)).length = (levR n (m - 1) h0 h).length + 1 ∧
      aH z L m (k + 1) = nodS z ((QL z L m n h0).getD ((levR n (m - 1) h0 h).length + 1) []) (aH z L m h) ∧ bH z L m n (k + 1) = nodS z ((QL z L m n h0).getD ((levR n (m - 1) h0 h).length + 1) []) (bH z L m n h) := by
  obtain ⟨k, k1, k2, k3, k4, k5, k6⟩ := si_next (z := z) (L := L) (h0 := h0) hm hmn _ h rfl ((fun (a b : Nat) (h1 : b ≠ 0) (h2 : a % 2 = 1 ∨ b = a) => by omega : ∀ a b : Nat, b ≠ 0 → (a % 2 = 1 ∨ b = a) → 0 < a) _ _ hs ho) ho
  have hk : k < 64 := small_top (x := m - 1) (by omega) (fun h => by rw [h] at k2; simp at k2)
  obtain ⟨s, s1, s2, s3, s4, s5⟩ := si_left (z := z) (L := L) (h0 := h0) (h := k) hm hmn hn (by omega) k2
  have hq := QL_at (z := z) (L := L) hk s1
  rw [k6] at hq s1
  refine ⟨k, k1, hk, k2, k3, hq.1, by rw [s1]; simp, ?_, ?_⟩
  · rw [s4, hq.2, k4]
  · rw [s5, hq.2, k5]
theorem si_dn (hm : 0 < m) (hmn : m < n) (hn : n ≤ L.length) (hN : n < 2 ^ 64) (hh0 : h0 ≤ h) (hs : (n - 1) / 2 ^ h ≠ 0) (ho : ¬ ((m - 1) / 2 ^ h % 2 = 1 ∨ (n - 1) / 2 ^ h = (m - 1) / 2 ^ h)) :
    h < 64 ∧ (levR n (m - 1) h0 h).length < (levR n (m - 1) h0 64).length ∧ (levR n (m - 1) h0 (h + 1)).length = (levR n (m - 1) h0 h).length + 1 ∧
      aH z L m (h + 1) = aH z L m h ∧ bH z L m n (h + 1) = nodS z (bH z L m n h) ((QL z L m n h0).getD ((levR n (m - 1) h0 h).length + 1) []) := by
  have hk : h < 64 := small_top (x := n - 1) (by omega) hs
  obtain ⟨s, s1, s2, s3, s4, s5⟩ := si_right (z := z) (L := L) (h0 := h0) (h := h) hm hmn hn hh0 (by omega) (by omega)
  have hq := QL_at (z := z) (L := L) hk s1
  exact ⟨hk, hq.1, by rw [s1]; simp, s4, by rw [s5, hq.2]⟩
theorem si_fin (hm : 0 < m) (hmn : m < n) (hn : n ≤ L.length) (hN : n < 2 ^ 64) (hh0 : h0 ≤ h) (hj : ¬ (levR n (m - 1) h0 h).length + 1 < (QL z L m n h0).length) : (n - 1) / 2 ^ h = 0 := by
  apply Classical.byContradiction
  intro hs
  rw [QL_len] at hj
  by_cases ho : (m - 1) / 2 ^ h % 2 = 1 ∨ (n - 1) / 2 ^ h = (m - 1) / 2 ^ h
  · obtain ⟨k, _, _, _, _, h5, _⟩ := si_up (z := z) (L := L) hm hmn hn hN hh0 hs ho
    omega
  · have := (si_dn (z := z) (L := L) hm hmn hn hN hh0 hs ho).2.1
    omega
theorem si_end (hmn : m < n) (hs : (n - 1) / 2 ^ h = 0) : aH z L m h = rngD z (noT z) L 0 m ∧ bH z L m n h = rngD z (noT z) L 0 n := by
  have e2 : (m - 1) / 2 ^ h = 0 := by
    have := Nat.div_le_div_right (c := 2 ^ h) (by omega : m - 1 ≤ n - 1)
    rw [hs] at this
    exact Nat.le_zero.1 this
  have hl : loH (m - 1) h = 0 := by unfold loH; rw [e2, Nat.zero_mul]
  have ht := loH_le (n - 1) h
  unfold loH at ht
  rw [hs, Nat.zero_mul] at ht
  refine ⟨by unfold aH; rw [hl], ?_⟩
  unfold bH
  rw [hl, Nat.min_eq_right (by omega)]
theorem si_start {q : Nat} (hm : m = (2 * q + 1) * 2 ^ h0) (hmn : m < n) : aH z L m h0 = rngD z (noT z) L (m - 2 ^ h0) m ∧ bH z L m n h0 = rngD z (noT z) L (m - 2 ^ h0) m := by
  have hp := Nat.two_pow_pos h0
  have hl : loH (m - 1) h0 = m - 2 ^ h0 := by
    unfold loH
    rw [pow_div hm]
    have : m = 2 * q * 2 ^ h0 + 2 ^ h0 := by rw [hm, Nat.add_mul, Nat.one_mul]
    omega
  have hle : 2 ^ h0 ≤ m := by rw [hm, Nat.add_mul, Nat.one_mul]; omega
  refine ⟨by unfold aH; rw [hl], ?_⟩
  unfold bH
  rw [hl, Nat.min_eq_left (by omega), show m - 2 ^ h0 + 2 ^ h0 = m by omega]
end

end Go.Proofs.YtecadmldnjlibaaDoor
/-
  Laws for drawn regions, by genreg.py. No program.
-/
namespace Go.Proofs.YtecadmldnjlibaaDoor
open Go Go.RowKit Go.BigFrame
set_option linter.unusedVariables false
set_option linter.unusedSimpArgs false
section
variable {P : Program} {Q : Exit → Act → World → Prop}
theorem wp_lo13 {id : Nat} {o0 o1 o2 o3 o4 o5 o6 o7 o8 o9 o10 o11 o12 : Oper} {a : Act} {w : World} (hm : P.follows .mixedOrders = true) (hs : Region.noSelect #[o0, o1, o2, o3, o4, o5, o6, o7, o8, o9, o10, o11, o12] = true)
    (f0 : Region.free .any #[o0, o1, o2, o3, o4, o5, o6, o7, o8, o9, o10, o11, o12] #[false, false, false, false, false, false, false, false, false, false, false, false, false] 0 = true) (r0 : (Region.ready .any #[o0, o1, o2, o3, o4, o5, o6, o7, o8, o9, o10, o11, o12] #[false, false, false, false, false, false, false, false, false, false, false, false, false]).contains 0 = true)
    (f1 : Region.free .any #[o0, o1, o2, o3, o4, o5, o6, o7, o8, o9, o10, o11, o12] #[true, false, false, false, false, false, false, false, false, false, false, false, false] 1 = true) (r1 : (Region.ready .any #[o0, o1, o2, o3, o4, o5, o6, o7, o8, o9, o10, o11, o12] #[true, false, false, false, false, false, false, false, false, false, false, false, false]).contains 1 = true)
    (f2 : Region.free .any #[o0, o1, o2, o3, o4, o5, o6, o7, o8, o9, o10, o11, o12] #[true, true, false, false, false, false, false, false, false, false, false, false, false] 2 = true) (r2 : (Region.ready .any #[o0, o1, o2, o3, o4, o5, o6, o7, o8, o9, o10, o11, o12] #[true, true, false, false, false, false, false, false, false, false, false, false, false]).contains 2 = true)
    (f3 : Region.free .any #[o0, o1, o2, o3, o4, o5, o6, o7, o8, o9, o10, o11, o12] #[true, true, true, false, false, false, false, false, false, false, false, false, false] 3 = true) (r3 : (Region.ready .any #[o0, o1, o2, o3, o4, o5, o6, o7, o8, o9, o10, o11, o12] #[true, true, true, false, false, false, false, false, false, false, false, false, false]).contains 3 = true)
    (f4 : Region.free .any #[o0, o1, o2, o3, o4, o5, o6, o7, o8, o9, o10, o11, o12] #[true, true, true, true, false, false, false, false, false, false, false, false, false] 4 = true) (r4 : (Region.ready .any #[o0, o1, o2, o3, o4, o5, o6, o7, o8, o9, o10, o11, o12] #[true, true, true, true, false, false, false, false, false, false, false, false, false]).contains 4 = true)
    (f6 : Region.free .any #[o0, o1, o2, o3, o4, o5, o6, o7, o8, o9, o10, o11, o12] #[true, true, true, true, true, false, false, false, false, false, false, false, false] 6 = true) (r6 : (Region.ready .any #[o0, o1, o2, o3, o4, o5, o6, o7, o8, o9, o10, o11, o12] #[true, true, true, true, true, false, false, false, false, false, false, false, false]).contains 6 = true)
    (f7 : Region.free .any #[o0, o1, o2, o3, o4, o5, o6, o7, o8, o9, o10, o11, o12] #[true, true, true, true, true, false, true, false, false, false, false, false, false] 7 = true) (r7 : (Region.ready .any #[o0, o1, o2, o3, o4, o5, o6, o7, o8, o9, o10, o11, o12] #[true, true, true, true, true, false, true, false, false, false, false, false, false]).contains 7 = true)
    (f8 : Region.free .any #[o0, o1, o2, o3, o4, o5, o6, o7, o8, o9, o10, o11, o12] #[true, true, true, true, true, false, true, true, false, false, false, false, false] 8 = true) (r8 : (Region.ready .any #[o0, o1, o2, o3, o4, o5, o6, o7, o8, o9, o10, o11, o12] #[true, true, true, true, true, false, true, true, false, false, false, false, false]).contains 8 = true)
    (f9 : Region.free .any #[o0, o1, o2, o3, o4, o5, o6, o7, o8, o9, o10, o11, o12] #[true, true, true, true, true, false, true, true, true, false, false, false, false] 9 = true) (r9 : (Region.ready .any #[o0, o1, o2, o3, o4, o5, o6, o7, o8, o9, o10, o11, o12] #[true, true, true, true, true, false, true, true, true, false, false, false, false]).contains 9 = true)
    (q_ : Region.ready .any #[o0, o1, o2, o3, o4, o5, o6, o7, o8, o9, o10, o11, o12] #[true, true, true, true, true, false, true, true, true, true, false, false, false] = [5])
    (q5_ : Region.ready .any #[o0, o1, o2, o3, o4, o5, o6, o7, o8, o9, o10, o11, o12] #[true, true, true, true, true, true, true, true, true, true, false, false, false] = [10])
    (q5_10_ : Region.ready .any #[o0, o1, o2, o3, o4, o5, o6, o7, o8, o9, o10, o11, o12] #[true, true, true, true, true, true, true, true, true, true, true, false, false] = [11])
    (q5_10_11_ : Region.ready .any #[o0, o1, o2, o3, o4, o5, o6, o7, o8, o9, o10, o11, o12] #[true, true, true, true, true, true, true, true, true, true, true, true, false] = [12])
    (q5_10_11_12_ : Region.ready .any #[o0, o1, o2, o3, o4, o5, o6, o7, o8, o9, o10, o11, o12] #[true, true, true, true, true, true, true, true, true, true, true, true, true] = [])
    (g5 : o5.guard = none)    (g10 : o10.guard = none)    (g11 : o11.guard = none)    (g12 : o12.guard = none)
    (v0 v1 v2 v3 v4 v6 v7 v8 v9 : Value) (A0 A1 A2 A3 A4 A5 A6 A7 A8 : Act)
    (S : World → Prop)
    (I_ : World → Prop)
    (I5_ : Value → World → Prop)
    (I5_10_ : Value → Value → World → Prop)
    (I5_10_11_ : Value → Value → Value → World → Prop)
    (I5_10_11_12_ : Value → Value → Value → Value → World → Prop)
    (p0 : a.put o0.dst v0 = A0) (hy0 : YieldsIf P #[o0, o1, o2, o3, o4, o5, o6, o7, o8, o9, o10, o11, o12] S o0 v0 a)
    (p1 : A0.put o1.dst v1 = A1) (hy1 : YieldsIf P #[o0, o1, o2, o3, o4, o5, o6, o7, o8, o9, o10, o11, o12] S o1 v1 A0)
    (p2 : A1.put o2.dst v2 = A2) (hy2 : YieldsIf P #[o0, o1, o2, o3, o4, o5, o6, o7, o8, o9, o10, o11, o12] S o2 v2 A1)
    (p3 : A2.put o3.dst v3 = A3) (hy3 : YieldsIf P #[o0, o1, o2, o3, o4, o5, o6, o7, o8, o9, o10, o11, o12] S o3 v3 A2)
    (p4 : A3.put o4.dst v4 = A4) (hy4 : YieldsIf P #[o0, o1, o2, o3, o4, o5, o6, o7, o8, o9, o10, o11, o12] S o4 v4 A3)
    (p6 : A4.put o6.dst v6 = A5) (hy6 : YieldsIf P #[o0, o1, o2, o3, o4, o5, o6, o7, o8, o9, o10, o11, o12] S o6 v6 A4)
    (p7 : A5.put o7.dst v7 = A6) (hy7 : YieldsIf P #[o0, o1, o2, o3, o4, o5, o6, o7, o8, o9, o10, o11, o12] S o7 v7 A5)
    (p8 : A6.put o8.dst v8 = A7) (hy8 : YieldsIf P #[o0, o1, o2, o3, o4, o5, o6, o7, o8, o9, o10, o11, o12] S o8 v8 A6)
    (p9 : A7.put o9.dst v9 = A8) (hy9 : YieldsIf P #[o0, o1, o2, o3, o4, o5, o6, o7, o8, o9, o10, o11, o12] S o9 v9 A7)
    (i0 : I_ w.drew)
    (hIS : (∀ w', I_  w' → S w') ∧ (∀ (u5 : Value) w', I5_ u5 w' → S w') ∧ (∀ (u5 u10 : Value) w', I5_10_ u5 u10 w' → S w') ∧ (∀ (u5 u10 u11 : Value) w', I5_10_11_ u5 u10 u11 w' → S w') ∧ (∀ (u5 u10 u11 u12 : Value) w', I5_10_11_12_ u5 u10 u11 u12 w' → S w'))
    (s_5 : ∀ w', I_  w' → ∀ K : Act → World → Prop, (∀ (u5 : Value) w2, I5_ u5 w2 → K (A8.put o5.dst u5) w2) → o5.wp P A8 w' K (NoPanic Q))
    (s5_10 : ∀ (u5 : Value) w', I5_ u5 w' → ∀ K : Act → World → Prop, (∀ (u10 : Value) w2, I5_10_ u5 u10 w2 → K ((A8.put o5.dst u5).put o10.dst u10) w2) → o10.wp P (A8.put o5.dst u5) w' K (NoPanic Q))
    (s5_10_11 : ∀ (u5 u10 : Value) w', I5_10_ u5 u10 w' → ∀ K : Act → World → Prop, (∀ (u11 : Value) w2, I5_10_11_ u5 u10 u11 w2 → K (((A8.put o5.dst u5).put o10.dst u10).put o11.dst u11) w2) → o11.wp P ((A8.put o5.dst u5).put o10.dst u10) w' K (NoPanic Q))
    (s5_10_11_12 : ∀ (u5 u10 u11 : Value) w', I5_10_11_ u5 u10 u11 w' → ∀ K : Act → World → Prop, (∀ (u12 : Value) w2, I5_10_11_12_ u5 u10 u11 u12 w2 → K ((((A8.put o5.dst u5).put o10.dst u10).put o11.dst u11).put o12.dst u12) w2) → o12.wp P (((A8.put o5.dst u5).put o10.dst u10).put o11.dst u11) w' K (NoPanic Q))
    (h : ∀ (u5 u10 u11 u12 : Value) w', I5_10_11_12_ u5 u10 u11 u12 w' → Q .normal ((((A8.put o5.dst u5).put o10.dst u10).put o11.dst u11).put o12.dst u12) w') :
    (Code.region id #[o0, o1, o2, o3, o4, o5, o6, o7, o8, o9, o10, o11, o12] true).wp P Q a w := by
  subst p0 p1 p2 p3 p4 p6 p7 p8 p9
  obtain ⟨z_, z5_, z5_10_, z5_10_11_, z5_10_11_12_⟩ := hIS
  refine wp_region_noPanic ?_
  refine wp_region_held_drew (S := S) hm (z_ _ i0) (fun hH => ?_)
  show wpAnyH P .any #[o0, o1, o2, o3, o4, o5, o6, o7, o8, o9, o10, o11, o12] (NoPanic Q) S 13 #[false, false, false, false, false, false, false, false, false, false, false, false, false] a w.drew
  refine wpAnyH_take (i := 0) (oi := o0) rfl hs f0 r0 (fun _ _ _ h => h) hy0 hH ?_
  refine wpAnyH_take (i := 1) (oi := o1) rfl hs f1 r1 (fun _ _ _ h => h) hy1 hH ?_
  refine wpAnyH_take (i := 2) (oi := o2) rfl hs f2 r2 (fun _ _ _ h => h) hy2 hH ?_
  refine wpAnyH_take (i := 3) (oi := o3) rfl hs f3 r3 (fun _ _ _ h => h) hy3 hH ?_
  refine wpAnyH_take (i := 4) (oi := o4) rfl hs f4 r4 (fun _ _ _ h => h) hy4 hH ?_
  refine wpAnyH_take (i := 6) (oi := o6) rfl hs f6 r6 (fun _ _ _ h => h) hy6 hH ?_
  refine wpAnyH_take (i := 7) (oi := o7) rfl hs f7 r7 (fun _ _ _ h => h) hy7 hH ?_
  refine wpAnyH_take (i := 8) (oi := o8) rfl hs f8 r8 (fun _ _ _ h => h) hy8 hH ?_
  refine wpAnyH_take (i := 9) (oi := o9) rfl hs f9 r9 (fun _ _ _ h => h) hy9 hH ?_
  generalize (((((((((a.put o0.dst v0).put o1.dst v1).put o2.dst v2).put o3.dst v3).put o4.dst v4).put o6.dst v6).put o7.dst v7).put o8.dst v8).put o9.dst v9) = B at *
  have wa5 : ∀ y, Region.wanted o5 y = true := fun y => by unfold Region.wanted; rw [g5]
  have wa10 : ∀ y, Region.wanted o10 y = true := fun y => by unfold Region.wanted; rw [g10]
  have wa11 : ∀ y, Region.wanted o11 y = true := fun y => by unfold Region.wanted; rw [g11]
  have wa12 : ∀ y, Region.wanted o12 y = true := fun y => by unfold Region.wanted; rw [g12]
  have t5_10_11_12_ : ∀ (u5 u10 u11 u12 : Value) w', I5_10_11_12_ u5 u10 u11 u12 w' → wpAnyH P .any #[o0, o1, o2, o3, o4, o5, o6, o7, o8, o9, o10, o11, o12] (NoPanic Q) S 0 #[true, true, true, true, true, true, true, true, true, true, true, true, true] ((((B.put o5.dst u5).put o10.dst u10).put o11.dst u11).put o12.dst u12) w' := by
    intro u5 u10 u11 u12 w0 i0
    exact ⟨q5_10_11_12_, NoPanic.normal (h u5 u10 u11 u12 w0 i0)⟩
  have t5_10_11_ : ∀ (u5 u10 u11 : Value) w', I5_10_11_ u5 u10 u11 w' → wpAnyH P .any #[o0, o1, o2, o3, o4, o5, o6, o7, o8, o9, o10, o11, o12] (NoPanic Q) S 1 #[true, true, true, true, true, true, true, true, true, true, true, true, false] (((B.put o5.dst u5).put o10.dst u10).put o11.dst u11) w' := by
    intro u5 u10 u11 w0 i0
    refine wpAnyH_ready (rs := [12]) q5_10_11_ (by simp) (AllReadyH.cons (o := o12) rfl (fun K hK => ?_) AllReadyH.nil)
    · rw [if_pos (wa12 _)]
      refine s5_10_11_12 u5 u10 u11 w0 i0 K (fun u12 w1 i1 => hK.out _ _ (z5_10_11_12_ u5 u10 u11 u12 w1 i1) (fun _ => ?_))
      clear hK
      exact t5_10_11_12_ u5 u10 u11 u12 w1 i1
  have t5_10_ : ∀ (u5 u10 : Value) w', I5_10_ u5 u10 w' → wpAnyH P .any #[o0, o1, o2, o3, o4, o5, o6, o7, o8, o9, o10, o11, o12] (NoPanic Q) S 2 #[true, true, true, true, true, true, true, true, true, true, true, false, false] ((B.put o5.dst u5).put o10.dst u10) w' := by
    intro u5 u10 w0 i0
    refine wpAnyH_ready (rs := [11]) q5_10_ (by simp) (AllReadyH.cons (o := o11) rfl (fun K hK => ?_) AllReadyH.nil)
    · rw [if_pos (wa11 _)]
      refine s5_10_11 u5 u10 w0 i0 K (fun u11 w1 i1 => hK.out _ _ (z5_10_11_ u5 u10 u11 w1 i1) (fun _ => ?_))
      clear hK
      exact t5_10_11_ u5 u10 u11 w1 i1
  have t5_ : ∀ (u5 : Value) w', I5_ u5 w' → wpAnyH P .any #[o0, o1, o2, o3, o4, o5, o6, o7, o8, o9, o10, o11, o12] (NoPanic Q) S 3 #[true, true, true, true, true, true, true, true, true, true, false, false, false] (B.put o5.dst u5) w' := by
    intro u5 w0 i0
    refine wpAnyH_ready (rs := [10]) q5_ (by simp) (AllReadyH.cons (o := o10) rfl (fun K hK => ?_) AllReadyH.nil)
    · rw [if_pos (wa10 _)]
      refine s5_10 u5 w0 i0 K (fun u10 w1 i1 => hK.out _ _ (z5_10_ u5 u10 w1 i1) (fun _ => ?_))
      clear hK
      exact t5_10_ u5 u10 w1 i1
  have t_ : ∀ w', I_  w' → wpAnyH P .any #[o0, o1, o2, o3, o4, o5, o6, o7, o8, o9, o10, o11, o12] (NoPanic Q) S 4 #[true, true, true, true, true, false, true, true, true, true, false, false, false] B w' := by
    intro w0 i0
    refine wpAnyH_ready (rs := [5]) q_ (by simp) (AllReadyH.cons (o := o5) rfl (fun K hK => ?_) AllReadyH.nil)
    · rw [if_pos (wa5 _)]
      refine s_5  w0 i0 K (fun u5 w1 i1 => hK.out _ _ (z5_ u5 w1 i1) (fun _ => ?_))
      clear hK
      exact t5_ u5 w1 i1
  exact t_ w.drew i0

end
end Go.Proofs.YtecadmldnjlibaaDoor
