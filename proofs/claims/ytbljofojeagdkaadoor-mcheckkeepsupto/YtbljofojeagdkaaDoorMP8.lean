import Derived.Test.YtbljofojeagdkaaDoorMP5
import Derived.Test.YtbljofojeagdkaaDoorMPA
namespace Go.Proofs.YtbljofojeagdkaaDoor
open Go.RowKit Go.BigFrame
set_option linter.unusedVariables false
set_option linter.unusedSimpArgs false

/-- The digests of ranges. -/
def rgL (z : Int) (L : List (List Nat)) (ss : List (Nat × Nat)) : List (List Nat) := ss.map fun s => rgD z L s.1 s.2
/-- A list of digests in memory of its own. -/
structure OwD (w0 w : World) (v : Value) (ds : List (List Nat)) : Prop where
  own : w.ownsRow w0.heap.size 23 32 v ds.length (flatD ds)
  dg : ∀ d ∈ ds, Dg d
  kept : Kept [] w0 w
theorem OwD.rd {w0 w : World} {v : Value} {ds : List (List Nat)} (h : OwD w0 w v ds) : RdD w v ds := rdd_owns h.own h.dg
theorem OwD.pass {w0 w w' : World} {v : Value} {ds : List (List Nat)} (h : OwD w0 w v ds) (k : Kept [] w w') : OwD w0 w' v ds := ⟨k.owns h.own (by simp), h.dg, h.kept.trans k (by simp)⟩
theorem OwD.nil (w : World) : OwD w w (.slice none 0 0) [] := ⟨World.ownsRow_nil _ _ _ _, by simp, Kept.refl _ _⟩
theorem OwD.push {w0 w w1 : World} {v u : Value} {ds : List (List Nat)} {d : List Nat} (h : OwD w0 w v ds) (hd : Dg d) (o : w1.ownsRow w0.heap.size 23 32 u (ds ++ [d]).length (flatD (ds ++ [d]))) (g : w.grownBy w1 v.ownBlock) : OwD w0 w1 u (ds ++ [d]) := by
  refine ⟨o, ?_, h.kept.grown g (by intro k hk; right; exact (h.own.lt k hk).1)⟩
  intro x hx
  rcases List.mem_append.1 hx with hx | hx
  · exact h.dg x hx
  · rw [List.mem_singleton] at hx; subst hx; exact hd

theorem Tryd.size_span : (Tryd.prog.info? 101).map (·.size) = some 2 := by kernel_rfl
theorem SpAt.cells {w0 w : World} {ao : Option Addr} {n c : Nat} {ss : List (Nat × Nat)} (h : SpAt w0 w (.slice ao n c) ss) (i : Nat) (hi : i < ss.length) : ∃ g, ao = some ⟨g, 0, none⟩ ∧ w.rangeAt g (i * 2) [.int .u64 (ss[i].1 : Int), .int .u64 (ss[i].2 : Int)] := by
  obtain ⟨base, _, h⟩ := h
  rcases h.2 with ⟨e, h0⟩ | ⟨g, cap, cur, e, _⟩
  · omega
  · cases e
    refine ⟨g, rfl, ?_⟩
    have hx := cellsS_get ss i hi
    have c1 := h.cells (g := g) rfl (2 * i) _ hx.1
    have c2 := h.cells (g := g) rfl (2 * i + 1) _ hx.2
    rw [Addr.add_mid, Nat.zero_add] at c1 c2
    intro j v hv
    match j, hv with
    | 0, hv => simp at hv; subst hv; rw [show i * 2 + 0 = 2 * i by omega]; exact c1
    | 1, hv => simp at hv; subst hv; rw [show i * 2 + 1 = 2 * i + 1 by omega]; exact c2
    | j + 2, hv => simp at hv
theorem one_digP (l : List Nat) (hl : l.length = 32) : List.foldl (fun cs x => cs.setIfInBounds x.snd x.fst) (zb 32) (List.map u8 l).zipIdx = brow l := by
  have h := fold_put (l.map u8) (zb 32) 0 0 (by rw [zb_size]; simp [hl])
  simp only [Nat.zero_add] at h
  rw [h]
  unfold brow
  rw [List.take_zero, List.nil_append, List.drop_eq_nil_of_le (by rw [List.length_map, hl, Array.length_toList, zb_size]; exact Nat.le_refl _), List.append_nil]

set_option maxRecDepth 100000 in
set_option maxHeartbeats 400000 in
theorem digests_nil (n : Int) (lv : Value) (w : World) :
    Calls Tryd.prog 35 #[.pointer none, .int .u64 n, lv] w fun e w' => e = .returned (.tuple #[.slice none 0 0, .int .i64 5]) ∧ w' = w := by
  go_enter Tryd.func35, Tryd.ntmps35
  go_wp2_with fail
  exact ⟨rfl, _, results_tmp2 rfl _ _ _, rfl, rfl⟩

set_option maxRecDepth 100000 in
set_option maxHeartbeats 400000 in
theorem digests_bad (z : Int) (t : Nat) (v lv : Value) (ps : List Pk) (n : Nat) (w : World) (hT : TreeAt z w t v ps) (hn : (leavesK ps).length < n) :
    Calls Tryd.prog 35 #[.pointer (some ⟨t, 0, none⟩), .int .u64 n, lv] w fun e w' => e = .returned (.tuple #[.slice none 0 0, .int .i64 4]) ∧ Kept [] w w' := by
  have HS := hide (sizeT_any t z v ps w hT)
  have hn' : ((leavesK ps).length : Int) < n := by omega
  generalize (leavesK ps).length = m at HS hn'
  go_enter Tryd.func35, Tryd.ntmps35
  go_wp2_with fail
  refine (unhide HS).mono ?_
  rintro e w1 ⟨rfl, rfl⟩
  go_wp2_with fail
  exact ⟨rfl, _, results_tmp2 rfl _ _ _, rfl, Kept.refl _ _⟩

set_option maxRecDepth 100000 in
set_option maxHeartbeats 1000000 in
theorem digests_any (z : Int) (t : Nat) (v lv : Value) (ps : List Pk) (n : Nat) (ss : List (Nat × Nat)) (w0 w : World) (hT : TreeAt z w t v ps) (hn : n ≤ (leavesK ps).length) (hb : (leavesK ps).length < 32768) (hs : SpAt w0 w lv ss) (hl : ss.length ≤ 1000) (hTb : Tabs w) (h6 : Tab6 w) :
    Calls Tryd.prog 35 #[.pointer (some ⟨t, 0, none⟩), .int .u64 n, lv] w fun e w' => ∃ u, e = .returned (.tuple #[u, .int .i64 0]) ∧ OwD w w' u (rgL z (leavesK ps) ss) := by
  have HS := hide (sizeT_any t z v ps w hT)
  have hn' : ¬ ((leavesK ps).length : Int) < n := by omega
  have HTR := hide hT
  have HTB := hide hTb
  have H6 := hide h6
  have HSP := hide hs
  have HBN := hide hb
  have HDG := hide (fun a b => rgD_len hT.pk a b)
  obtain ⟨sa, sc, rfl⟩ := hs.form
  generalize (leavesK ps).length = m at HS hn'
  clear hT hTb h6 hs hn hb
  go_enter Tryd.func35, Tryd.ntmps35
  go_wp2_with fail
  refine (unhide HS).mono ?_
  rintro e w1 ⟨rfl, rfl⟩
  go_wp2_with fail
  simp only [show decide (m < n) = false from decide_eq_false (by omega)]
  go_loopw [8, 21] (fun t8 t21 wr => ∃ (i : Nat), i ≤ ss.length ∧ t21 = .int .i64 (i : Int) ∧ Hid (OwD w1 wr t8 (rgL z (leavesK ps) (ss.take i)))) (fun _ t _ => ss.length - (intOf t).toNat)
  case atStart => exact ⟨0, Nat.zero_le _, rfl, hide (OwD.nil _)⟩
  case round =>
    obtain ⟨i, hi, rfl, HO⟩ := hrel
    by_cases hlt : i < ss.length
    · have hlt' : (i : Int) < (ss.length : Int) := by omega
      obtain ⟨g, hsa, hcell⟩ := ((unhide HSP).old (unhide HO).kept).cells i hlt
      subst hsa
      have HSN := hide (by unfold rgL; rw [List.take_add_one, List.getElem?_eq_getElem hlt, List.map_append]; rfl : rgL z (leavesK ps) (ss.take (i + 1)) = rgL z (leavesK ps) (ss.take i) ++ [rgD z (leavesK ps) ss[i].1 ss[i].2])
      have HLN := hide (by unfold rgL; rw [List.length_map, List.length_take]; omega : (rgL z (leavesK ps) (ss.take i)).length + 1 ≤ 1000000)
      have HDG1 := hide (unhide HDG ss[i].1 ss[i].2)
      generalize ss[i].1 = lo at hcell HSN HDG1
      generalize ss[i].2 = hi' at hcell HSN HDG1
      have HRG := hide (fun W (k : Kept [] w1 W) => rangeT_all z t v ps lo hi' W ((unhide HTR).old k) (unhide HBN) ((unhide HTB).kept k (by simp) (by simp)) ((unhide H6).kept k))
      generalize rgD z (leavesK ps) lo hi' = D at HRG HSN HDG1
      generalize rgE (leavesK ps) lo hi' = E at HRG
      have hdl := (unhide HDG1).1
      generalize rgL z (leavesK ps) (ss.take i) = ds at HO HSN HLN
      obtain ⟨ua, ucap, rfl⟩ := owns_form (unhide HO).own
      have ia : ¬ (i : Int) < 0 := by omega
      have ib : ¬ (ss.length : Int) ≤ i := by omega
      have kA := (Kept.refl [] wr).alloc (.cells #[.int .u64 (lo : Int), .int .u64 (hi' : Int)] 101)
      have HOA := hide ((unhide HO).pass kA)
      have HRC := hide (unhide HRG _ (unhide HOA).kept)
      have HCL := hide hcell
      clear hcell kA HRG
      go_wp2_with (first
        | (refine wpList_load_mid rfl 101 _ rfl g (i * 2) rfl [.int .u64 (lo : Int), .int .u64 (hi' : Int)] _ (unhide HCL) Tryd.underlying101 rfl (by exact Tryd.size_span) ?_))
      refine (unhide HRC).mono ?_
      rintro e wa ⟨rfl, ka⟩
      have HOB := hide (((unhide HOA).pass ka).pass (kept_old wa D))
      have HN := hide (cell_new wa D)
      clear ka HRC HOA HO HCL
      obtain ⟨wb, hwb⟩ : ∃ wb, (wa.alloc (.cells (zb 32) 23)).setRow wa.heap.size (brow D) = wb := ⟨_, rfl⟩
      rw [hwb] at HOB HN
      have HWB := hide hwb
      have HOC := hide ((unhide HOB).pass ((Kept.refl [] wb).alloc (.cells (brow D) 23)))
      have HNC := hide (heap_alloc_new wb (.cells (brow D) 23))
      clear hwb
      go_wp2_with (first
        | (rw [zb32]; refine wpList_store_row rfl 23 (.tmp 11) _ rfl wa.heap.size (brow D) rfl rfl _ (zb 32) (heap_alloc_new _ _) (Tryd.szD hdl) (by rw [zb_size, brow_size, hdl]) (brow_one _) ?_; rw [unhide HWB])
        | (refine wpList_load_mid rfl 23 _ rfl wa.heap.size 0 rfl (D.map u8) _ (range_row (unhide HN)) Tryd.underlying23 rfl (by rw [List.length_map, hdl]; exact Tryd.size_dig) ?_)
        | (at_builtin; rw [zb32, one_digP D hdl]; refine wpList_appendD rfl _ _ rfl rfl (wb.alloc (.cells (brow D) 23)) w1.heap.size (.slice ua ds.length ucap) ds [D] (some ⟨wb.heap.size, 0, none⟩) 1 1 (unhide HOC).own (RdD.oneP (unhide HNC) (unhide HDG1)) (by have := unhide HLN; simp; omega) (unhide HOC).kept.size rfl rfl ?_; intro ao3 cap3 w3 HO3 HG3; have HO4 := hide ((unhide HOC).push (unhide HDG1) (unhide HO3) (unhide HG3)); clear HO3 HG3))
      go_roundw
      case rel => exact ⟨i + 1, by omega, by simp, by rw [unhide HSN]; exact HO4⟩
      case measure => simp [intOf]; omega
    · have hlt' : ¬ (i : Int) < (ss.length : Int) := by omega
      have HE := hide (by rw [List.take_of_length_le (by omega)] : ss.take i = ss)
      go_wp2_with fail
      exact ⟨rfl, _, results_tmp2 rfl _ _ _, _, rfl, by have h9 := unhide HO; rw [unhide HE] at h9; exact h9⟩
end Go.Proofs.YtbljofojeagdkaaDoor
