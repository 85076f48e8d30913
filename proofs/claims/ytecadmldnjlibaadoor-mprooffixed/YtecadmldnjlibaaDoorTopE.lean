import Derived.Test.YtecadmldnjlibaaDoorTopD
import Derived.Test.YtecadmldnjlibaaDoorSSt
import Derived.Deep.AppendLies
import Derived.Test.YtecadmldnjlibaaDoorTopC
import Derived.Test.YtecadmldnjlibaaDoorRowz
import Derived.Deep.RegionHeld3
import Derived.Test.YtecadmldnjlibaaDoorTopB
import Derived.Great.BuildSlice
import Derived.Great.FillDense
import Derived.Test.YtecadmldnjlibaaDoorBase
import Derived.Test.YtecadmldnjlibaaDoorCards
import Derived.Test.YtecadmldnjlibaaDoorTie
import Derived.ProofKit
import Derived.OpenShut
import Derived.Deep.Slices
import Derived.SizedLaws
namespace Go.Proofs.YtecadmldnjlibaaDoor
open Go.RowKit Go.BigFrame
set_option linter.unusedVariables false
set_option linter.unusedSimpArgs false

/-- The digests of ranges. -/
def rgL (z : Int) (L : List (List Nat)) (ss : List (Nat × Nat)) : List (List Nat) := ss.map fun s => rgD z L s.1 s.2
/-- A list of digests in memory of its own. -/
structure OwD (w0 w : World) (v : Value) (ds : List (List Nat)) : Prop where
  own : w.ownsRow w0.heap.size 41 32 v ds.length (flatD ds)
  dg : ∀ d ∈ ds, Dg d
  kept : Kept [] w0 w
theorem OwD.rd {w0 w : World} {v : Value} {ds : List (List Nat)} (h : OwD w0 w v ds) : RdD w v ds := rdd_owns h.own h.dg
theorem OwD.pass {w0 w w' : World} {v : Value} {ds : List (List Nat)} (h : OwD w0 w v ds) (k : Kept [] w w') : OwD w0 w' v ds := ⟨k.owns h.own (by simp), h.dg, h.kept.trans k (by simp)⟩
theorem OwD.nil (w : World) : OwD w w (.slice none 0 0) [] := ⟨World.ownsRow_nil _ _ _ _, by simp, Kept.refl _ _⟩
theorem OwD.push {w0 w w1 : World} {v u : Value} {ds : List (List Nat)} {d : List Nat} (h : OwD w0 w v ds) (hd : Dg d) (o : w1.ownsRow w0.heap.size 41 32 u (ds ++ [d]).length (flatD (ds ++ [d]))) (g : w.grownBy w1 v.ownBlock) : OwD w0 w1 u (ds ++ [d]) := by
  refine ⟨o, ?_, h.kept.grown g (by intro k hk; right; exact (h.own.lt k hk).1)⟩
  intro x hx
  rcases List.mem_append.1 hx with hx | hx
  · exact h.dg x hx
  · rw [List.mem_singleton] at hx; subst hx; exact hd

theorem Tryd.size_span : (Tryd.prog.info? 92).map (·.size) = some 2 := by kernel_rfl
theorem SpAt.cells {w0 w : World} {ao : Option Addr} {n c : Nat} {ss : List (Nat × Nat)} (h : SpAt w0 w (.slice ao n c) ss) (i : Nat) (hi : i < ss.length) : ∃ g, ao = some ⟨g, 0, none⟩ ∧ w.rangeAt g (i * 2) [.int .u64 (ss[i].1 : Int), .int .u64 (ss[i].2 : Int)] := by
  obtain ⟨base, _, h⟩ := h
  rcases h.2 with ⟨e, h0⟩ | ⟨g, cap, cur, e, _⟩
  · omega
  · cases e
    refine ⟨g, rfl, ?_⟩
    have hx := cellsS_get ss i hi
    have c1 := h.cells (g := g) rfl (2 * i) _ hx.1
    have c2 := h.cells (g := g) rfl (2 * i + 1) _ hx.2
    rw [Addr.add_mid, Nat.zero_add] at c1 c2
    intro j v hv
    match j, hv with
    | 0, hv => simp at hv; subst hv; rw [show i * 2 + 0 = 2 * i by omega]; exact c1
    | 1, hv => simp at hv; subst hv; rw [show i * 2 + 1 = 2 * i + 1 by omega]; exact c2
    | j + 2, hv => simp at hv
theorem one_digP (l : List Nat) (hl : l.length = 32) : List.foldl (fun cs x => cs.setIfInBounds x.snd x.fst) (zb 32) (List.map u8 l).zipIdx = brow l := by
  have h := fold_put (l.map u8) (zb 32) 0 0 (by rw [zb_size]; simp [hl])
  simp only [Nat.zero_add] at h
  rw [h]
  unfold brow
  rw [List.take_zero, List.nil_append, List.drop_eq_nil_of_le (by rw [List.length_map, hl, Array.length_toList, zb_size]; exact Nat.le_refl _), List.append_nil]

set_option maxRecDepth 100000 in
set_option maxHeartbeats 400000 in
theorem digests_nil (n : Int) (lv : Value) (w : World) :
    Calls Tryd.prog 40 #[.pointer none, .int .u64 n, lv] w fun e w' => e = .returned (.tuple #[.slice none 0 0, .int .i64 5]) ∧ w' = w := by
  go_enter Tryd.func40, Tryd.ntmps40
  go_wp2_with fail
  exact ⟨rfl, _, results_tmp2 rfl _ _ _, rfl, rfl⟩

set_option maxRecDepth 100000 in
set_option maxHeartbeats 400000 in
theorem digests_bad (z : Int) (t : Nat) (v lv : Value) (ps : List Pk) (n : Nat) (w : World) (hT : TreeAt z w t v ps) (hn : (leavesK ps).length < n) :
    Calls Tryd.prog 40 #[.pointer (some ⟨t, 0, none⟩), .int .u64 n, lv] w fun e w' => e = .returned (.tuple #[.slice none 0 0, .int .i64 4]) ∧ Kept [] w w' := by
  have HS := hide (sizeT_any t z v ps w hT)
  have hn' : ((leavesK ps).length : Int) < n := by omega
  generalize (leavesK ps).length = m at HS hn'
  go_enter Tryd.func40, Tryd.ntmps40
  go_wp2_with fail
  refine (unhide HS).mono ?_
  rintro e w1 ⟨rfl, rfl⟩
  go_wp2_with fail
  exact ⟨rfl, _, results_tmp2 rfl _ _ _, rfl, Kept.refl _ _⟩

set_option maxRecDepth 100000 in
set_option maxHeartbeats 1000000 in
theorem digests_any (z : Int) (t : Nat) (v lv : Value) (ps : List Pk) (n : Nat) (ss : List (Nat × Nat)) (w0 w : World) (hT : TreeAt z w t v ps) (hn : n ≤ (leavesK ps).length) (hb : (leavesK ps).length < 32768) (hs : SpAt w0 w lv ss) (hl : ss.length ≤ 1000) (hTb : Tabs w) (h6 : Tab6 w) :
    Calls Tryd.prog 40 #[.pointer (some ⟨t, 0, none⟩), .int .u64 n, lv] w fun e w' => ∃ u, e = .returned (.tuple #[u, .int .i64 0]) ∧ OwD w w' u (rgL z (leavesK ps) ss) := by
  have HS := hide (sizeT_any t z v ps w hT)
  have hn' : ¬ ((leavesK ps).length : Int) < n := by omega
  have HTR := hide hT
  have HTB := hide hTb
  have H6 := hide h6
  have HSP := hide hs
  have HBN := hide hb
  have HDG := hide (fun a b => rgD_len hT.pk a b)
  obtain ⟨sa, sc, rfl⟩ := hs.form
  generalize (leavesK ps).length = m at HS hn'
  clear hT hTb h6 hs hn hb
  go_enter Tryd.func40, Tryd.ntmps40
  go_wp2_with fail
  refine (unhide HS).mono ?_
  rintro e w1 ⟨rfl, rfl⟩
  go_wp2_with fail
  simp only [show decide (m < n) = false from decide_eq_false (by omega)]
  go_loopw [8, 21] (fun t8 t21 wr => ∃ (i : Nat), i ≤ ss.length ∧ t21 = .int .i64 (i : Int) ∧ Hid (OwD w1 wr t8 (rgL z (leavesK ps) (ss.take i)))) (fun _ t _ => ss.length - (intOf t).toNat)
  case atStart => exact ⟨0, Nat.zero_le _, rfl, hide (OwD.nil _)⟩
  case round =>
    obtain ⟨i, hi, rfl, HO⟩ := hrel
    by_cases hlt : i < ss.length
    · have hlt' : (i : Int) < (ss.length : Int) := by omega
      obtain ⟨g, hsa, hcell⟩ := ((unhide HSP).old (unhide HO).kept).cells i hlt
      subst hsa
      have HSN := hide (by unfold rgL; rw [List.take_add_one, List.getElem?_eq_getElem hlt, List.map_append]; rfl : rgL z (leavesK ps) (ss.take (i + 1)) = rgL z (leavesK ps) (ss.take i) ++ [rgD z (leavesK ps) ss[i].1 ss[i].2])
      have HLN := hide (by unfold rgL; rw [List.length_map, List.length_take]; omega : (rgL z (leavesK ps) (ss.take i)).length + 1 ≤ 1000000)
      have HDG1 := hide (unhide HDG ss[i].1 ss[i].2)
      generalize ss[i].1 = lo at hcell HSN HDG1
      generalize ss[i].2 = hi' at hcell HSN HDG1
      have HRG := hide (fun W (k : Kept [] w1 W) => rangeT_all z t v ps lo hi' W ((unhide HTR).old k) (unhide HBN) ((unhide HTB).kept k (by simp) (by simp)) ((unhide H6).kept k))
      generalize rgD z (leavesK ps) lo hi' = D at HRG HSN HDG1
      generalize rgE (leavesK ps) lo hi' = E at HRG
      have hdl := (unhide HDG1).1
      generalize rgL z (leavesK ps) (ss.take i) = ds at HO HSN HLN
      obtain ⟨ua, ucap, rfl⟩ := owns_form (unhide HO).own
      have ia : ¬ (i : Int) < 0 := by omega
      have ib : ¬ (ss.length : Int) ≤ i := by omega
      have kA := (Kept.refl [] wr).alloc (.cells #[.int .u64 (lo : Int), .int .u64 (hi' : Int)] 92)
      have HOA := hide ((unhide HO).pass kA)
      have HRC := hide (unhide HRG _ (unhide HOA).kept)
      have HCL := hide hcell
      clear hcell kA HRG
      go_wp2_with (first
        | (refine wpList_load_mid rfl 92 _ rfl g (i * 2) rfl [.int .u64 (lo : Int), .int .u64 (hi' : Int)] _ (unhide HCL) Tryd.underlying92 rfl (by exact Tryd.size_span) ?_))
      refine (unhide HRC).mono ?_
      rintro e wa ⟨rfl, ka⟩
      have HOB := hide (((unhide HOA).pass ka).pass (kept_old wa D))
      have HN := hide (cell_new wa D)
      clear ka HRC HOA HO HCL
      obtain ⟨wb, hwb⟩ : ∃ wb, (wa.alloc (.cells (zb 32) 41)).setRow wa.heap.size (brow D) = wb := ⟨_, rfl⟩
      rw [hwb] at HOB HN
      have HWB := hide hwb
      have HOC := hide ((unhide HOB).pass ((Kept.refl [] wb).alloc (.cells (brow D) 41)))
      have HNC := hide (heap_alloc_new wb (.cells (brow D) 41))
      clear hwb
      go_wp2_with (first
        | (rw [zb32]; refine wpList_store_row rfl 41 (.tmp 11) _ rfl wa.heap.size (brow D) rfl rfl _ (zb 32) (heap_alloc_new _ _) (Tryd.szD hdl) (by rw [zb_size, brow_size, hdl]) (brow_one _) ?_; rw [unhide HWB])
        | (refine wpList_load_mid rfl 41 _ rfl wa.heap.size 0 rfl (D.map u8) _ (range_row (unhide HN)) Tryd.underlying41 rfl (by rw [List.length_map, hdl]; exact Tryd.size_dig) ?_)
        | (at_builtin; rw [zb32, one_digP D hdl]; refine wpList_appendD rfl _ _ rfl rfl (wb.alloc (.cells (brow D) 41)) w1.heap.size (.slice ua ds.length ucap) ds [D] (some ⟨wb.heap.size, 0, none⟩) 1 1 (unhide HOC).own (RdD.oneP (unhide HNC) (unhide HDG1)) (by have := unhide HLN; simp; omega) (unhide HOC).kept.size rfl rfl ?_; intro ao3 cap3 w3 HO3 HG3; have HO4 := hide ((unhide HOC).push (unhide HDG1) (unhide HO3) (unhide HG3)); clear HO3 HG3))
      go_roundw
      case rel => exact ⟨i + 1, by omega, by simp, by rw [unhide HSN]; exact HO4⟩
      case measure => simp [intOf]; omega
    · have hlt' : ¬ (i : Int) < (ss.length : Int) := by omega
      have HE := hide (by rw [List.take_of_length_le (by omega)] : ss.take i = ss)
      go_wp2_with fail
      exact ⟨rfl, _, results_tmp2 rfl _ _ _, _, rfl, by have h9 := unhide HO; rw [unhide HE] at h9; exact h9⟩
end Go.Proofs.YtecadmldnjlibaaDoor
namespace Go.Proofs.YtecadmldnjlibaaDoor
open Go.RowKit Go.BigFrame
set_option linter.unusedVariables false
set_option linter.unusedSimpArgs false

theorem flatD_cut {ds : List (List Nat)} {i : Nat} (hi : i < ds.length) : flatD ds = flatD (ds.take i) ++ ((ds[i]).map u8 ++ flatD (ds.drop (i + 1))) := by
  have e : ds = ds.take i ++ (ds[i] :: ds.drop (i + 1)) := by rw [← List.drop_eq_getElem_cons hi, List.take_append_drop]
  have e2 : flatD ds = flatD (ds.take i ++ (ds[i] :: ds.drop (i + 1))) := congrArg flatD e
  rw [e2, flatD_app]
  congr 1
theorem flatD_set {ds : List (List Nat)} {i : Nat} (hi : i < ds.length) (X : List Nat) : flatD (ds.set i X) = flatD (ds.take i) ++ (X.map u8 ++ flatD (ds.drop (i + 1))) := by
  rw [List.set_eq_take_append_cons_drop, if_pos hi, flatD_app]
  simp [flatD]
/-- A digest written into an owned row of digests. -/
theorem owns_put {w : World} {base g cap : Nat} {ds : List (List Nat)} {i : Nat} {X : List Nat} (ho : w.ownsRow base 41 32 (.slice (some ⟨g, 0, none⟩) ds.length cap) ds.length (flatD ds)) (hd : ∀ d ∈ ds, d.length = 32) (hi : i < ds.length) (hX : X.length = 32) :
    w.there g (i * 32) 32 ∧ (w.setCells g (i * 32) (X.map u8)).ownsRow base 41 32 (.slice (some ⟨g, 0, none⟩) ds.length cap) ds.length (flatD (ds.set i X)) ∧ Kept [g] w (w.setCells g (i * 32) (X.map u8)) := by
  rcases ho.2 with ⟨h9, _⟩ | ⟨g', cap', cur, e, hb, hg, hc1, hc2, hcs, htk⟩
  · simp at h9
  · simp only [Value.slice.injEq, Option.some.injEq, Addr.mk.injEq, and_true, true_and] at e
    obtain ⟨rfl, rfl⟩ := e
    have hl1 : (flatD (ds.take i)).length = i * 32 := by
      rw [flatD_len (fun d h => hd d (List.mem_of_mem_take h)), List.length_take, Nat.min_eq_left (by omega)]
    have hcl : cur = (flatD (ds.take i) ++ ((ds[i]).map u8 ++ (flatD (ds.drop (i + 1)) ++ cur.toList.drop (ds.length * 32)))).toArray := by
      have h1 : cur.toList = flatD ds ++ cur.toList.drop (ds.length * 32) := by conv => lhs; rw [← List.take_append_drop (ds.length * 32) cur.toList, htk]
      rw [flatD_cut hi] at h1
      have h2 : cur = cur.toList.toArray := by simp
      rw [h2]
      conv => lhs; rw [h1]
      simp
    have hdi : (ds[i]).length = 32 := hd _ (List.getElem_mem hi)
    have hg2 := hg
    rw [hcl] at hg2
    have hs := setCells_row g 41 (X.map u8) ((ds[i]).map u8) (flatD (ds.take i)) _ w (by simp [hX, hdi]) hg2
    rw [hl1] at hs
    refine ⟨fun j hj => ⟨?_, frozen_of_row _ _ _ _ _ hg⟩, ⟨?_, Or.inr ⟨g, cap, _, rfl, hb, hs.1, hc1, hc2, ?_, ?_⟩⟩, hs.2⟩
    · rw [cell_of_row w g (i * 32 + j) _ _ _ hg, Array.getElem?_eq_getElem (by rw [hcs]; omega)]; rfl
    · rw [flatD_set hi]
      have := ho.1
      rw [flatD_cut hi] at this
      simp only [List.length_append, List.length_map] at this ⊢
      omega
    · have h3 := congrArg Array.size hcl
      rw [hcs] at h3
      simp only [List.size_toArray, List.length_append, List.length_map] at h3 ⊢
      omega
    · have h4 := ho.1
      rw [flatD_cut hi] at h4
      simp only [List.length_append, List.length_map] at h4
      rw [flatD_set hi, ← List.append_assoc (X.map u8), ← List.append_assoc (flatD (ds.take i))]
      rw [List.take_left' (by simp only [List.length_append, List.length_map]; omega)]
theorem OwD.there {w0 w : World} {v : Value} {ds : List (List Nat)} (h : OwD w0 w v ds) (hp : 0 < ds.length) : ∃ g cap, v = .slice (some ⟨g, 0, none⟩) ds.length cap ∧ w0.heap.size ≤ g ∧ (∃ cs, w.heap[g]? = some (.cells cs 41 (0, 0))) := by
  rcases h.own.2 with ⟨_, h9⟩ | ⟨g, cap, cur, e, hb, hg, _⟩
  · omega
  · exact ⟨g, cap, e, hb, _, hg⟩

/-- A tree whose peaks lie in memory of their own. -/
structure TrO (z : Int) (w : World) (t : Nat) (v : Value) (ps : List Pk) : Prop where
  tree : TreeAt z w t v ps
  nil : ps = [] → v = .slice none 0 0
  own : ∃ base, w.ownsRow base 75 33 v ps.length (cellsK ps)
/-- It stays where only rows of digests turn. -/
theorem TrO.turn {z : Int} {w w' : World} {t : Nat} {v : Value} {ps : List Pk} {B : List Nat} (h : TrO z w t v ps) (k : Kept B w w') (hB : ∀ b ∈ B, ∃ cs m, w.heap[b]? = some (.cells cs 41 m)) : TrO z w' t v ps := by
  have hne : ∀ (g : Nat) cs m (ty : TypeId), ty ≠ 41 → w.heap[g]? = some (.cells cs ty m) → g ∉ B := by
    intro g cs m ty ht h1 h2
    obtain ⟨cs2, m2, h3⟩ := hB g h2
    rw [h1] at h3
    injection h3 with h3
    injection h3 with _ h4 _
    exact ht h4
  obtain ⟨base, ho⟩ := h.own
  have hvb : ∀ g, v.ownBlock = some g → g ∉ B := by
    intro g hg
    rcases ho.2 with ⟨h9, _⟩ | ⟨g', cap', cur, e, hb, hgg, _⟩
    · subst h9; simp [Value.ownBlock] at hg
    · subst e
      simp only [Value.ownBlock, Option.some.injEq] at hg
      subst hg
      exact hne _ _ _ _ (by decide) hgg
  refine ⟨⟨k.heap h.tree.row (hne _ _ _ _ (by decide) h.tree.row), h.tree.wid, ?_, ⟨fun p hp => (h.tree.pk.ok p hp).kept k ?_, h.tree.pk.inc⟩⟩, h.nil, base, k.owns ho ?_⟩
  · obtain ⟨ao, cap, e, h1, h2, h3⟩ := h.tree.rd
    refine ⟨ao, cap, e, h1, h2, fun hp => ?_⟩
    obtain ⟨b, off, rfl, hc⟩ := h3 hp
    exact ⟨b, off, rfl, fun j u hj => k.cell (hc j u hj) (hvb b (by rw [e]; rfl))⟩
  · intro b hb cs m h9
    exact hne _ _ _ _ (by decide) h9 hb
  · exact fun g hg => hvb g hg
theorem TrO.old {z : Int} {w w' : World} {t : Nat} {v : Value} {ps : List Pk} (h : TrO z w t v ps) (k : Kept [] w w') : TrO z w' t v ps := h.turn k (by simp)
end Go.Proofs.YtecadmldnjlibaaDoor
namespace Go.Proofs.YtecadmldnjlibaaDoor
open Go.RowKit Go.BigFrame
set_option linter.unusedVariables false
set_option linter.unusedSimpArgs false

theorem lies_at {a b : Option Nat} {H k : Nat} (h : a = b ∨ a = some H) (hk : a = some k) : b = some k ∨ k = H := by
  rcases h with h | h
  · exact Or.inl (by rw [← h, hk])
  · right; rw [hk] at h; exact Option.some.inj h

theorem appendDL (w : World) (base : Nat) (v : Value) (ds ps : List (List Nat)) (ao : Option Addr) (n c : Nat) (h : w.ownsRow base 41 32 v ds.length (flatD ds)) (hr : RdD w (.slice ao n c) ps) (hl : ds.length + ps.length ≤ 1000000000000) (hb : base ≤ w.heap.size) :
    ∃ ao' cap' w1, (Builtin.append_ #[32, 32] 32 #[v, .slice ao n c]).run Tryd.prog w = .ok (.slice ao' (ds.length + ps.length) cap') w1 ∧
      w1.ownsRow base 41 32 (.slice ao' (ds.length + ps.length) cap') (ds ++ ps).length (flatD (ds ++ ps)) ∧ w.grownBy w1 v.ownBlock ∧ (∀ k, (Value.slice ao' (ds.length + ps.length) cap').ownBlock = some k → v.ownBlock = some k ∨ k = w.heap.size) := by
  obtain ⟨i0, hi, hz0, hz1, hz2⟩ := info_parts Tryd.infoD
  have hn := hr.nlP
  have hdg : ∀ d ∈ ps, d.length = 32 := fun d hd => (hr.dg hd).1
  rw [flatD_app, List.length_append]
  by_cases h0 : n = 0
  · subst h0
    have hp : ps = [] := List.eq_nil_of_length_eq_zero hn
    subst hp
    cases ao with
    | none =>
      have hrun := append_none (P := Tryd.prog) (w := w) base 32 32 41 i0 32 c Tryd.underlying32 hi v ds.length (flatD ds) h
      obtain ⟨ao', cap', rfl⟩ := owns_form h
      exact ⟨ao', cap', w, hrun, by simpa [flatD] using h, World.grownBy.refl _ _, fun k hk => Or.inl (by simpa using hk)⟩
    | some ad =>
      obtain ⟨v', w1, hrun, hown, hgrow, _, hat⟩ := run_append_own_at (P := Tryd.prog) w base 32 32 41 i0 (.agg (zb 32)) 32 32 Tryd.underlying32 hi hz0 hz1 hz2 (by show (zb 32).size = 32; exact zb_size 32) (by decide)
        v ds.length (flatD ds) h ad 0 c (flatD []) (by simp [flatD]) (by intro j u hj; simp [flatD] at hj) (flatD_one _) (by unfold maxLen; omega) (by omega) hb
      obtain ⟨ao', cap', rfl⟩ := owns_form hown
      exact ⟨ao', cap', w1, hrun, hown, hgrow, fun k hk => lies_at hat hk⟩
  · have hr' := hr
    obtain ⟨ao1, n1, c1, he, h1, h2, h3, h4, h5⟩ := hr'
    cases he
    obtain ⟨b, off, rfl, hc⟩ := h5 (by omega)
    obtain ⟨v', w1, hrun, hown, hgrow, _, hat⟩ := run_append_own_at (P := Tryd.prog) w base 32 32 41 i0 (.agg (zb 32)) 32 32 Tryd.underlying32 hi hz0 hz1 hz2 (by show (zb 32).size = 32; exact zb_size 32) (by decide)
      v ds.length (flatD ds) h ⟨b, off, none⟩ n c (flatD ps) (by rw [flatD_len hdg, hn]) hr.news (flatD_one _) (by unfold maxLen; omega) (by omega) hb
    subst h1
    obtain ⟨ao', cap', rfl⟩ := owns_form hown
    exact ⟨ao', cap', w1, hrun, hown, hgrow, fun k hk => lies_at hat hk⟩

end Go.Proofs.YtecadmldnjlibaaDoor
namespace Go.Proofs.YtecadmldnjlibaaDoor
open Go.RowKit Go.BigFrame
set_option linter.unusedVariables false
set_option linter.unusedSimpArgs false

theorem OwD.back {w0 w w' : World} {v : Value} {ds : List (List Nat)} (h : OwD w w' v ds) (k : Kept [] w0 w) : OwD w0 w' v ds := by
  refine ⟨⟨h.own.1, ?_⟩, h.dg, k.trans h.kept (by simp)⟩
  rcases h.own.2 with h1 | ⟨g, cap, cur, h1, h2, h3⟩
  · exact Or.inl h1
  · exact Or.inr ⟨g, cap, cur, h1, Nat.le_trans k.size h2, h3⟩
theorem OwD.form {w0 w : World} {v : Value} {ds : List (List Nat)} (h : OwD w0 w v ds) : ∃ ao cap, v = .slice ao ds.length cap := owns_form h.own
theorem OwD.zero {w0 w : World} (k : Kept [] w0 w) : OwD w0 w (.slice none 0 0) [] := (OwD.nil w).back k

/-- What Inclusion answers. -/
def inE (L : List (List Nat)) (i n : Nat) : Int := if n ≤ i ∨ L.length < n then 4 else 0
def inD (z : Int) (L : List (List Nat)) (i n : Nat) : List (List Nat) := if n ≤ i ∨ L.length < n then [] else rgL z L (pathF i 64 0 n)

set_option maxRecDepth 100000 in
set_option maxHeartbeats 400000 in
theorem mincl_any (z : Int) (t : Nat) (v : Value) (ps : List Pk) (i n : Nat) (w : World) (hT : TreeAt z w t v ps) (hb : (leavesK ps).length < 32768) (hTb : Tabs w) (h6 : Tab6 w) (hn64 : n < 18446744073709551616) :
    Calls Tryd.prog 19 #[.pointer (some ⟨t, 0, none⟩), .int .u64 i, .int .u64 n] w fun e w' => ∃ u, e = .returned (.tuple #[u, .int .i64 (inE (leavesK ps) i n)]) ∧ OwD w w' u (inD z (leavesK ps) i n) := by
  unfold inE inD
  by_cases h1 : n ≤ i
  · have h1' : (n : Int) ≤ (i : Int) := by omega
    rw [if_pos (Or.inl h1), if_pos (Or.inl h1)]
    go_enter Tryd.func19, Tryd.ntmps19
    go_wp2_with fail
    exact ⟨rfl, _, results_tmp2 rfl _ _ _, _, rfl, OwD.nil _⟩
  · have h1' : ¬ (n : Int) ≤ (i : Int) := by omega
    have HPA := hide (path_any i n w (by omega) hn64)
    have hpl := pathF_len i 64 0 n
    by_cases h2 : (leavesK ps).length < n
    · rw [if_pos (Or.inr h2), if_pos (Or.inr h2)]
      have HDB := hide (fun lv W (k : Kept [] w W) => digests_bad z t v lv ps n W (hT.old k) h2)
      clear hT h2
      go_enter Tryd.func19, Tryd.ntmps19
      go_wp2_with fail
      refine (unhide HPA).mono ?_
      rintro e w1 ⟨v1, rfl, s1, k1⟩
      have HK1 := hide k1
      clear s1 k1
      go_wp2_with fail
      refine (unhide HDB v1 w1 (unhide HK1)).mono ?_
      rintro e w2 ⟨rfl, k2⟩
      have HK2 := hide ((unhide HK1).trans k2 (by simp))
      clear k2
      go_wp2_with fail
      exact ⟨rfl, _, results_tmp2 rfl _ _ _, _, rfl, OwD.zero (unhide HK2)⟩
    · rw [if_neg (by omega), if_neg (by omega)]
      have HDB := hide (fun lv w0 W (k : Kept [] w W) (hs : SpAt w0 W lv (pathF i 64 0 n)) => digests_any z t v lv ps n _ w0 W (hT.old k) (by omega) hb hs (by omega) (hTb.kept k (by simp) (by simp)) (h6.kept k))
      clear hT h2 hb hTb h6
      generalize pathF i 64 0 n = ss at HPA HDB hpl ⊢
      generalize rgL z (leavesK ps) ss = ds at HDB ⊢
      go_enter Tryd.func19, Tryd.ntmps19
      go_wp2_with fail
      refine (unhide HPA).mono ?_
      rintro e w1 ⟨v1, rfl, s1, k1⟩
      have HK1 := hide k1
      have HS1 := hide s1
      clear s1 k1
      go_wp2_with fail
      refine (unhide HDB v1 w w1 (unhide HK1) (unhide HS1)).mono ?_
      rintro e w2 ⟨u, rfl, o2⟩
      have HO2 := hide (o2.back (unhide HK1))
      clear o2
      go_wp2_with fail
      exact ⟨rfl, _, results_tmp2 rfl _ _ _, u, rfl, unhide HO2⟩

/-- What Consistency answers. -/
def csE (L : List (List Nat)) (m n : Nat) : Int := if n < m ∨ L.length < n then 4 else 0
def csD (z : Int) (L : List (List Nat)) (m n : Nat) : List (List Nat) := if n < m ∨ L.length < n then [] else rgL z L (smL m n)
theorem smL_le (m n : Nat) : (smL m n).length ≤ 65 := by
  unfold smL
  have := seamF_len m 64 0 n true
  split
  · simp
  · omega

set_option maxRecDepth 100000 in
set_option maxHeartbeats 400000 in
theorem mcons_any (z : Int) (t : Nat) (v : Value) (ps : List Pk) (i n : Nat) (w : World) (hT : TreeAt z w t v ps) (hb : (leavesK ps).length < 32768) (hTb : Tabs w) (h6 : Tab6 w) (hn64 : n < 18446744073709551616) :
    Calls Tryd.prog 20 #[.pointer (some ⟨t, 0, none⟩), .int .u64 i, .int .u64 n] w fun e w' => ∃ u, e = .returned (.tuple #[u, .int .i64 (csE (leavesK ps) i n)]) ∧ OwD w w' u (csD z (leavesK ps) i n) := by
  unfold csE csD
  by_cases h1 : n < i
  · have h1' : (n : Int) < (i : Int) := by omega
    rw [if_pos (Or.inl h1), if_pos (Or.inl h1)]
    go_enter Tryd.func20, Tryd.ntmps20
    go_wp2_with fail
    exact ⟨rfl, _, results_tmp2 rfl _ _ _, _, rfl, OwD.nil _⟩
  · have h1' : ¬ (n : Int) < (i : Int) := by omega
    have HPA := hide (seam_any i n w (by omega) hn64)
    have hpl := smL_le i n
    by_cases h2 : (leavesK ps).length < n
    · rw [if_pos (Or.inr h2), if_pos (Or.inr h2)]
      have HDB := hide (fun lv W (k : Kept [] w W) => digests_bad z t v lv ps n W (hT.old k) h2)
      clear hT h2
      go_enter Tryd.func20, Tryd.ntmps20
      go_wp2_with fail
      refine (unhide HPA).mono ?_
      rintro e w1 ⟨v1, rfl, s1, k1⟩
      have HK1 := hide k1
      clear s1 k1
      go_wp2_with fail
      refine (unhide HDB v1 w1 (unhide HK1)).mono ?_
      rintro e w2 ⟨rfl, k2⟩
      have HK2 := hide ((unhide HK1).trans k2 (by simp))
      clear k2
      go_wp2_with fail
      exact ⟨rfl, _, results_tmp2 rfl _ _ _, _, rfl, OwD.zero (unhide HK2)⟩
    · rw [if_neg (by omega), if_neg (by omega)]
      have HDB := hide (fun lv w0 W (k : Kept [] w W) (hs : SpAt w0 W lv (smL i n)) => digests_any z t v lv ps n _ w0 W (hT.old k) (by omega) hb hs (by omega) (hTb.kept k (by simp) (by simp)) (h6.kept k))
      clear hT h2 hb hTb h6
      generalize smL i n = ss at HPA HDB hpl ⊢
      generalize rgL z (leavesK ps) ss = ds at HDB ⊢
      go_enter Tryd.func20, Tryd.ntmps20
      go_wp2_with fail
      refine (unhide HPA).mono ?_
      rintro e w1 ⟨v1, rfl, s1, k1⟩
      have HK1 := hide k1
      have HS1 := hide s1
      clear s1 k1
      go_wp2_with fail
      refine (unhide HDB v1 w w1 (unhide HK1) (unhide HS1)).mono ?_
      rintro e w2 ⟨u, rfl, o2⟩
      have HO2 := hide (o2.back (unhide HK1))
      clear o2
      go_wp2_with fail
      exact ⟨rfl, _, results_tmp2 rfl _ _ _, u, rfl, unhide HO2⟩
end Go.Proofs.YtecadmldnjlibaaDoor
namespace Go.Proofs.YtecadmldnjlibaaDoor
open Go.RowKit Go.BigFrame
set_option linter.unusedVariables false
set_option linter.unusedSimpArgs false

/-- How many nodes a level has. -/
def lvN (N h : Nat) : Nat := (N + 2 ^ h - 1) / 2 ^ h
theorem lt_lvN {N h b : Nat} : b < lvN N h ↔ b * 2 ^ h < N := by
  have hp : 1 ≤ 2 ^ h := Nat.one_le_two_pow
  unfold lvN
  have h1 : b < (N + 2 ^ h - 1) / 2 ^ h ↔ b + 1 ≤ (N + 2 ^ h - 1) / 2 ^ h := Iff.rfl
  rw [h1, Nat.le_div_iff_mul_le (by omega), Nat.add_mul, Nat.one_mul]
  omega
theorem lvN_up (N h : Nat) : lvN N (h + 1) = (lvN N h + 1) / 2 := by
  have key : ∀ j, j < lvN N (h + 1) ↔ j < (lvN N h + 1) / 2 := by
    intro j
    rw [lt_lvN, show j * 2 ^ (h + 1) = (2 * j) * 2 ^ h by rw [Nat.pow_succ, Nat.mul_comm (2 ^ h) 2, ← Nat.mul_assoc, Nat.mul_comm j 2], ← lt_lvN]
    omega
  rcases Nat.lt_trichotomy (lvN N (h + 1)) ((lvN N h + 1) / 2) with h1 | h1 | h1
  · have := (key _).2 h1; omega
  · exact h1
  · have := (key _).1 h1; omega
/-- A level of the tree. -/
def lvl (z : Int) (no : List Nat) (L : List (List Nat)) (h : Nat) : List (List Nat) := (List.range (lvN L.length h)).map fun j => rngD z no L (j * 2 ^ h) (min ((j + 1) * 2 ^ h) L.length)
theorem lvl_len (z : Int) (no : List Nat) (L : List (List Nat)) (h : Nat) : (lvl z no L h).length = lvN L.length h := by unfold lvl; rw [List.length_map, List.length_range]
theorem lvl_at {z : Int} {no : List Nat} {L : List (List Nat)} {h j : Nat} (hj : j * 2 ^ h < L.length) : (lvl z no L h)[j]? = some (rngD z no L (j * 2 ^ h) (min ((j + 1) * 2 ^ h) L.length)) := by
  unfold lvl
  rw [List.getElem?_map, List.getElem?_range (lt_lvN.2 hj)]; rfl
theorem lvl_getD {z : Int} {no : List Nat} {L : List (List Nat)} {h j : Nat} (hj : j * 2 ^ h < L.length) : (lvl z no L h).getD j [] = rngD z no L (j * 2 ^ h) (min ((j + 1) * 2 ^ h) L.length) := by
  rw [List.getD_eq_getElem?_getD, lvl_at hj]; rfl
theorem lvl_zero (z : Int) (no : List Nat) (L : List (List Nat)) : lvl z no L 0 = L := by
  apply List.ext_getElem?
  intro j
  by_cases hj : j < L.length
  · rw [lvl_at (by simpa using hj), List.getElem?_eq_getElem hj]
    have e : min ((j + 1) * 2 ^ 0) L.length = j + 1 := by rw [Nat.pow_zero, Nat.mul_one]; omega
    rw [e, Nat.pow_zero, Nat.mul_one]
    unfold rngD
    rw [Nat.add_sub_cancel_left, List.drop_eq_getElem_cons hj, List.take_succ_cons, List.take_zero, logT_one]
  · rw [List.getElem?_eq_none (by rw [lvl_len]; have := (lt_lvN (N := L.length) (h := 0) (b := j)).1; simp at this; omega), List.getElem?_eq_none (by omega)]
/-- The level above. -/
def upL (z : Int) : List (List Nat) → List (List Nat)
  | a :: b :: r => nodS z a b :: upL z r
  | [a] => [a]
  | [] => []
theorem upL_at (z : Int) : ∀ (ls : List (List Nat)) (j : Nat), (upL z ls)[j]? = if 2 * j + 1 < ls.length then some (nodS z (ls.getD (2 * j) []) (ls.getD (2 * j + 1) [])) else if 2 * j < ls.length then some (ls.getD (2 * j) []) else none
  | [], j => by simp [upL]
  | [a], 0 => by simp [upL]
  | [a], j + 1 => by simp [upL]
  | a :: b :: r, 0 => by simp [upL]
  | a :: b :: r, j + 1 => by
    have ih := upL_at z r j
    rw [upL, List.getElem?_cons_succ, ih]
    simp only [List.length_cons, show 2 * (j + 1) = 2 * j + 1 + 1 by omega, List.getD_cons_succ]
    simp only [Nat.add_lt_add_iff_right]
theorem upL_len (z : Int) : ∀ (ls : List (List Nat)), (upL z ls).length = (ls.length + 1) / 2
  | [] => rfl
  | [a] => by simp [upL]
  | a :: b :: r => by rw [upL, List.length_cons, upL_len z r]; simp; omega
theorem lvl_up (z : Int) (no : List Nat) (L : List (List Nat)) (h : Nat) : upL z (lvl z no L h) = lvl z no L (h + 1) := by
  apply List.ext_getElem?
  intro j
  have hp : 1 ≤ 2 ^ h := Nat.one_le_two_pow
  have hps : 2 ^ (h + 1) = 2 * 2 ^ h := by rw [Nat.pow_succ]; omega
  have ej : j * 2 ^ (h + 1) = 2 * j * 2 ^ h := by rw [hps, ← Nat.mul_assoc, Nat.mul_comm j 2]
  have ej1 : (j + 1) * 2 ^ (h + 1) = 2 * j * 2 ^ h + 2 * 2 ^ h := by rw [hps, Nat.add_mul, Nat.one_mul, ← Nat.mul_assoc, Nat.mul_comm j 2]
  have ek : (2 * j + 1) * 2 ^ h = 2 * j * 2 ^ h + 2 ^ h := by rw [Nat.add_mul, Nat.one_mul]
  have ek1 : (2 * j + 1 + 1) * 2 ^ h = 2 * j * 2 ^ h + 2 * 2 ^ h := by rw [Nat.add_assoc, Nat.add_mul]
  rw [upL_at, lvl_len]
  by_cases h1 : 2 * j + 1 < lvN L.length h
  · have h1' := lt_lvN.1 h1
    rw [if_pos h1, lvl_getD (lt_lvN.1 (by omega)), lvl_getD h1', lvl_at (by rw [ej]; rw [ek] at h1'; omega)]
    rw [ek] at h1'
    rw [ej, ej1, ek, ek1]
    generalize 2 * j * 2 ^ h = lo at h1' ⊢
    have hm : min (lo + 2 ^ h) L.length = lo + 2 ^ h := by omega
    obtain ⟨hi, hhi⟩ : ∃ hi, min (lo + 2 * 2 ^ h) L.length = hi := ⟨_, rfl⟩
    have hi1 : lo + 2 ^ h < hi := by omega
    have hi2 : hi ≤ lo + 2 * 2 ^ h := by omega
    have hi3 : hi ≤ L.length := by omega
    rw [hm, hhi]
    have hbel : belT (hi - lo) = 2 ^ h := by
      unfold belT
      congr 1
      rw [Nat.log2_eq_iff (by omega)]
      omega
    rw [rngD_cut (lo := lo) (hi := hi) (by omega) hi3, hbel]
    rfl
  · rw [if_neg h1]
    by_cases h2 : 2 * j < lvN L.length h
    · have h2' := lt_lvN.1 h2
      have h1' : ¬ (2 * j + 1) * 2 ^ h < L.length := fun hh => h1 (lt_lvN.2 hh)
      rw [if_pos h2, lvl_getD h2', lvl_at (by rw [ej]; exact h2'), ej, ej1, ek]
      rw [ek] at h1'
      congr 2
      omega
    · rw [if_neg h2, List.getElem?_eq_none (by rw [lvl_len, lvN_up]; omega)]
theorem rngD_take {z : Int} {no : List Nat} {L : List (List Nat)} {n lo hi : Nat} (h : hi ≤ n) : rngD z no (L.take n) lo hi = rngD z no L lo hi := by
  unfold rngD
  rw [List.drop_take, List.take_take, Nat.min_eq_left (by omega)]
theorem levs_stop {N i h : Nat} (hi : i < N) (hN : N ≤ 2 ^ h) : ∀ d, levs N i (h + d) = levs N i h
  | 0 => rfl
  | d + 1 => by
    rw [← Nat.add_assoc, levs_succ, levs_stop hi hN d]
    have hpp : 2 ^ h ≤ 2 ^ (h + d) := Nat.pow_le_pow_right (by omega) (by omega)
    have : broS N i (h + d) = none := by
      unfold broS broN
      rw [Nat.div_eq_of_lt (by omega), if_pos rfl, if_neg (by omega)]
    rw [this]; simp
/-- The proof that the reference answers. -/
theorem inD_levs {z : Int} {L : List (List Nat)} {i n : Nat} (hi : i < n) (hn : n ≤ L.length) (h64 : n < 18446744073709551616) : inD z L i n = (levs n i 64).map fun s => rngD z (noT z) (L.take n) s.1 s.2 := by
  unfold inD
  rw [if_neg (by omega), ← path_all hi (by omega)]
  unfold rgL
  apply List.map_congr_left
  intro s hs
  have h1 := pathF_in i 64 0 n s hs
  unfold rgD
  rw [if_neg (by omega), rngD_take h1.2.2]
end Go.Proofs.YtecadmldnjlibaaDoor
namespace Go.Proofs.YtecadmldnjlibaaDoor
open Go.RowKit Go.BigFrame
set_option linter.unusedVariables false
set_option linter.unusedSimpArgs false

def cI (k i : Nat) (d : List Nat) : List Nat := (d.take k ++ List.replicate (i - k) 0) ++ d.drop i
theorem cI_len {k i : Nat} {d : List Nat} (h : k ≤ i) (hi : i ≤ 32) (hd : d.length = 32) : (cI k i d).length = 32 := by simp [cI, hd]; omega
theorem cI_set {k i : Nat} {d : List Nat} (h : k ≤ i) (hi : i < 32) (hd : d.length = 32) : (brow (cI k i d)).setIfInBounds i (.int .u8 0) = brow (cI k (i + 1) d) := by
  have hA : (d.take k ++ List.replicate (i - k) 0).length = i := by simp [hd]; omega
  have e1 : (cI k i d).set i 0 = cI k (i + 1) d := by
    unfold cI
    rw [List.set_append_right _ _ (by omega), hA, Nat.sub_self, List.drop_eq_getElem_cons (show i < d.length by omega), List.set_cons_zero, show i + 1 - k = (i - k) + 1 by omega, List.replicate_succ']
    simp
  rw [← e1]
  unfold brow
  rw [List.setIfInBounds_toArray, List.map_set]
  rfl
theorem cI_end {k : Nat} {d : List Nat} (hd : d.length = 32) : cI k 32 d = cutL k d := by unfold cI cutL; rw [List.drop_eq_nil_of_le (by omega), List.append_nil]
theorem cI_start {k : Nat} {d : List Nat} : cI k k d = d := by simp [cI]

theorem wpList_load_midT {P : Program} {ops : Array Oper} {rest : List Oper} {op : Oper} {a : Act} {w : World} {Q : Exit → Act → World → Prop} (hw : Region.wanted op (yielded ops a.tmps) = true) (ty : TypeId) (x : Operand) (ho : op.op = .load ty x)
    (b o : Nat) (hx : a.eval x = .pointer (some ⟨b, o, none⟩)) (cs : List Value) (d : TypeDesc) (hc : w.rangeAt b o cs)
    (hu : P.underlying ty = some d) (hd : d.isRow = true) (hi : (P.info? ty).map (·.size) = some cs.length)
    (h : wpList P ops Q rest (a.put op.dst (.agg cs.toArray)) w) : wpList P ops Q (op :: rest) a w :=
  wpList_want hw fun _ hK => wp_load_mid ty x ho b o hx cs d hc hu hd hi (hK _ _ h)
theorem RdD_nil {w : World} : RdD w (.slice none 0 0) [] := ⟨none, 0, 0, rfl, rfl, Nat.le_refl _, by omega, fun d hd => by simp at hd, fun h => by omega⟩
theorem cutL_cut2 {k : Nat} {d : List Nat} (hk : k ≤ 32) (hd : d.length = 32) : cutL k (cutL k d) = cutL k d := cutL_cutL k d (by omega)
theorem cut_dg {k : Nat} {d : List Nat} (hk : k ≤ 32) (hd : Dg d) : Dg (cutL k d) := ⟨cutL_len k d hk hd.1, cutL_byte k d hd.2⟩
theorem cut_form {k : Nat} {d : List Nat} (h1 : 1 ≤ k) (hk : k ≤ 32) (hd : Dg d) : formB (k : Int) (cutL k d) = true := by
  have hw : widthB (k : Int) = true := by simp [widthB]; omega
  unfold formB
  rw [hw, Int.toNat_natCast, cutL_cut2 hk hd.1]
  simp

end Go.Proofs.YtecadmldnjlibaaDoor
namespace Go.Proofs.YtecadmldnjlibaaDoor
open Go.RowKit Go.BigFrame
set_option linter.unusedVariables false
set_option linter.unusedSimpArgs false

/-- What the statements' tree answers. -/
def TrD (z : Int) (ls : List (List Nat)) (w : World) (e : Ending) (w' : World) : Prop :=
  (widthB z = false → e = .returned (.tuple #[.pointer none, .slice none 0 0, .bool false]) ∧ Kept [] w w') ∧
  (widthB z = true → ∃ t v qs u, e = .returned (.tuple #[.pointer (some ⟨t, 0, none⟩), u, .bool true]) ∧ TreeAt z w' t v qs ∧ leavesK qs = ls.map (cutL z.toNat) ∧ OwD w w' u (ls.map (cutL z.toNat)))
theorem cut_all {k : Nat} (h1 : 1 ≤ k) (h2 : k ≤ 32) {ls : List (List Nat)} (h : ∀ d ∈ ls, Dg d) : (ls.map (cutL k)).all (formB (k : Int)) = true := by
  rw [List.all_eq_true]
  intro x hx
  obtain ⟨d, hd, rfl⟩ := List.mem_map.1 hx
  exact cut_form h1 h2 (h d hd)

set_option maxRecDepth 100000 in
set_option maxHeartbeats 1000000 in
theorem tree_bad (z : Int) (lv : Value) (ls : List (List Nat)) (w : World) (hz : -9223372036854775808 ≤ z ∧ z ≤ 9223372036854775807) (hw : widthB z = false) :
    Calls Tryd.prog 16 #[.int .i64 z, lv] w (TrD z ls w) := by
  have HW := hide (rwidth_any z w hz)
  rw [hw] at HW
  have HF := hide hw
  clear hw hz
  go_enter Tryd.func16, Tryd.ntmps16
  go_wp2_with fail
  refine (unhide HW).mono ?_
  rintro e w1 ⟨rfl, rfl⟩
  go_wp2_with fail
  exact ⟨rfl, _, results_tmp3 rfl _ _ _, fun _ => ⟨rfl, Kept.refl _ _⟩, fun h => by rw [unhide HF] at h; simp at h⟩

set_option maxRecDepth 100000 in
set_option maxHeartbeats 1000000 in
theorem tree_ok (k : Nat) (lv : Value) (ls : List (List Nat)) (w : World) (h1 : 1 ≤ k) (h2 : k ≤ 32) (hl : RdD w lv ls) (hN : ls.length ≤ 1000000) (hT : Tabs w) (h6 : Tab6 w) :
    Calls Tryd.prog 16 #[.int .i64 (k : Int), lv] w (TrD (k : Int) ls w) := by
  have hwb : widthB (k : Int) = true := by simp [widthB]; omega
  have HW := hide (rwidth_any (k : Int) w (by omega))
  rw [hwb] at HW
  have HWB := hide hwb
  have HTB := hide hT
  have H6 := hide h6
  have HL := hide hl
  have HDG := hide (fun d hd => hl.dg (d := d) hd)
  obtain ⟨la, ll, lc, rfl, l1, l2, l3, l4, l5⟩ := hl
  subst l1
  clear hT h6 l4 l5 hwb
  go_enter Tryd.func16, Tryd.ntmps16
  go_wp2_with fail
  refine (unhide HW).mono ?_
  rintro e w1 ⟨rfl, rfl⟩
  go_wp2_with fail
  go_loopw [7, 18] (fun t7 t18 wr => ∃ (i : Nat), i ≤ ls.length ∧ t18 = .int .i64 (i : Int) ∧ Hid (OwD w1 wr t7 ((ls.take i).map (cutL k)))) (fun _ t _ => ls.length - (intOf t).toNat)
  case atStart => exact ⟨0, Nat.zero_le _, rfl, hide (OwD.nil _)⟩
  case round =>
    obtain ⟨i, hi, rfl, HO⟩ := hrel
    by_cases hlt : i < ls.length
    · have hlt' : (i : Int) < (ls.length : Int) := by omega
      obtain ⟨_, _, _, he, hel, _, _, _, hcell⟩ := (unhide HL).old (unhide HO).kept
      cases he
      obtain ⟨b, o, rfl, hc⟩ := hcell (by omega)
      have HC := hide (hc i hlt)
      have hgd : ls.getD i [] = ls[i] := by rw [List.getD_eq_getElem?_getD, List.getElem?_eq_getElem hlt]; rfl
      rw [hgd] at HC
      have HDi := hide (unhide HDG ls[i] (List.getElem_mem hlt))
      have HSN := hide (by rw [List.take_add_one, List.getElem?_eq_getElem hlt, List.map_append]; rfl : (ls.take (i + 1)).map (cutL k) = (ls.take i).map (cutL k) ++ [cutL k ls[i]])
      have HLN := hide (by rw [List.length_map, List.length_take]; omega : ((ls.take i).map (cutL k)).length + 1 ≤ 10000000)
      generalize ls[i] = d at HC HDi HSN
      generalize (ls.take i).map (cutL k) = ds at HO HSN HLN
      have hdl := (unhide HDi).1
      have HCE := hide (cI_end (k := k) hdl)
      have hcl := cutL_len k d h2 hdl
      have HCD := hide (cut_dg h2 (unhide HDi))
      obtain ⟨ua, ucap, rfl⟩ := owns_form (unhide HO).own
      have ia : ¬ (i : Int) < 0 := by omega
      have ib : ¬ (ls.length : Int) ≤ i := by omega
      clear hc hcell hel
      obtain ⟨wx, hwx⟩ : ∃ wx, wx = wr := ⟨_, rfl⟩
      subst hwx
      have HN0 := hide (cell_new wx d)
      have HK0 := hide (kept_old wx d)
      obtain ⟨wb, hwb⟩ : ∃ wb, (wx.alloc (.cells (zb 32) 41)).setRow wx.heap.size (brow d) = wb := ⟨_, rfl⟩
      rw [hwb] at HN0 HK0
      have HWBE := hide hwb
      clear hwb
      go_wp2_with (first
        | (refine wpList_load_mid rfl 41 _ rfl b (o + i * 32) rfl (d.map u8) _ (unhide HC) Tryd.underlying41 rfl (by rw [List.length_map, hdl]; exact Tryd.size_dig) ?_)
        | (rw [zb32]; refine wpList_store_row rfl 41 (.tmp 9) _ rfl wx.heap.size (brow d) rfl rfl _ (zb 32) (heap_alloc_new _ _) (Tryd.szD hdl) (by rw [zb_size, brow_size, hdl]) (brow_one _) ?_; rw [unhide HWBE]))
      go_loopw [10] (fun t wq => ∃ (j : Nat), k ≤ j ∧ j ≤ 32 ∧ t = .int .i64 j ∧ Hid (wq.heap[wx.heap.size]? = some (.cells (brow (cI k j d)) 41 (0, 0))) ∧ Hid (Kept [] wx wq)) (fun t _ => 32 - (intOf t).toNat)
      case atStart => exact ⟨k, Nat.le_refl _, h2, rfl, hide (by rw [cI_start]; exact unhide HN0), HK0⟩
      case round =>
        obtain ⟨j, hj1, hj2, rfl, HG, HKr⟩ := hrel
        by_cases hjl : j < 32
        · have hjl' : (j : Int) < 32 := by omega
          have q0 := brow_cell (unhide HG) j (by rw [cI_len hj1 hj2 hdl]; exact hjl)
          simp only [Go.Proofs.YtecadmldnjlibaaDoor.u8] at q0
          have z0 : wr.frozen? ⟨wx.heap.size, j, none⟩ = false := frozen_of_row _ _ _ _ _ (unhide HG)
          have HG2 := hide (by have h9 := heap_setCell_same wr wx.heap.size j _ 41 (.int .u8 0) (unhide HG); rw [cI_set hj1 hjl hdl] at h9; exact h9 : (wr.setCell ⟨wx.heap.size, j, none⟩ (.int .u8 0)).heap[wx.heap.size]? = some (.cells (brow (cI k (j + 1) d)) 41 (0, 0)))
          have HK2 := hide ((unhide HKr).setCell (p := ⟨wx.heap.size, j, none⟩) (Or.inr (Nat.le_refl _)) (.int .u8 0))
          go_wp2_with fail
          refine ⟨⟨j + 1, by omega, by omega, by go_num, HG2, HK2⟩, ?_⟩
          simp [intOf]; omega
        · have hjl' : ¬ (j : Int) < 32 := by omega
          have hj32 : j = 32 := by omega
          subst hj32
          rw [unhide HCE] at HG
          have HOB := hide ((unhide HO).pass (unhide HKr))
          have HOC := hide ((unhide HOB).pass ((Kept.refl [] wr).alloc (.cells (brow (cutL k d)) 41)))
          have HNC := hide (heap_alloc_new wr (.cells (brow (cutL k d)) 41))
          generalize cutL k d = D at HG HOC HNC HSN hcl HCD
          go_wp2_with (first
            | (refine wpList_load_mid rfl 41 _ rfl wx.heap.size 0 rfl (D.map u8) _ (range_row (unhide HG)) Tryd.underlying41 rfl (by rw [List.length_map, hcl]; exact Tryd.size_dig) ?_)
            | (at_builtin; rw [zb32, one_digP D hcl]; refine wpList_appendD rfl _ _ rfl rfl (wr.alloc (.cells (brow D) 41)) w1.heap.size (.slice ua ds.length ucap) ds [D] (some ⟨wr.heap.size, 0, none⟩) 1 1 (unhide HOC).own (RdD.oneP (unhide HNC) (unhide HCD)) (by have := unhide HLN; simp; omega) (unhide HOC).kept.size rfl rfl ?_; intro ao3 cap3 w3 HO3 HG3; have HO4 := hide ((unhide HOC).push (unhide HCD) (unhide HO3) (unhide HG3)); clear HO3 HG3))
          go_roundw
          case rel => exact ⟨i + 1, by omega, by simp, by rw [unhide HSN]; exact HO4⟩
          case measure => simp [intOf]; omega
    · have hlt' : ¬ (i : Int) < (ls.length : Int) := by omega
      have HE := hide (by rw [List.take_of_length_le (by omega)] : ls.take i = ls)
      rw [unhide HE] at HO
      go_wp2_with fail
      refine (newT_any (k : Int) wr (unhide HWB)).mono ?_
      rintro e w2 ⟨t0, rfl, _, tr2, k2⟩
      have HT2 := hide tr2
      have HO2 := hide ((unhide HO).pass k2)
      clear tr2 k2 HO
      go_wp2_with fail
      refine (appendT_any (k : Int) t0 (.slice none 0 0) u7 [] (ls.map (cutL k)) w2 (unhide HT2) (fun _ => rfl) (unhide HO2).rd (by simp [leavesK]; omega) ((unhide HTB).kept (unhide HO2).kept (by simp) (by simp)) ((unhide H6).kept (unhide HO2).kept)).mono ?_
      rintro e w3 ⟨hg1, _, k3⟩
      obtain ⟨t3, v3, qs3, rfl, _, tr3, lv3, _⟩ := hg1 (cut_all h1 h2 (unhide HDG))
      have HT3 := hide tr3
      have HL3 := hide lv3
      have HO3 := hide ((unhide HO2).pass k3)
      clear tr3 lv3 k3 HO2 hg1
      go_wp2_with fail
      refine ⟨rfl, _, results_tmp3 rfl _ _ _, fun h => by rw [unhide HWB] at h; simp at h, fun _ => ⟨t3, v3, qs3, u7, rfl, unhide HT3, by rw [unhide HL3]; simp [leavesK], by rw [Int.toNat_natCast]; exact unhide HO3⟩⟩
end Go.Proofs.YtecadmldnjlibaaDoor
namespace Go.Proofs.YtecadmldnjlibaaDoor
open Go.RowKit Go.BigFrame
set_option linter.unusedVariables false
set_option linter.unusedSimpArgs false

set_option maxRecDepth 100000 in
set_option maxHeartbeats 400000 in
theorem below64_any (k : Nat) (w : World) (h2 : 2 ≤ k) (hk : k < 18446744073709551616) :
    Calls Tryd.prog 39 #[.int .u64 k] w fun e w' => e = .returned (.int .u64 (belT k)) ∧ w' = w := by
  have hs : IntKind.u64.wrap ((k : Int) - 1) = ((k - 1 : Nat) : Int) := by rw [wrM]; omega
  have HB := hide (fun j (h : 2 ^ j ≤ k - 1) (h' : k - 1 < 2 ^ (j + 1)) => (by unfold belT; rw [(Nat.log2_eq_iff (by omega)).2 ⟨h, h'⟩] : belT k = 2 ^ j))
  obtain ⟨k1, hk1⟩ : ∃ k1, k - 1 = k1 := ⟨_, rfl⟩
  rw [hk1] at hs HB
  have h1 : 1 ≤ k1 := by omega
  have h3 : k1 < 18446744073709551616 := by omega
  obtain ⟨B, hBe⟩ : ∃ B, belT k = B := ⟨_, rfl⟩
  rw [hBe] at HB ⊢
  clear hBe hk1
  go_enter Tryd.func39, Tryd.ntmps39
  go_wp2_with fail
  go_loopw [3] (fun t3 wr => ∃ (m : Nat), t3 = .int .u64 (m : Int) ∧ 1 ≤ m ∧ m ≤ k1 ∧ Hid (∃ j, m = 2 ^ j) ∧ wr = w) (fun t _ => k1 - (intOf t).toNat)
  case atStart => exact ⟨1, rfl, by omega, by omega, hide ⟨0, rfl⟩, rfl⟩
  case round =>
    obtain ⟨m, rfl, hm1, hm2, HJ, rfl⟩ := hrel
    by_cases hle : 2 * m ≤ k1
    · have hle' : (m : Int) ≤ (k1 : Int) / 2 := by omega
      have hmul : IntKind.u64.wrap ((m : Int) * 2) = ((2 * m : Nat) : Int) := by rw [wrM]; omega
      have HJ2 := hide (by obtain ⟨j, hj⟩ := unhide HJ; exact ⟨j + 1, by rw [Nat.pow_succ]; omega⟩ : ∃ j, 2 * m = 2 ^ j)
      go_wp2_with (first | simp only [hs] | simp only [hmul])
      refine ⟨⟨2 * m, rfl, by omega, by omega, HJ2, by trivial⟩, ?_⟩
      simp [intOf]
      omega
    · have hle' : ¬ (m : Int) ≤ (k1 : Int) / 2 := by omega
      have HE := hide (by obtain ⟨j, hj⟩ := unhide HJ; rw [hj]; exact unhide HB j (by omega) (by rw [Nat.pow_succ]; omega) : B = m)
      go_wp2_with (simp only [hs])
      go_ret
      exact ⟨by rw [unhide HE]; rfl, rfl⟩

theorem stL_le : ∀ (c i n : Nat), stL c i n ≤ c
  | 0, _, _ => Nat.le_refl _
  | c + 1, i, n => by
    unfold stL
    have := stL_le c (i / 2) (n / 2 + n % 2)
    split
    · omega
    · split <;> omega
theorem stL_one (c i n : Nat) (h : n ≤ 1) : stL c i n = 0 := by
  cases c with
  | zero => rfl
  | succ c => unfold stL; rw [if_pos h]

end Go.Proofs.YtecadmldnjlibaaDoor
namespace Go.Proofs.YtecadmldnjlibaaDoor
open Go.RowKit Go.BigFrame
set_option linter.unusedVariables false
set_option linter.unusedSimpArgs false

theorem sinL_le : ∀ (c m n : Nat) (wh : Bool), sinL c m n wh ≤ c + 1
  | 0, _, _, wh => by unfold sinL; split <;> omega
  | c + 1, m, n, wh => by
    unfold sinL
    have h1 := sinL_le c m (belT n) wh
    have h2 := sinL_le c (m - belT n) (n - belT n) false
    split
    · split <;> omega
    · split <;> omega
theorem sinL_end (c m : Nat) (wh : Bool) : sinL c m m wh = if wh then 0 else 1 := by
  cases c with
  | zero => rfl
  | succ c => unfold sinL; rw [if_pos rfl]

theorem smL_len {m n : Nat} (hm : m ≤ n) (hn : n < 18446744073709551616) : (smL m n).length = if m = 0 then 0 else sinL 64 m n true := by
  unfold smL
  by_cases h0 : m = 0
  · rw [if_pos (Or.inl h0), if_pos h0]; rfl
  · rw [if_neg h0]
    by_cases h1 : m = n
    · rw [if_pos (Or.inr h1), h1, sinL_end]; rfl
    · rw [if_neg (by omega), seam_sin m 64 0 n true (by omega) hm (by omega)]; simp
theorem cntA_eq {i m n : Nat} (hi : i < n) (hm : m ≤ n) (hn : n < 18446744073709551616) : cntA i m n = (stL 64 i n : Int) := by
  unfold cntA
  rw [if_neg (by omega), path_all hi (by omega), levs_steps 64 i n hi (by omega)]

end Go.Proofs.YtecadmldnjlibaaDoor
namespace Go.Proofs.YtecadmldnjlibaaDoor
open Go.RowKit Go.BigFrame
set_option linter.unusedVariables false
set_option linter.unusedSimpArgs false

theorem RdD.flat {w : World} {g : Nat} {ds : List (List Nat)} {t : TypeId} {fr : Nat × Nat} (h : w.heap[g]? = some (.cells (flatD ds).toArray t fr)) (hd : ∀ d ∈ ds, Dg d) (n : Nat) (hn : ds.length = n) (hs : n ≤ 1000000) : RdD w (.slice (some ⟨g, 0, none⟩) n n) ds := by
  subst hn
  refine ⟨_, _, _, rfl, rfl, Nat.le_refl _, by omega, hd, fun _ => ⟨g, 0, rfl, fun i hi => ?_⟩⟩
  intro j v hv
  have hj : j < 32 := by
    have := (List.getElem?_eq_some_iff.1 hv).1
    rw [List.length_map, List.getD_eq_getElem?_getD, List.getElem?_eq_getElem hi] at this
    rw [← (hd ds[i] (List.getElem_mem hi)).1]; exact this
  have hq := flatD_at (fun d hd' => (hd d hd').1) i hi j hj
  rw [Nat.zero_add, cell_of_row _ _ _ _ _ _ h, List.getElem?_toArray, hq]
  exact hv
theorem RdD.range {w : World} {ao : Option Addr} {n c : Nat} {ds : List (List Nat)} (h : RdD w (.slice ao n c) ds) (hp : 0 < ds.length) : ∃ b o, ao = some ⟨b, o, none⟩ ∧ ∀ i, i < ds.length → w.rangeAt b (o + i * 32) ((ds.getD i []).map u8) := by
  obtain ⟨_, _, _, e, h1, h2, h3, h4, h5⟩ := h
  cases e
  obtain ⟨b, o, e, hc⟩ := h5 (by omega)
  exact ⟨b, o, e, fun i hi => hc i (by omega)⟩

def e1 : List Nat := 1 :: List.replicate 31 0
def e2 : List Nat := 2 :: List.replicate 31 0
def e3 : List Nat := 3 :: List.replicate 31 0
theorem e_dg : ∀ d ∈ [e1, e2, e3], Dg d := by
  intro d hd
  simp only [List.mem_cons, List.not_mem_nil, or_false] at hd
  rcases hd with rfl | rfl | rfl <;> exact ⟨rfl, by decide⟩
theorem e_cut : [e1, e2, e3].map (cutL 4) = [e1, e2, e3] := by decide +kernel
theorem e_path : pathF 2 64 0 3 = [(0, 2)] := by decide +kernel
theorem e_seam : smL 1 3 = [(1, 2), (2, 3)] := by decide +kernel
theorem e_in : inD 4 [e1, e2, e3] 2 3 = [nodS 4 e1 e2] := by
  unfold inD
  rw [if_neg (by decide), e_path]
  unfold rgL
  rw [List.map_cons, List.map_nil]
  unfold rgD
  rw [if_neg (by decide), rngD_cut (by decide) (by decide)]
  rfl
theorem e_cs : csD 4 [e1, e2, e3] 1 3 = [e2, e3] := by
  unfold csD
  rw [if_neg (by decide), e_seam]
  rfl

set_option maxRecDepth 100000 in
set_option maxHeartbeats 1000000 in
theorem mpawake_any (w : World) (hT : Tabs w) (h6 : Tab6 w) :
    Calls Tryd.prog 15 #[] w fun e w' => e = .returned (.bool true) ∧ Kept [] w w' := by
  have HTB := hide hT
  have H6 := hide h6
  clear hT h6
  go_enter Tryd.func15, Tryd.ntmps15
  go_wp2_with fail
  have kA := (Kept.refl [] w).alloc (.cells (flatD [e1, e2, e3]).toArray 41)
  have HTR := hide (tree_ok 4 (.slice (some ⟨w.heap.size, 0, none⟩) 3 3) [e1, e2, e3] _ (by decide) (by decide) (RdD.flat (heap_alloc_new w (.cells (flatD [e1, e2, e3]).toArray 41)) e_dg 3 rfl (by decide)) (by decide) ((unhide HTB).kept kA (by simp) (by simp)) ((unhide H6).kept kA))
  have HKA := hide kA
  clear kA
  refine Calls.mono (unhide HTR) ?_
  rintro e w1 ⟨_, h9⟩
  obtain ⟨t, v, qs, u, rfl, tr, lv, ow⟩ := h9 (by decide)
  rw [show ((4 : Nat) : Int).toNat = 4 from rfl, e_cut] at lv ow
  have HT1 := hide tr
  have HLV := hide lv
  have HO1 := hide (ow.back (unhide HKA))
  have HB := hide (by rw [lv]; decide : (leavesK qs).length < 32768)
  clear h9 tr lv ow HTR HKA
  obtain ⟨ua, uc, rfl⟩ := (unhide HO1).form
  go_wp2_with fail
  refine (mincl_any 4 t v qs 2 3 w1 (unhide HT1) (unhide HB) ((unhide HTB).kept (unhide HO1).kept (by simp) (by simp)) ((unhide H6).kept (unhide HO1).kept) (by decide)).mono ?_
  rintro e w2 ⟨p, rfl, o2⟩
  rw [unhide HLV, e_in] at o2
  rw [show inE (leavesK qs) 2 3 = 0 from by rw [unhide HLV]; rfl]
  have HO2 := hide o2
  have HT2 := hide ((unhide HT1).old o2.kept)
  have HOA2 := hide ((unhide HO1).pass o2.kept)
  clear o2 HO1 HT1
  obtain ⟨pa, pc, rfl⟩ := (unhide HO2).form
  go_wp2_with fail
  refine (mcons_any 4 t v qs 1 3 w2 (unhide HT2) (unhide HB) ((unhide HTB).kept (unhide HOA2).kept (by simp) (by simp)) ((unhide H6).kept (unhide HOA2).kept) (by decide)).mono ?_
  rintro e w3 ⟨q, rfl, o3⟩
  rw [unhide HLV, e_cs] at o3
  rw [show csE (leavesK qs) 1 3 = 0 from by rw [unhide HLV]; rfl]
  have HO3 := hide o3
  have HP3 := hide ((unhide HO2).pass o3.kept)
  have HOA3 := hide ((unhide HOA2).pass o3.kept)
  clear o3 HO2 HT2 HOA2
  obtain ⟨qa, qc, rfl⟩ := (unhide HO3).form
  go_wp2_with fail
  refine (counts_any 2 1 3 w3 (by decide) (by decide) (by decide)).mono ?_
  rintro e w4 ⟨rfl, k4⟩
  rw [show cntA 2 1 3 = 1 from by decide +kernel, show cntB 2 1 3 = 2 from by decide +kernel, show cntE 2 1 3 = 0 from rfl]
  have HQ4 := hide ((unhide HO3).pass k4)
  have HP4 := hide ((unhide HP3).pass k4)
  have HL4 := hide ((unhide HOA3).pass k4)
  clear k4 HO3 HP3 HOA3
  obtain ⟨pb, po, rfl, prd⟩ := (unhide HP4).rd.range (by decide)
  obtain ⟨qb, qo, rfl, qrd⟩ := (unhide HQ4).rd.range (by decide)
  obtain ⟨ub, uo, rfl, urd⟩ := (unhide HL4).rd.range (by decide)
  have p0 := prd 0 (by decide)
  have q0 := qrd 0 (by decide)
  have q1 := qrd 1 (by decide)
  have u0 := urd 0 (by decide)
  have u1 := urd 1 (by decide)
  have u2 := urd 2 (by decide)
  simp only [List.getD_cons_zero, List.getD_cons_succ, Nat.zero_mul, Nat.add_zero, Nat.one_mul] at p0 q0 q1 u0 u1 u2
  have HND := hide (fun w' (hw' : Kept [] w4 w') => (refNode_any 4 e1 e2 w' (by decide) (e_dg e1 (by simp)) (e_dg e2 (by simp))).mono (fun e w2 h2 => ⟨h2.1, hw'.trans h2.2 (by simp)⟩) : ∀ w', Kept [] w4 w' → Calls Tryd.prog 30 #[.int .i64 ((4 : Nat) : Int), .agg (brow e1), .agg (brow e2)] w' fun e w2 => e = .returned (.agg (brow (nodS 4 e1 e2))) ∧ Kept [] w4 w2)
  have hN := (nodS_dg 4 e1 e2).1
  generalize nodS 4 e1 e2 = N at p0 HND hN
  have he1 : e1.length = 32 := rfl
  have he2 : e2.length = 32 := rfl
  have he3 : e3.length = 32 := rfl
  have u2 : w4.rangeAt ub (uo + 64) (e3.map u8) := u2
  have hqN := fun W => dig_eq W N N hN hN
  have hq2 := fun W => dig_eq W e2 e2 he2 he2
  have hq3 := fun W => dig_eq W e3 e3 he3 he3
  rw [decide_eq_true rfl] at hqN hq2 hq3
  have hne : ∀ p : Prop, (∀ w', Kept [] w4 w' → p) = p := fun p => propext ⟨fun h => h w4 (Kept.refl [] w4), fun h _ _ => h⟩
  go_wp2_with fail
  refine wp_region_keep (by kernel_rfl) (by kernel_rfl) ?_
  iterate 2 (go_big_quiet_step (fail))
  refine wpQuiet_mid rfl 41 _ rfl pb (po) rfl (N.map u8) _ (fun w' hw' => range_kept p0 hw' (by simp)) Tryd.underlying41 rfl (by rw [List.length_map, hN]; exact Tryd.size_dig) ?_
  simp only [Act.put, List.setIfInBounds_toArray, List.set_cons_succ, List.set_cons_zero]
  iterate 2 (go_big_quiet_step (fail))
  refine wpQuiet_mid rfl 41 _ rfl ub (uo) rfl (e1.map u8) _ (fun w' hw' => range_kept u0 hw' (by simp)) Tryd.underlying41 rfl (by rw [List.length_map, he1]; exact Tryd.size_dig) ?_
  simp only [Act.put, List.setIfInBounds_toArray, List.set_cons_succ, List.set_cons_zero]
  iterate 2 (go_big_quiet_step (fail))
  refine wpQuiet_mid rfl 41 _ rfl ub (uo + 32) rfl (e2.map u8) _ (fun w' hw' => range_kept u1 hw' (by simp)) Tryd.underlying41 rfl (by rw [List.length_map, he2]; exact Tryd.size_dig) ?_
  simp only [Act.put, List.setIfInBounds_toArray, List.set_cons_succ, List.set_cons_zero]
  go_big_quiet_want
  go_big_quiet_op
  apply Exists.intro
  refine ⟨fun w' hw' => ?_, ?_⟩
  · exact unhide HND w' hw'
  go_big_quiet_on
  refine wpQuiet_val rfl (.bool true) (fun w' hw' => run_eql 41 (.tmp 67) (.tmp 74) _ rfl (brow N) (brow N) rfl rfl w' true (by kernel_rfl) (hqN w')) ?_
  simp only [Act.put, List.setIfInBounds_toArray, List.set_cons_succ, List.set_cons_zero]
  iterate 3 (go_big_quiet_step (fail))
  refine wpQuiet_mid rfl 41 _ rfl qb (qo) rfl (e2.map u8) _ (fun w' hw' => range_kept q0 hw' (by simp)) Tryd.underlying41 rfl (by rw [List.length_map, he2]; exact Tryd.size_dig) ?_
  simp only [Act.put, List.setIfInBounds_toArray, List.set_cons_succ, List.set_cons_zero]
  iterate 2 (go_big_quiet_step (fail))
  refine wpQuiet_mid rfl 41 _ rfl ub (uo + 32) rfl (e2.map u8) _ (fun w' hw' => range_kept u1 hw' (by simp)) Tryd.underlying41 rfl (by rw [List.length_map, he2]; exact Tryd.size_dig) ?_
  simp only [Act.put, List.setIfInBounds_toArray, List.set_cons_succ, List.set_cons_zero]
  refine wpQuiet_val rfl (.bool true) (fun w' hw' => run_eql 41 (.tmp 79) (.tmp 82) _ rfl (brow e2) (brow e2) rfl rfl w' true (by kernel_rfl) (hq2 w')) ?_
  simp only [Act.put, List.setIfInBounds_toArray, List.set_cons_succ, List.set_cons_zero]
  iterate 4 (go_big_quiet_step (fail))
  refine wpQuiet_mid rfl 41 _ rfl qb (qo + 32) rfl (e3.map u8) _ (fun w' hw' => range_kept q1 hw' (by simp)) Tryd.underlying41 rfl (by rw [List.length_map, he3]; exact Tryd.size_dig) ?_
  simp only [Act.put, List.setIfInBounds_toArray, List.set_cons_succ, List.set_cons_zero]
  iterate 2 (go_big_quiet_step (fail))
  refine wpQuiet_mid rfl 41 _ rfl ub (uo + 64) rfl (e3.map u8) _ (fun w' hw' => range_kept u2 hw' (by simp)) Tryd.underlying41 rfl (by rw [List.length_map, he3]; exact Tryd.size_dig) ?_
  simp only [Act.put, List.setIfInBounds_toArray, List.set_cons_succ, List.set_cons_zero]
  refine wpQuiet_val rfl (.bool true) (fun w' hw' => run_eql 41 (.tmp 88) (.tmp 91) _ rfl (brow e3) (brow e3) rfl rfl w' true (by kernel_rfl) (hq3 w')) ?_
  simp only [Act.put, List.setIfInBounds_toArray, List.set_cons_succ, List.set_cons_zero]
  repeat (go_big_quiet_step (fail))
  refine wpQuiet_nil ?_
  intro w7 hw7
  have HK7 := hide ((unhide HL4).kept.trans hw7 (by simp))
  clear hw7
  go_wp2
  go_ret
  exact ⟨rfl, unhide HK7⟩
end Go.Proofs.YtecadmldnjlibaaDoor
/-
  Laws for drawn regions, by genreg.py. No program.
-/
namespace Go.Proofs.YtecadmldnjlibaaDoor
open Go Go.RowKit Go.BigFrame
set_option linter.unusedVariables false
set_option linter.unusedSimpArgs false
section
variable {P : Program} {Q : Exit → Act → World → Prop}
theorem wp_mu15 {id : Nat} {o0 o1 o2 o3 o4 o5 o6 o7 o8 o9 o10 o11 o12 o13 o14 : Oper} {a : Act} {w : World} (hm : P.follows .mixedOrders = true) (hs : Region.noSelect #[o0, o1, o2, o3, o4, o5, o6, o7, o8, o9, o10, o11, o12, o13, o14] = true)
    (f0 : Region.free .any #[o0, o1, o2, o3, o4, o5, o6, o7, o8, o9, o10, o11, o12, o13, o14] #[false, false, false, false, false, false, false, false, false, false, false, false, false, false, false] 0 = true) (r0 : (Region.ready .any #[o0, o1, o2, o3, o4, o5, o6, o7, o8, o9, o10, o11, o12, o13, o14] #[false, false, false, false, false, false, false, false, false, false, false, false, false, false, false]).contains 0 = true)
    (f1 : Region.free .any #[o0, o1, o2, o3, o4, o5, o6, o7, o8, o9, o10, o11, o12, o13, o14] #[true, false, false, false, false, false, false, false, false, false, false, false, false, false, false] 1 = true) (r1 : (Region.ready .any #[o0, o1, o2, o3, o4, o5, o6, o7, o8, o9, o10, o11, o12, o13, o14] #[true, false, false, false, false, false, false, false, false, false, false, false, false, false, false]).contains 1 = true)
    (f2 : Region.free .any #[o0, o1, o2, o3, o4, o5, o6, o7, o8, o9, o10, o11, o12, o13, o14] #[true, true, false, false, false, false, false, false, false, false, false, false, false, false, false] 2 = true) (r2 : (Region.ready .any #[o0, o1, o2, o3, o4, o5, o6, o7, o8, o9, o10, o11, o12, o13, o14] #[true, true, false, false, false, false, false, false, false, false, false, false, false, false, false]).contains 2 = true)
    (f3 : Region.free .any #[o0, o1, o2, o3, o4, o5, o6, o7, o8, o9, o10, o11, o12, o13, o14] #[true, true, true, false, false, false, false, false, false, false, false, false, false, false, false] 3 = true) (r3 : (Region.ready .any #[o0, o1, o2, o3, o4, o5, o6, o7, o8, o9, o10, o11, o12, o13, o14] #[true, true, true, false, false, false, false, false, false, false, false, false, false, false, false]).contains 3 = true)
    (f4 : Region.free .any #[o0, o1, o2, o3, o4, o5, o6, o7, o8, o9, o10, o11, o12, o13, o14] #[true, true, true, true, false, false, false, false, false, false, false, false, false, false, false] 4 = true) (r4 : (Region.ready .any #[o0, o1, o2, o3, o4, o5, o6, o7, o8, o9, o10, o11, o12, o13, o14] #[true, true, true, true, false, false, false, false, false, false, false, false, false, false, false]).contains 4 = true)
    (f5 : Region.free .any #[o0, o1, o2, o3, o4, o5, o6, o7, o8, o9, o10, o11, o12, o13, o14] #[true, true, true, true, true, false, false, false, false, false, false, false, false, false, false] 5 = true) (r5 : (Region.ready .any #[o0, o1, o2, o3, o4, o5, o6, o7, o8, o9, o10, o11, o12, o13, o14] #[true, true, true, true, true, false, false, false, false, false, false, false, false, false, false]).contains 5 = true)
    (f6 : Region.free .any #[o0, o1, o2, o3, o4, o5, o6, o7, o8, o9, o10, o11, o12, o13, o14] #[true, true, true, true, true, true, false, false, false, false, false, false, false, false, false] 6 = true) (r6 : (Region.ready .any #[o0, o1, o2, o3, o4, o5, o6, o7, o8, o9, o10, o11, o12, o13, o14] #[true, true, true, true, true, true, false, false, false, false, false, false, false, false, false]).contains 6 = true)
    (f7 : Region.free .any #[o0, o1, o2, o3, o4, o5, o6, o7, o8, o9, o10, o11, o12, o13, o14] #[true, true, true, true, true, true, true, false, false, false, false, false, false, false, false] 7 = true) (r7 : (Region.ready .any #[o0, o1, o2, o3, o4, o5, o6, o7, o8, o9, o10, o11, o12, o13, o14] #[true, true, true, true, true, true, true, false, false, false, false, false, false, false, false]).contains 7 = true)
    (f8 : Region.free .any #[o0, o1, o2, o3, o4, o5, o6, o7, o8, o9, o10, o11, o12, o13, o14] #[true, true, true, true, true, true, true, true, false, false, false, false, false, false, false] 8 = true) (r8 : (Region.ready .any #[o0, o1, o2, o3, o4, o5, o6, o7, o8, o9, o10, o11, o12, o13, o14] #[true, true, true, true, true, true, true, true, false, false, false, false, false, false, false]).contains 8 = true)
    (f9 : Region.free .any #[o0, o1, o2, o3, o4, o5, o6, o7, o8, o9, o10, o11, o12, o13, o14] #[true, true, true, true, true, true, true, true, true, false, false, false, false, false, false] 9 = true) (r9 : (Region.ready .any #[o0, o1, o2, o3, o4, o5, o6, o7, o8, o9, o10, o11, o12, o13, o14] #[true, true, true, true, true, true, true, true, true, false, false, false, false, false, false]).contains 9 = true)
    (f10 : Region.free .any #[o0, o1, o2, o3, o4, o5, o6, o7, o8, o9, o10, o11, o12, o13, o14] #[true, true, true, true, true, true, true, true, true, true, false, false, false, false, false] 10 = true) (r10 : (Region.ready .any #[o0, o1, o2, o3, o4, o5, o6, o7, o8, o9, o10, o11, o12, o13, o14] #[true, true, true, true, true, true, true, true, true, true, false, false, false, false, false]).contains 10 = true)
    (q_ : Region.ready .any #[o0, o1, o2, o3, o4, o5, o6, o7, o8, o9, o10, o11, o12, o13, o14] #[true, true, true, true, true, true, true, true, true, true, true, false, false, false, false] = [11])
    (q11_ : Region.ready .any #[o0, o1, o2, o3, o4, o5, o6, o7, o8, o9, o10, o11, o12, o13, o14] #[true, true, true, true, true, true, true, true, true, true, true, true, false, false, false] = [12])
    (q11_12_ : Region.ready .any #[o0, o1, o2, o3, o4, o5, o6, o7, o8, o9, o10, o11, o12, o13, o14] #[true, true, true, true, true, true, true, true, true, true, true, true, true, false, false] = [13])
    (f11_12_13_14 : Region.free .any #[o0, o1, o2, o3, o4, o5, o6, o7, o8, o9, o10, o11, o12, o13, o14] #[true, true, true, true, true, true, true, true, true, true, true, true, true, true, false] 14 = true) (r11_12_13_14 : (Region.ready .any #[o0, o1, o2, o3, o4, o5, o6, o7, o8, o9, o10, o11, o12, o13, o14] #[true, true, true, true, true, true, true, true, true, true, true, true, true, true, false]).contains 14 = true)
    (q11_12_13_ : Region.ready .any #[o0, o1, o2, o3, o4, o5, o6, o7, o8, o9, o10, o11, o12, o13, o14] #[true, true, true, true, true, true, true, true, true, true, true, true, true, true, true] = [])
    (g11 : o11.guard = none)    (g12 : o12.guard = none)    (g13 : o13.guard = none)
    (v0 v1 v2 v3 v4 v5 v6 v7 v8 v9 v10 : Value) (A0 A1 A2 A3 A4 A5 A6 A7 A8 A9 A10 : Act)
    (S : World → Prop)
    (I_ : World → Prop)
    (I11_ : Value → World → Prop)
    (I11_12_ : Value → Value → World → Prop)
    (I11_12_13_ : Value → Value → Value → World → Prop)
    (v14 : Value → Value)
    (p0 : a.put o0.dst v0 = A0) (hy0 : YieldsIf P #[o0, o1, o2, o3, o4, o5, o6, o7, o8, o9, o10, o11, o12, o13, o14] S o0 v0 a)
    (p1 : A0.put o1.dst v1 = A1) (hy1 : YieldsIf P #[o0, o1, o2, o3, o4, o5, o6, o7, o8, o9, o10, o11, o12, o13, o14] S o1 v1 A0)
    (p2 : A1.put o2.dst v2 = A2) (hy2 : YieldsIf P #[o0, o1, o2, o3, o4, o5, o6, o7, o8, o9, o10, o11, o12, o13, o14] S o2 v2 A1)
    (p3 : A2.put o3.dst v3 = A3) (hy3 : YieldsIf P #[o0, o1, o2, o3, o4, o5, o6, o7, o8, o9, o10, o11, o12, o13, o14] S o3 v3 A2)
    (p4 : A3.put o4.dst v4 = A4) (hy4 : YieldsIf P #[o0, o1, o2, o3, o4, o5, o6, o7, o8, o9, o10, o11, o12, o13, o14] S o4 v4 A3)
    (p5 : A4.put o5.dst v5 = A5) (hy5 : YieldsIf P #[o0, o1, o2, o3, o4, o5, o6, o7, o8, o9, o10, o11, o12, o13, o14] S o5 v5 A4)
    (p6 : A5.put o6.dst v6 = A6) (hy6 : YieldsIf P #[o0, o1, o2, o3, o4, o5, o6, o7, o8, o9, o10, o11, o12, o13, o14] S o6 v6 A5)
    (p7 : A6.put o7.dst v7 = A7) (hy7 : YieldsIf P #[o0, o1, o2, o3, o4, o5, o6, o7, o8, o9, o10, o11, o12, o13, o14] S o7 v7 A6)
    (p8 : A7.put o8.dst v8 = A8) (hy8 : YieldsIf P #[o0, o1, o2, o3, o4, o5, o6, o7, o8, o9, o10, o11, o12, o13, o14] S o8 v8 A7)
    (p9 : A8.put o9.dst v9 = A9) (hy9 : YieldsIf P #[o0, o1, o2, o3, o4, o5, o6, o7, o8, o9, o10, o11, o12, o13, o14] S o9 v9 A8)
    (p10 : A9.put o10.dst v10 = A10) (hy10 : YieldsIf P #[o0, o1, o2, o3, o4, o5, o6, o7, o8, o9, o10, o11, o12, o13, o14] S o10 v10 A9)
    (i0 : I_ w.drew)
    (hIS : (∀ w', I_  w' → S w') ∧ (∀ (u11 : Value) w', I11_ u11 w' → S w') ∧ (∀ (u11 u12 : Value) w', I11_12_ u11 u12 w' → S w') ∧ (∀ (u11 u12 u13 : Value) w', I11_12_13_ u11 u12 u13 w' → S w'))
    (s_11 : ∀ w', I_  w' → ∀ K : Act → World → Prop, (∀ (u11 : Value) w2, I11_ u11 w2 → K (A10.put o11.dst u11) w2) → o11.wp P A10 w' K (NoPanic Q))
    (s11_12 : ∀ (u11 : Value) w', I11_ u11 w' → ∀ K : Act → World → Prop, (∀ (u12 : Value) w2, I11_12_ u11 u12 w2 → K ((A10.put o11.dst u11).put o12.dst u12) w2) → o12.wp P (A10.put o11.dst u11) w' K (NoPanic Q))
    (s11_12_13 : ∀ (u11 u12 : Value) w', I11_12_ u11 u12 w' → ∀ K : Act → World → Prop, (∀ (u13 : Value) w2, I11_12_13_ u11 u12 u13 w2 → K (((A10.put o11.dst u11).put o12.dst u12).put o13.dst u13) w2) → o13.wp P ((A10.put o11.dst u11).put o12.dst u12) w' K (NoPanic Q))
    (y11_12_13_14 : ∀ (u11 u12 u13 : Value) w', I11_12_13_ u11 u12 u13 w' → YieldsIf P #[o0, o1, o2, o3, o4, o5, o6, o7, o8, o9, o10, o11, o12, o13, o14] S o14 (v14 u13) (((A10.put o11.dst u11).put o12.dst u12).put o13.dst u13))
    (h : ∀ (u11 u12 u13 : Value) w', I11_12_13_ u11 u12 u13 w' → Q .normal ((((A10.put o11.dst u11).put o12.dst u12).put o13.dst u13).put o14.dst (v14 u13)) w') :
    (Code.region id #[o0, o1, o2, o3, o4, o5, o6, o7, o8, o9, o10, o11, o12, o13, o14] true).wp P Q a w := by
  subst p0 p1 p2 p3 p4 p5 p6 p7 p8 p9 p10
  obtain ⟨z_, z11_, z11_12_, z11_12_13_⟩ := hIS
  refine wp_region_noPanic ?_
  refine wp_region_held_drew (S := S) hm (z_ _ i0) (fun hH => ?_)
  show wpAnyH P .any #[o0, o1, o2, o3, o4, o5, o6, o7, o8, o9, o10, o11, o12, o13, o14] (NoPanic Q) S 15 #[false, false, false, false, false, false, false, false, false, false, false, false, false, false, false] a w.drew
  refine wpAnyH_take (i := 0) (oi := o0) rfl hs f0 r0 (fun _ _ _ h => h) hy0 hH ?_
  refine wpAnyH_take (i := 1) (oi := o1) rfl hs f1 r1 (fun _ _ _ h => h) hy1 hH ?_
  refine wpAnyH_take (i := 2) (oi := o2) rfl hs f2 r2 (fun _ _ _ h => h) hy2 hH ?_
  refine wpAnyH_take (i := 3) (oi := o3) rfl hs f3 r3 (fun _ _ _ h => h) hy3 hH ?_
  refine wpAnyH_take (i := 4) (oi := o4) rfl hs f4 r4 (fun _ _ _ h => h) hy4 hH ?_
  refine wpAnyH_take (i := 5) (oi := o5) rfl hs f5 r5 (fun _ _ _ h => h) hy5 hH ?_
  refine wpAnyH_take (i := 6) (oi := o6) rfl hs f6 r6 (fun _ _ _ h => h) hy6 hH ?_
  refine wpAnyH_take (i := 7) (oi := o7) rfl hs f7 r7 (fun _ _ _ h => h) hy7 hH ?_
  refine wpAnyH_take (i := 8) (oi := o8) rfl hs f8 r8 (fun _ _ _ h => h) hy8 hH ?_
  refine wpAnyH_take (i := 9) (oi := o9) rfl hs f9 r9 (fun _ _ _ h => h) hy9 hH ?_
  refine wpAnyH_take (i := 10) (oi := o10) rfl hs f10 r10 (fun _ _ _ h => h) hy10 hH ?_
  generalize (((((((((((a.put o0.dst v0).put o1.dst v1).put o2.dst v2).put o3.dst v3).put o4.dst v4).put o5.dst v5).put o6.dst v6).put o7.dst v7).put o8.dst v8).put o9.dst v9).put o10.dst v10) = B at *
  have wa11 : ∀ y, Region.wanted o11 y = true := fun y => by unfold Region.wanted; rw [g11]
  have wa12 : ∀ y, Region.wanted o12 y = true := fun y => by unfold Region.wanted; rw [g12]
  have wa13 : ∀ y, Region.wanted o13 y = true := fun y => by unfold Region.wanted; rw [g13]
  have t11_12_13_ : ∀ (u11 u12 u13 : Value) w', I11_12_13_ u11 u12 u13 w' → wpAnyH P .any #[o0, o1, o2, o3, o4, o5, o6, o7, o8, o9, o10, o11, o12, o13, o14] (NoPanic Q) S 0 #[true, true, true, true, true, true, true, true, true, true, true, true, true, true, true] ((((B.put o11.dst u11).put o12.dst u12).put o13.dst u13).put o14.dst (v14 u13)) w' := by
    intro u11 u12 u13 w0 i0
    exact ⟨q11_12_13_, NoPanic.normal (h u11 u12 u13 w0 i0)⟩
  have t11_12_ : ∀ (u11 u12 : Value) w', I11_12_ u11 u12 w' → wpAnyH P .any #[o0, o1, o2, o3, o4, o5, o6, o7, o8, o9, o10, o11, o12, o13, o14] (NoPanic Q) S 2 #[true, true, true, true, true, true, true, true, true, true, true, true, true, false, false] ((B.put o11.dst u11).put o12.dst u12) w' := by
    intro u11 u12 w0 i0
    refine wpAnyH_ready (rs := [13]) q11_12_ (by simp) (AllReadyH.cons (o := o13) rfl (fun K hK => ?_) AllReadyH.nil)
    · rw [if_pos (wa13 _)]
      refine s11_12_13 u11 u12 w0 i0 K (fun u13 w1 i1 => hK.out _ _ (z11_12_13_ u11 u12 u13 w1 i1) (fun _ => ?_))
      clear hK
      refine wpAnyH_take (i := 14) (oi := o14) rfl hs f11_12_13_14 r11_12_13_14 (fun _ _ _ h => h) (y11_12_13_14 u11 u12 u13 w1 i1) (z11_12_13_ u11 u12 u13 w1 i1) ?_
      exact t11_12_13_ u11 u12 u13 w1 i1
  have t11_ : ∀ (u11 : Value) w', I11_ u11 w' → wpAnyH P .any #[o0, o1, o2, o3, o4, o5, o6, o7, o8, o9, o10, o11, o12, o13, o14] (NoPanic Q) S 3 #[true, true, true, true, true, true, true, true, true, true, true, true, false, false, false] (B.put o11.dst u11) w' := by
    intro u11 w0 i0
    refine wpAnyH_ready (rs := [12]) q11_ (by simp) (AllReadyH.cons (o := o12) rfl (fun K hK => ?_) AllReadyH.nil)
    · rw [if_pos (wa12 _)]
      refine s11_12 u11 w0 i0 K (fun u12 w1 i1 => hK.out _ _ (z11_12_ u11 u12 w1 i1) (fun _ => ?_))
      clear hK
      exact t11_12_ u11 u12 w1 i1
  have t_ : ∀ w', I_  w' → wpAnyH P .any #[o0, o1, o2, o3, o4, o5, o6, o7, o8, o9, o10, o11, o12, o13, o14] (NoPanic Q) S 4 #[true, true, true, true, true, true, true, true, true, true, true, false, false, false, false] B w' := by
    intro w0 i0
    refine wpAnyH_ready (rs := [11]) q_ (by simp) (AllReadyH.cons (o := o11) rfl (fun K hK => ?_) AllReadyH.nil)
    · rw [if_pos (wa11 _)]
      refine s_11  w0 i0 K (fun u11 w1 i1 => hK.out _ _ (z11_ u11 w1 i1) (fun _ => ?_))
      clear hK
      exact t11_ u11 w1 i1
  exact t_ w.drew i0

end
end Go.Proofs.YtecadmldnjlibaaDoor
namespace Go.Proofs.YtecadmldnjlibaaDoor
open Go.RowKit Go.BigFrame
set_option linter.unusedVariables false
set_option linter.unusedSimpArgs false

set_option maxRecDepth 100000 in
set_option maxHeartbeats 1000000 in
/-- Lists that read alike are alike. -/
theorem samep_any (va vb : Value) (ds : List (List Nat)) (w : World) (ha : RdD w va ds) (hb : RdD w vb ds) :
    Calls Tryd.prog 21 #[va, vb] w fun e w' => e = .returned (.bool true) ∧ Kept [] w w' := by
  have HA := hide ha
  have HB := hide hb
  obtain ⟨aa, an, ac, rfl, a1, a2, a3, a4, a5⟩ := ha
  obtain ⟨ba, bn, bc, rfl, b1, b2, b3, b4, b5⟩ := hb
  subst a1
  subst b1
  clear a4 a5 b4 b5
  go_enter Tryd.func21, Tryd.ntmps21
  go_wp2_with fail
  go_loopw [5] (fun t5 wr => ∃ (i : Nat), i ≤ ds.length ∧ t5 = .int .i64 (i : Int) ∧ Hid (Kept [] w wr)) (fun t _ => ds.length - (intOf t).toNat)
  case atStart => exact ⟨0, Nat.zero_le _, rfl, hide (Kept.refl _ _)⟩
  case round =>
    obtain ⟨i, hi, rfl, HK⟩ := hrel
    by_cases hlt : i < ds.length
    · have hlt' : (i : Int) < (ds.length : Int) := by omega
      obtain ⟨b, o, rfl, hc⟩ := ((unhide HA).old (unhide HK)).range (by omega)
      obtain ⟨b', o', rfl, hc'⟩ := ((unhide HB).old (unhide HK)).range (by omega)
      have r1 := hc i hlt
      have r2 := hc' i hlt
      have hdg := (unhide HA).dg (d := ds.getD i []) (by rw [List.getD_eq_getElem?_getD, List.getElem?_eq_getElem hlt]; exact List.getElem_mem hlt)
      generalize ds.getD i [] = d at r1 r2 hdg
      have hdl := hdg.1
      have hq := fun W => dig_eq W d d hdl hdl
      rw [decide_eq_true rfl] at hq
      have ia : ¬ (i : Int) < 0 := by omega
      have ib : ¬ (ds.length : Int) ≤ i := by omega
      clear hc hc' hdg
      have hne : ∀ p : Prop, (∀ w', Kept [] wr w' → p) = p := fun p => propext ⟨fun h => h wr (Kept.refl [] wr), fun h _ _ => h⟩
      go_wp2_with fail
      refine wp_region_keep (by kernel_rfl) (by kernel_rfl) ?_
      iterate 3 (go_big_quiet_step (fail))
      refine wpQuiet_mid rfl 41 _ rfl b (o + i * 32) rfl (d.map u8) _ (fun w' hw' => range_kept r1 hw' (by simp)) Tryd.underlying41 rfl (by rw [List.length_map, hdl]; exact Tryd.size_dig) ?_
      simp only [Act.put, List.setIfInBounds_toArray, List.set_cons_succ, List.set_cons_zero]
      iterate 3 (go_big_quiet_step (fail))
      refine wpQuiet_mid rfl 41 _ rfl b' (o' + i * 32) rfl (d.map u8) _ (fun w' hw' => range_kept r2 hw' (by simp)) Tryd.underlying41 rfl (by rw [List.length_map, hdl]; exact Tryd.size_dig) ?_
      simp only [Act.put, List.setIfInBounds_toArray, List.set_cons_succ, List.set_cons_zero]
      refine wpQuiet_val rfl (.bool false) (fun w' _ => run_neq 41 _ _ _ rfl (d.map u8).toArray (d.map u8).toArray rfl rfl w' true (by kernel_rfl) (hq w')) ?_
      simp only [Act.put, List.setIfInBounds_toArray, List.set_cons_succ, List.set_cons_zero]
      refine wpQuiet_nil ?_
      intro w6 hw6
      have HK6 := hide ((unhide HK).trans hw6 (by simp))
      clear hw6 hne hq r1 r2
      go_wp2_with fail
      refine ⟨⟨i + 1, by omega, by simp, HK6⟩, ?_⟩
      simp [intOf]
      omega
    · have hlt' : ¬ (i : Int) < (ds.length : Int) := by omega
      go_wp2_with fail
      go_ret
      exact ⟨rfl, unhide HK⟩

theorem run_mid {P : Program} {op : Oper} {a : Act} (ty : TypeId) (x : Operand) (ho : op.op = .load ty x) (b off : Nat) (hx : a.eval x = .pointer (some ⟨b, off, none⟩)) (cs : List Value) (d : TypeDesc) (w : World) (hg : w.rangeAt b off cs)
    (hu : P.underlying ty = some d) (hd : d.isRow = true) (hi : (P.info? ty).map (·.size) = some cs.length) : (execOp a.eval op).run P w = .ok (.value (.agg cs.toArray)) w := by
  unfold execOp
  simp only [ho]
  have := run_loadVar_mid (P := P) w b off ty cs d hg hu hd hi
  simp only [hx, Instr.loadAt, Instr.sureAddr, Sem.run_bind, Sem.run_pure, Result.andThen_ok, this]

theorem wp_appendP {P : Program} {o : Oper} {a : Act} {w : World} {K : Act → World → Prop} {Q : Exit → Act → World → Prop} {s x : Operand} {t : TypeId} (ho : o.op = .call { callee := .builtin .append, args := #[s, x], argTypes := #[t, t] }) (hty : o.type = t) {v u r : Value} {w1 : World} (hs : a.eval s = v) (hx : a.eval x = u)
    (hrun : (Builtin.append_ #[t, t] t #[v, u]).run P w = .ok r w1) (hK : K (a.put o.dst r) w1) : o.wp P a w K Q := by
  unfold Oper.wp execOp
  simp only [ho, hty, resolve, invoke, builtin, Sem.run_bind, Sem.run_pure, Result.andThen_ok, List.map_toArray, List.map_cons, List.map_nil, hs, hx, hrun]
  exact hK

theorem upL_dg (z : Int) : ∀ (ls : List (List Nat)), (∀ d ∈ ls, Dg d) → ∀ d ∈ upL z ls, Dg d
  | [], _, d, hd => by simp [upL] at hd
  | [a], h, d, hd => h d (by simpa [upL] using hd)
  | a :: b :: r, h, d, hd => by
    rw [upL, List.mem_cons] at hd
    rcases hd with rfl | hd
    · exact nodS_dg z _ _
    · exact upL_dg z r (fun x hx => h x (by simp [hx])) d hd

set_option maxRecDepth 100000 in
set_option maxHeartbeats 1000000 in
theorem up_any (k : Nat) (hk : 1 ≤ k ∧ k ≤ 32) (lv : Value) (ls : List (List Nat)) (w : World) (hl : RdD w lv ls) (hN : ls.length ≤ 1000000) :
    Calls Tryd.prog 61 #[.int .i64 (k : Int), lv] w fun e w' => ∃ u, e = .returned u ∧ OwD w w' u (upL (k : Int) ls) := by
  have HL := hide hl
  have HDG := hide (fun d hd => hl.dg (d := d) hd)
  have HUL := hide (upL_len (k : Int) ls)
  obtain ⟨la, ll, lc, rfl, l1, l2, l3, l4, l5⟩ := hl
  subst l1
  have HC5 := hide (fun h => l5 h)
  clear l4 l5
  go_enter Tryd.func61, Tryd.ntmps61
  go_wp2_with fail
  go_loopw [5, 6] (fun t5 t6 wr => ∃ (j : Nat), 2 * j ≤ ls.length + 1 ∧ t6 = .int .i64 ((2 * j : Nat) : Int) ∧ Hid (OwD w wr t5 ((upL (k : Int) ls).take j))) (fun _ t _ => ls.length + 1 - (intOf t).toNat)
  case atStart => exact ⟨0, by omega, rfl, hide (OwD.nil _)⟩
  case round =>
    obtain ⟨j, hj, rfl, HO⟩ := hrel
    by_cases hlt : 2 * j < ls.length
    · obtain ⟨b, o, hla, hc⟩ := unhide HC5 (by omega)
      subst hla
      have HAT := hide (upL_at (k : Int) ls j)
      have r0 := hc (2 * j) hlt
      have hbw : b < w.heap.size := by
        have hd0 := (unhide HDG (ls.getD (2 * j) []) (by rw [List.getD_eq_getElem?_getD, List.getElem?_eq_getElem hlt]; exact List.getElem_mem hlt)).1
        cases hx : ls.getD (2 * j) [] with
        | nil => rw [hx] at hd0; simp at hd0
        | cons y r => rw [hx] at r0; exact block_lt_of_cell (r0 0 _ rfl)
      have HLN := hide (by rw [List.length_take]; omega : ((upL (k : Int) ls).take j).length ≤ j)
      have hdg0 := unhide HDG (ls.getD (2 * j) []) (by rw [List.getD_eq_getElem?_getD, List.getElem?_eq_getElem hlt]; exact List.getElem_mem hlt)
      obtain ⟨i, hij⟩ : ∃ i, 2 * j = i := ⟨_, rfl⟩
      rw [hij] at hlt r0 hdg0 HAT
      have HIJ := hide hij
      have hlt' : (i : Int) < (ls.length : Int) := by omega
      have ia : ¬ (i : Int) < 0 := by omega
      have ib : ¬ (ls.length : Int) ≤ i := by omega
      have hi1 : IntKind.i64.wrap ((i : Int) + 1) = (i : Int) + 1 := by simp [IntKind.wrap, IntKind.signed, IntKind.bits]; omega
      have hi2 : IntKind.i64.wrap ((i : Int) + 2) = (i : Int) + 2 := by simp [IntKind.wrap, IntKind.signed, IntKind.bits]; omega
      rw [hij]
      clear hij
      have r0 := range_kept r0 (unhide HO).kept (by simp)
      by_cases hbr : i + 1 < ls.length
      · have hbr' : (i : Int) + 1 < (ls.length : Int) := by omega
        have hdg1 := unhide HDG (ls.getD (i + 1) []) (by rw [List.getD_eq_getElem?_getD, List.getElem?_eq_getElem hbr]; exact List.getElem_mem hbr)
        have r1 := range_kept (hc (i + 1) hbr) (unhide HO).kept (by simp)
        rw [if_pos hbr] at HAT
        generalize ls.getD i [] = d0 at r0 hdg0 HAT
        generalize ls.getD (i + 1) [] = d1 at r1 hdg1 HAT
        have HSN := hide (by rw [List.take_add_one, unhide HAT]; rfl : (upL (k : Int) ls).take (j + 1) = (upL (k : Int) ls).take j ++ [nodS (k : Int) d0 d1])
        have ic : ¬ (i : Int) + 1 < 0 := by omega
        have id' : ¬ (ls.length : Int) ≤ (i : Int) + 1 := by omega
        have HND := hide (fun W => refNode_any k d0 d1 W hk hdg0 hdg1)
        have HDX := hide (nodS_dg (k : Int) d0 d1)
        generalize nodS (k : Int) d0 d1 = X at HND HDX HSN
        generalize (upL (k : Int) ls).take j = ds at HO HSN HLN
        obtain ⟨ua, ucap, rfl⟩ := owns_form (unhide HO).own
        have hxl := (unhide HDX).1
        have h0l := hdg0.1
        have h1l := hdg1.1
        have HR0 := hide r0
        have HR1 := hide r1
        have hnb : b ∉ (Value.slice ua ds.length ucap).ownBlock.toList := by
          intro hm
          have := ((unhide HO).own.lt b (by simpa using hm)).1
          omega
        clear hc r0 r1 HAT
        go_wp2_with fail
        refine wp_mu15 (by kernel_rfl) (by kernel_rfl) (by kernel_rfl) (by kernel_rfl) (by kernel_rfl) (by kernel_rfl) (by kernel_rfl) (by kernel_rfl) (by kernel_rfl) (by kernel_rfl) (by kernel_rfl) (by kernel_rfl) (by kernel_rfl) (by kernel_rfl) (by kernel_rfl) (by kernel_rfl) (by kernel_rfl) (by kernel_rfl) (by kernel_rfl) (by kernel_rfl) (by kernel_rfl) (by kernel_rfl) (by kernel_rfl) (by kernel_rfl) (by kernel_rfl) (by kernel_rfl) (by kernel_rfl) (by kernel_rfl) (by kernel_rfl) (by kernel_rfl) rfl rfl rfl
          (.slice ua ds.length ucap) (.int .i64 (k : Int)) (.slice (some ⟨b, o, none⟩) ls.length lc) (.int .i64 (i : Int)) (.pointer (some ⟨b, o + i * 32, none⟩)) (.agg (d0.map Go.Proofs.YtecadmldnjlibaaDoor.u8).toArray) (.slice (some ⟨b, o, none⟩) ls.length lc) (.int .i64 (i : Int)) (.int .i64 ((i : Int) + 1)) (.pointer (some ⟨b, o + (i + 1) * 32, none⟩)) (.agg (d1.map Go.Proofs.YtecadmldnjlibaaDoor.u8).toArray) _ _ _ _ _ _ _ _ _ _ _
          (fun w' => Kept (Value.slice ua ds.length ucap).ownBlock.toList wr w')
          (fun w' => Kept [] wr w')
          (fun u11 w' => u11 = .agg (X.map Go.Proofs.YtecadmldnjlibaaDoor.u8).toArray ∧ Kept [] wr w')
          (fun u11 u12 w' => u11 = .agg (X.map Go.Proofs.YtecadmldnjlibaaDoor.u8).toArray ∧ (∃ H, u12 = .slice (some ⟨H, 0, none⟩) 1 1 ∧ w'.heap[H]? = some (.cells (brow X) 41 (0, 0))) ∧ Kept [] wr w')
          (fun u11 u12 u13 w' => (∃ aa cc, u13 = .slice aa (ds.length + 1) cc) ∧ OwD w w' u13 (ds ++ [X]) ∧ Kept (Value.slice ua ds.length ucap).ownBlock.toList wr w')
          (fun u13 => u13)
          (by simp only [Act.put, List.setIfInBounds_toArray, List.set_cons_zero, List.set_cons_succ]; rfl) (by exact Or.inl ⟨by rfl, fun W' hW' => by go_simp⟩)
          (by simp only [Act.put, List.setIfInBounds_toArray, List.set_cons_zero, List.set_cons_succ]; rfl) (by exact Or.inl ⟨by rfl, fun W' hW' => by go_simp⟩)
          (by simp only [Act.put, List.setIfInBounds_toArray, List.set_cons_zero, List.set_cons_succ]; rfl) (by exact Or.inl ⟨by rfl, fun W' hW' => by go_simp⟩)
          (by simp only [Act.put, List.setIfInBounds_toArray, List.set_cons_zero, List.set_cons_succ]; rfl) (by exact Or.inl ⟨by rfl, fun W' hW' => by go_simp⟩)
          (by simp only [Act.put, List.setIfInBounds_toArray, List.set_cons_zero, List.set_cons_succ]; rfl) (by exact Or.inl ⟨by rfl, fun W' hW' => by go_simp⟩)
          (by simp only [Act.put, List.setIfInBounds_toArray, List.set_cons_zero, List.set_cons_succ]; rfl) (by exact Or.inl ⟨by rfl, fun W' hW' => run_mid 41 (.tmp 22) rfl b (o + i * 32) rfl (d0.map Go.Proofs.YtecadmldnjlibaaDoor.u8) _ W' (range_kept (unhide HR0) hW' hnb) Tryd.underlying41 rfl (by rw [List.length_map, h0l]; exact Tryd.size_dig)⟩)
          (by simp only [Act.put, List.setIfInBounds_toArray, List.set_cons_zero, List.set_cons_succ]; rfl) (by exact Or.inl ⟨by rfl, fun W' hW' => by go_simp⟩)
          (by simp only [Act.put, List.setIfInBounds_toArray, List.set_cons_zero, List.set_cons_succ]; rfl) (by exact Or.inl ⟨by rfl, fun W' hW' => by go_simp⟩)
          (by simp only [Act.put, List.setIfInBounds_toArray, List.set_cons_zero, List.set_cons_succ]; rfl) (by exact Or.inl ⟨by rfl, fun W' hW' => by go_simp⟩)
          (by simp only [Act.put, List.setIfInBounds_toArray, List.set_cons_zero, List.set_cons_succ]; rfl) (by exact Or.inl ⟨by rfl, fun W' hW' => by go_simp⟩)
          (by simp only [Act.put, List.setIfInBounds_toArray, List.set_cons_zero, List.set_cons_succ]; rfl) (by exact Or.inl ⟨by rfl, fun W' hW' => run_mid 41 (.tmp 27) rfl b (o + (i + 1) * 32) rfl (d1.map Go.Proofs.YtecadmldnjlibaaDoor.u8) _ W' (range_kept (unhide HR1) hW' hnb) Tryd.underlying41 rfl (by rw [List.length_map, h1l]; exact Tryd.size_dig)⟩)
          (Kept.refl [] wr).drew
          ⟨fun w' h => h.mono (by simp), fun u w' h => h.2.mono (by simp), fun u y w' h => h.2.2.mono (by simp), fun u y x w' h => h.2.2⟩
          (by intro w' i9 K hK; exact wp_callN rfl Tryd.call30 [.int .i64 (k : Int), .agg (brow d0), .agg (brow d1)] rfl (unhide HND w') (fun e w2 h => ⟨_, h.1, hK _ _ ⟨rfl, i9.trans h.2 (by simp)⟩⟩))
          (by
            intro u11 w' hh K hK
            simp only [Act.put, List.setIfInBounds_toArray, List.set_cons_zero, List.set_cons_succ] at hK ⊢
            obtain ⟨rfl, i9⟩ := hh
            have hfs : ∀ A : Array Value, (List.foldl (fun cs x => cs.setIfInBounds x.snd x.fst) A (List.map Go.Proofs.YtecadmldnjlibaaDoor.u8 X).zipIdx).size = A.size := fun A => fold_size _ A 0
            unfold Oper.wp execOp
            go_simp
            rw [zb32, one_digP X hxl]
            exact hK _ _ ⟨rfl, ⟨_, rfl, heap_alloc_new _ _⟩, i9.alloc _⟩)
          (by
            intro u11 u12 w' hh K hK
            simp only [Act.put, List.setIfInBounds_toArray, List.set_cons_zero, List.set_cons_succ] at hK ⊢
            obtain ⟨rfl, ⟨H, rfl, hH⟩, i9⟩ := hh
            have hO := (unhide HO).pass i9
            obtain ⟨ao1, cap1, w1, hrun, h2, h3⟩ := appendD w' w.heap.size (.slice ua ds.length ucap) ds [X] (some ⟨H, 0, none⟩) 1 1 hO.own (RdD.oneP hH (unhide HDX)) (by have := unhide HLN; simp; omega) hO.kept.size
            exact wp_appendP rfl rfl rfl rfl hrun (hK _ _ ⟨⟨_, _, rfl⟩, hO.push (unhide HDX) h2 h3, (i9.mono (by simp)).grown h3 (by intro k hk; left; simp [hk])⟩))
          (by rintro u11 u12 u13 w' ⟨⟨aa, cc, rfl⟩, _⟩; exact Or.inl ⟨by rfl, fun W' hW' => by go_simp⟩)
          ?_
        rintro u11 u12 u13 X4 ⟨⟨aa, cc, rfl⟩, hO4, k4⟩
        simp only [Act.put, List.setIfInBounds_toArray, List.set_cons_zero, List.set_cons_succ]
        have HO4 := hide hO4
        clear hO4 k4
        go_wp2_with (first | simp only [hi2])
        refine ⟨⟨j + 1, by have := unhide HIJ; omega, by have := unhide HIJ; simp; omega, by rw [unhide HSN]; exact HO4⟩, ?_⟩
        simp [intOf]
        omega
      · have hbr' : ¬ (i : Int) + 1 < (ls.length : Int) := by omega
        rw [if_neg hbr, if_pos hlt] at HAT
        generalize ls.getD i [] = X at r0 hdg0 HAT
        have HSN := hide (by rw [List.take_add_one, unhide HAT]; rfl : (upL (k : Int) ls).take (j + 1) = (upL (k : Int) ls).take j ++ [X])
        generalize (upL (k : Int) ls).take j = ds at HO HSN HLN
        obtain ⟨ua, ucap, rfl⟩ := owns_form (unhide HO).own
        have HDX := hide hdg0
        have hxl := hdg0.1
        have HR0 := hide r0
        have HOC := hide ((unhide HO).pass ((Kept.refl [] wr).alloc (.cells (brow X) 41)))
        have HNC := hide (heap_alloc_new wr (.cells (brow X) 41))
        clear hc r0 HAT hdg0
        go_wp2_with (first
          | simp only [hi2]
          | (refine wpList_load_mid rfl 41 _ rfl b (o + i * 32) rfl (X.map Go.Proofs.YtecadmldnjlibaaDoor.u8) _ (unhide HR0) Tryd.underlying41 rfl (by rw [List.length_map, hxl]; exact Tryd.size_dig) ?_)
          | (at_builtin; rw [zb32, one_digP X hxl]; refine wpList_appendD rfl _ _ rfl rfl (wr.alloc (.cells (brow X) 41)) w.heap.size (.slice ua ds.length ucap) ds [X] (some ⟨wr.heap.size, 0, none⟩) 1 1 (unhide HOC).own (RdD.oneP (unhide HNC) (unhide HDX)) (by have := unhide HLN; simp; omega) (unhide HOC).kept.size rfl rfl ?_; intro ao3 cap3 w3 HO3 HG3; have HO4 := hide ((unhide HOC).push (unhide HDX) (unhide HO3) (unhide HG3)); clear HO3 HG3))
        refine ⟨⟨j + 1, by have := unhide HIJ; omega, by have := unhide HIJ; simp; omega, by rw [unhide HSN]; exact HO4⟩, ?_⟩
        simp [intOf]
        omega
    · have hlt' : ¬ ((2 * j : Nat) : Int) < (ls.length : Int) := by omega
      have HE := hide (by rw [List.take_of_length_le (by rw [unhide HUL]; omega)] : (upL (k : Int) ls).take j = upL (k : Int) ls)
      rw [unhide HE] at HO
      go_wp2_with fail
      go_ret
      exact ⟨_, rfl, unhide HO⟩
end Go.Proofs.YtecadmldnjlibaaDoor
namespace Go.Proofs.YtecadmldnjlibaaDoor
open Go.RowKit Go.BigFrame
set_option linter.unusedVariables false
set_option linter.unusedSimpArgs false

theorem fx_c1 : cntA 18446744073709551614 18446744073709551614 18446744073709551615 = 63 ∧ cntB 18446744073709551614 18446744073709551614 18446744073709551615 = 64 ∧ cntE 18446744073709551614 18446744073709551614 18446744073709551615 = 0 := by decide +kernel
theorem fx_c2 : cntA 0 1 9223372036854775808 = 63 ∧ cntB 0 1 9223372036854775808 = 63 ∧ cntE 0 1 9223372036854775808 = 0 := by decide +kernel

theorem fx_cst (i m n : Nat) (a b e : Int) (I M N : Int) (hI : I = (i : Int)) (hM : M = (m : Int)) (hN : N = (n : Int)) (W : World) (hi : i < 18446744073709551616) (hm : m < 18446744073709551616) (hn : n < 18446744073709551616) (h : cntA i m n = a ∧ cntB i m n = b ∧ cntE i m n = e) :
    Calls Tryd.prog 22 #[.int .u64 I, .int .u64 M, .int .u64 N] W fun x w' => x = .returned (.tuple #[.int .i64 a, .int .i64 b, .int .i64 e]) ∧ Kept [] W w' := by
  subst hI hM hN
  obtain ⟨rfl, rfl, rfl⟩ := h
  exact counts_any i m n W hi hm hn

theorem fx_k1 (W : World) : Calls Tryd.prog 22 #[.int .u64 18446744073709551614, .int .u64 18446744073709551614, .int .u64 18446744073709551615] W fun x w' => x = .returned (.tuple #[.int .i64 63, .int .i64 64, .int .i64 0]) ∧ Kept [] W w' :=
  fx_cst 18446744073709551614 18446744073709551614 18446744073709551615 63 64 0 _ _ _ (by decide) (by decide) (by decide) W (by decide) (by decide) (by decide) fx_c1
theorem fx_k2 (W : World) : Calls Tryd.prog 22 #[.int .u64 0, .int .u64 1, .int .u64 9223372036854775808] W fun x w' => x = .returned (.tuple #[.int .i64 63, .int .i64 63, .int .i64 0]) ∧ Kept [] W w' :=
  fx_cst 0 1 9223372036854775808 63 63 0 _ _ _ (by decide) (by decide) (by decide) W (by decide) (by decide) (by decide) fx_c2
end Go.Proofs.YtecadmldnjlibaaDoor
namespace Go.Proofs.YtecadmldnjlibaaDoor
open Go.RowKit Go.BigFrame
set_option linter.unusedVariables false
set_option linter.unusedSimpArgs false

def fxD (i : Nat) : List Nat := (10 + i) :: 9 :: List.replicate 30 0
def fxL (n : Nat) : List (List Nat) := (List.range n).map fxD
theorem fxD_dg {i : Nat} (h : i < 7) : Dg (fxD i) := ⟨by simp [fxD], by
  intro x hx
  simp only [fxD, List.mem_cons, List.mem_replicate] at hx
  rcases hx with rfl | rfl | ⟨_, rfl⟩ <;> omega⟩
theorem fxL_dg {n : Nat} (h : n ≤ 7) : ∀ d ∈ fxL n, Dg d := by
  intro d hd
  obtain ⟨j, hj, rfl⟩ := List.mem_map.1 hd
  exact fxD_dg (by have := List.mem_range.1 hj; omega)
theorem fxL_cut : (fxL 7).map (cutL 2) = fxL 7 := by decide +kernel
theorem fx_built (x : Int) : Tryd.prog.built 41 [(0, .int .u8 x), (1, .int .u8 9)] = some (.int .u8 x :: .int .u8 9 :: List.replicate 30 (.int .u8 0)).toArray := by kernel_rfl
theorem fxD_brow (i : Nat) : brow (fxD i) = (.int .u8 (10 + (i : Int)) :: .int .u8 9 :: List.replicate 30 (.int .u8 0)).toArray := by
  simp [brow, fxD, u8]
theorem fx_in0 : pathF 0 64 0 7 = [(1, 2), (2, 4), (4, 7)] := by decide +kernel
theorem fx_in6 : pathF 6 64 0 7 = [(4, 6), (0, 4)] := by decide +kernel
theorem fx_cs3 : smL 3 7 = [(2, 3), (3, 4), (0, 2), (4, 7)] := by decide +kernel
theorem fx_cs6 : smL 6 7 = [(4, 6), (6, 7), (0, 4)] := by decide +kernel

set_option maxRecDepth 100000 in
set_option maxHeartbeats 400000 in
theorem mincl_nil (i n : Nat) (w : World) (hn : n < 18446744073709551616) :
    Calls Tryd.prog 19 #[.pointer none, .int .u64 i, .int .u64 n] w fun e w' => e = .returned (.tuple #[.slice none 0 0, .int .i64 (if n ≤ i then 4 else 5)]) ∧ Kept [] w w' := by
  by_cases h1 : n ≤ i
  · have h1' : (n : Int) ≤ (i : Int) := by omega
    rw [if_pos h1]
    go_enter Tryd.func19, Tryd.ntmps19
    go_wp2_with fail
    exact ⟨rfl, _, results_tmp2 rfl _ _ _, rfl, Kept.refl _ _⟩
  · have h1' : ¬ (n : Int) ≤ (i : Int) := by omega
    rw [if_neg h1]
    have HPA := hide (path_any i n w (by omega) hn)
    go_enter Tryd.func19, Tryd.ntmps19
    go_wp2_with fail
    refine (unhide HPA).mono ?_
    rintro e w1 ⟨v1, rfl, s1, k1⟩
    have HK1 := hide k1
    clear s1 k1
    go_wp2_with fail
    refine (digests_nil (n : Int) v1 w1).mono ?_
    rintro e _ ⟨rfl, rfl⟩
    go_wp2_with fail
    exact ⟨rfl, _, results_tmp2 rfl _ _ _, rfl, unhide HK1⟩

set_option maxRecDepth 100000 in
set_option maxHeartbeats 400000 in
theorem mcons_nil (i n : Nat) (w : World) (hn : n < 18446744073709551616) :
    Calls Tryd.prog 20 #[.pointer none, .int .u64 i, .int .u64 n] w fun e w' => e = .returned (.tuple #[.slice none 0 0, .int .i64 (if n < i then 4 else 5)]) ∧ Kept [] w w' := by
  by_cases h1 : n < i
  · have h1' : (n : Int) < (i : Int) := by omega
    rw [if_pos h1]
    go_enter Tryd.func20, Tryd.ntmps20
    go_wp2_with fail
    exact ⟨rfl, _, results_tmp2 rfl _ _ _, rfl, Kept.refl _ _⟩
  · have h1' : ¬ (n : Int) < (i : Int) := by omega
    rw [if_neg h1]
    have HPA := hide (seam_any i n w (by omega) hn)
    go_enter Tryd.func20, Tryd.ntmps20
    go_wp2_with fail
    refine (unhide HPA).mono ?_
    rintro e w1 ⟨v1, rfl, s1, k1⟩
    have HK1 := hide k1
    clear s1 k1
    go_wp2_with fail
    refine (digests_nil (n : Int) v1 w1).mono ?_
    rintro e _ ⟨rfl, rfl⟩
    go_wp2_with fail
    exact ⟨rfl, _, results_tmp2 rfl _ _ _, rfl, unhide HK1⟩

set_option maxRecDepth 100000 in
set_option maxHeartbeats 1000000 in
theorem fixC_any (L : List (List Nat)) (b : Nat) (ao : Option Addr) (cap lo hi : Nat) (w : World) (h1 : lo ≤ hi) (h2 : hi ≤ 7) (hlo : lo < 7) (hL : L.length = 7) (hv : RdD w (.slice ao 7 cap) L) (hb : w.heap[b]? = some (.cells #[.slice ao 7 cap] 32 (0, 0))) :
    Calls Tryd.prog 17 #[.int .i64 (lo : Int), .int .i64 (hi : Int), .pointer (some ⟨b, 0, none⟩)] w fun e w' => e = .returned (.agg (brow (rngD 2 (noT 2) L lo hi))) ∧ Kept [] w w' := by
  have HV := hide hv
  have hdl := (log_dg (2 : Int) (noT 2) ((L.drop lo).take (hi - lo)) (noT_dg 2) (fun d hd => hv.dg (List.mem_of_mem_drop (List.mem_of_mem_take hd)))).1
  obtain ⟨_, _, _, e9, e1, e2, e3, h4, h5⟩ := hv
  cases e9
  have k0 := (Kept.refl [] w).alloc (.cells (zb 32) 41)
  have HZ := hide (heap_alloc_new w (.cells (zb 32) 41))
  have HK := hide k0
  have cb : ∀ ob, (w.alloc ob).cell? ⟨b, 0, none⟩ = some (.slice ao 7 cap) := fun ob => by
    have h9 := cell_of_row _ _ 0 _ _ _ (((Kept.refl [] w).alloc ob).heap hb (by simp))
    simpa using h9
  have q1 : ¬ (hi : Int) < lo := by omega
  have q3 : ¬ (cap : Int) < hi := by omega
  have q4 : ¬ (lo : Int) < 0 := by omega
  have q5 : ¬ (hi : Int) < 0 := by omega
  have hcl : ¬ cap = lo := by omega
  have hcl' : ¬ (cap : Int) = lo := by omega
  have hcl2 : ¬ lo = cap := by omega
  have HLG := hide (fun (ao' : Option Addr) (ho : lo < hi → ∀ b off, ao = some ⟨b, off, none⟩ → ao' = some ⟨b, off + lo * 32, none⟩) => logR_any 2 (by omega) (hi - lo) (.slice ao' (hi - lo) (cap - lo)) ((L.drop lo).take (hi - lo)) (w.alloc (.cells (zb 32) 41)) (by rw [List.length_take]; omega) (by rw [List.length_take]; omega) ((RdD.piece (c' := cap - lo) (unhide HV) h1 h2 (by omega) ao' ho).old k0))
  have hlog : logT (2 : Int) (noT 2) ((L.drop lo).take (hi - lo)) = rngD 2 (noT 2) L lo hi := rfl
  have HLG2 := hide (unhide HLG (Option.map (fun x => x.add (lo * 32)) ao) (fun _ b off e => by rw [e]; simp [Addr.add_mid]))
  rw [show ((2 : Nat) : Int) = 2 from rfl, hlog] at HLG2
  rw [hlog] at hdl
  generalize rngD (2 : Int) (noT 2) L lo hi = D at HLG2 hdl ⊢
  clear h4 h5 hlog HV k0 HLG hb
  go_enter Tryd.func17, Tryd.ntmps17
  go_wp2_with fail
  rw [zb32]
  refine (unhide HLG2).mono ?_
  rintro e w5 ⟨rfl, k5⟩
  have HZ5 := hide (k5.heap (unhide HZ) (by simp))
  have HK5 := hide (((unhide HK).trans k5 (by simp)).setRow (g := w.heap.size) (Or.inr (Nat.le_refl _)) (brow D))
  clear k5
  go_wp2_with (refine wpList_store_row rfl 41 _ _ rfl w.heap.size (brow D) rfl rfl _ (zb 32) (unhide HZ5) (by rw [brow_size, hdl]; exact Tryd.size_dig) (by rw [zb_size, brow_size, hdl]) (brow_one _) ?_)
  refine bodyPost_ret (v := .agg (brow D)) ?_ rfl ⟨rfl, unhide HK5⟩
  exact results_cell_row rfl _ _ w.heap.size _ (brow D) (0, 0) _ rfl (setRow_heap _ _ _ _ _ _ (unhide HZ5)) Tryd.underlying41 rfl (by rw [brow_size, hdl]; exact Tryd.size_dig)

theorem flat_agg (ds : List (List Nat)) : ((ds.map fun d => Value.agg (brow d)).flatMap fun v => v.cells.toList) = flatD ds := by
  unfold flatD
  rw [List.flatMap_map]
  congr 1

theorem wpList_litG {ops : Array Oper} {rest : List Oper} {o : Oper} {a : Act} {w : World} {Q : Exit → Act → World → Prop} (hw : Region.wanted o (yielded ops a.tmps) = true) (parts : Array (Nat × Operand)) (ds : List (List Nat)) (n : Nat) (hn : ds.length = n)
    (ho : o.op = .buildSlice 32 n parts) (hp : (parts.map fun (i, x) => (i, a.eval x)).toList = ((ds.map fun d => Value.agg (brow d)).zipIdx 0).map fun x => (x.2, x.1)) (hds : ∀ d ∈ ds, d.length = 32) (hpos : 0 < n) (hsm : n ≤ 1000)
    (h : wpList Tryd.prog ops Q rest (a.put o.dst (.slice (some ⟨w.heap.size, 0, none⟩) n n)) (w.alloc (.cells (flatD ds).toArray 41))) : wpList Tryd.prog ops Q (o :: rest) a w := by
  subst hn
  obtain ⟨i0, hi, hz0, hz1, hz2⟩ := info_parts Tryd.infoD
  refine wpList_want hw fun _ hK => wp_buildSlice 32 41 ds.length parts ho _ i0 (.agg (zb 32)) Tryd.underlying32 hi hz0 (by rw [hz1]; omega) (by rw [hz1]; omega) ?_ (hK _ _ h)
  rw [hz1, hp]
  have h9 := Great.fill_whole (s := 32) (by omega) (ds.map fun d => Value.agg (brow d)) ((Array.range (ds.length * 32)).map ((Value.agg (zb 32)).cells[· % (Value.agg (zb 32)).cells.size]!)) (by
    intro v hv
    obtain ⟨d, hd, rfl⟩ := List.mem_map.1 hv
    show (brow d).size = 32
    rw [brow_size, hds d hd]) (by simp)
  rw [flat_agg] at h9
  exact h9

theorem rgL_fx {z : Int} {L : List (List Nat)} {ss : List (Nat × Nat)} (h : ∀ s ∈ ss, s.1 < s.2 ∧ s.2 ≤ L.length) : rgL z L ss = ss.map fun s => rngD z (noT z) L s.1 s.2 := by
  unfold rgL
  apply List.map_congr_left
  intro s hs
  have := h s hs
  exact if_neg (by omega)
theorem rg_dg {L : List (List Nat)} (h : ∀ d ∈ L, Dg d) (lo hi : Nat) : Dg (rngD 2 (noT 2) L lo hi) :=
  log_dg _ _ _ (noT_dg _) (fun d hd => h d (List.mem_of_mem_drop (List.mem_of_mem_take hd)))

set_option maxRecDepth 100000 in
set_option maxHeartbeats 4000000 in
theorem mproofFixed_go (w : World) (hT : Tabs w) (h6 : Tab6 w) :
    Calls Tryd.prog 5 #[] w fun e w' => e = .returned (.bool true) ∧ Kept [] w w' := by
  have HTB := hide hT
  have H6 := hide h6
  clear hT h6
  go_enter Tryd.func5, Tryd.ntmps5
  go_wp2_with fail
  refine (mpawake_any w (unhide HTB) (unhide H6)).mono ?_
  rintro e w1 ⟨rfl, k1⟩
  have HK1 := hide k1
  clear k1
  go_wp2_with fail
  go_loopw [1, 2] (fun t1 t2 wr => ∃ (i : Nat) (v : Value), i ≤ 7 ∧ t1 = v ∧ t2 = .int .i64 (i : Int) ∧ Hid (OwD w1 wr v (fxL i))) (fun _ t _ => 7 - (intOf t).toNat)
  case atStart => exact ⟨0, _, by omega, rfl, rfl, hide (OwD.nil _)⟩
  case round =>
    obtain ⟨i, v, hi, rfl, rfl, HO⟩ := hrel
    by_cases hil : i < 7
    · have hil' : (i : Int) < 7 := by omega
      have hfl : (fxL i).length = i := by simp [fxL]
      obtain ⟨ua, uc, rfl⟩ := (unhide HO).form
      rw [hfl]
      have HD := hide (fxD_dg hil)
      have hdl := (unhide HD).1
      have HDB := hide (by rw [fxD_brow]; exact fx_built _ : Tryd.prog.built 41 [(0, .int .u8 (10 + (i : Int))), (1, .int .u8 9)] = some (brow (fxD i)))
      have hw8 : IntKind.u8.wrap (10 + (i : Int)) = 10 + (i : Int) := by simp [IntKind.wrap, IntKind.signed, IntKind.bits]; omega
      have hw9 : IntKind.i64.wrap (10 + (i : Int)) = 10 + (i : Int) := by simp [IntKind.wrap, IntKind.signed, IntKind.bits]; omega
      have HSN := hide (by unfold fxL; rw [List.range_succ, List.map_append]; rfl : fxL (i + 1) = fxL i ++ [fxD i])
      have HROW := hide (by rw [fxD_brow]; rfl : brow (fxD i) = #[.int .u8 (10 + (i : Int)), .int .u8 9, .int .u8 0, .int .u8 0, .int .u8 0, .int .u8 0, .int .u8 0, .int .u8 0, .int .u8 0, .int .u8 0, .int .u8 0, .int .u8 0, .int .u8 0, .int .u8 0, .int .u8 0, .int .u8 0, .int .u8 0, .int .u8 0, .int .u8 0, .int .u8 0, .int .u8 0, .int .u8 0, .int .u8 0, .int .u8 0, .int .u8 0, .int .u8 0, .int .u8 0, .int .u8 0, .int .u8 0, .int .u8 0, .int .u8 0, .int .u8 0])
      generalize fxD i = D at HD hdl HDB HSN HROW
      have HOC := hide ((unhide HO).pass ((Kept.refl [] wr).alloc (.cells (brow D) 41)))
      have HNC := hide (heap_alloc_new wr (.cells (brow D) 41))
      rw [hfl] at HOC
      go_wp2_with (first
        | (simp only [hw9, hw8])
        | (refine wpList_build_as rfl 41 _ rfl (brow D) (by exact unhide HDB) ?_)
        | (at_builtin; rw [← unhide HROW]; refine wpList_appendD rfl _ _ rfl rfl (wr.alloc (.cells (brow D) 41)) w1.heap.size (.slice ua i uc) (fxL i) [D] (some ⟨wr.heap.size, 0, none⟩) 1 1 (unhide HOC).own (RdD.oneP (unhide HNC) (unhide HD)) (by simp [hfl]; omega) (unhide HOC).kept.size rfl rfl ?_; intro ao3 cap3 w3 HO3 HG3; have HO4 := hide ((unhide HOC).push (unhide HD) (unhide HO3) (unhide HG3)); clear HO3 HG3))
      go_roundw
      case rel => exact ⟨i + 1, _, by omega, rfl, by simp, by rw [unhide HSN]; have h9 := HO4; rw [hfl] at h9; exact h9⟩
      case measure => simp [intOf]; omega
    · have hil' : ¬ (i : Int) < 7 := by omega
      have hie : i = 7 := by omega
      subst hie
      have HL0 := hide (fxL_dg (Nat.le_refl 7))
      obtain ⟨R0, hR0⟩ : ∃ R0, R0 = wr := ⟨_, rfl⟩
      subst hR0
      go_wp2_with fail
      refine (tree_ok 2 u1 (fxL 7) R0 (by omega) (by omega) (unhide HO).rd (by decide) ((unhide HTB).kept ((unhide HK1).trans (unhide HO).kept (by simp)) (by simp) (by simp)) ((unhide H6).kept ((unhide HK1).trans (unhide HO).kept (by simp)))).mono ?_
      rintro e w2 ⟨_, h2⟩
      obtain ⟨t, v, qs, u, rfl, tr, hlv, ow⟩ := h2 (by decide)
      rw [show ((2 : Nat) : Int).toNat = 2 from rfl, fxL_cut] at hlv ow
      have HT2 := hide tr
      have HLV := hide hlv
      have HO2 := hide ow
      have HK2 := hide (((unhide HK1).trans (unhide HO).kept (by simp)).trans ow.kept (by simp))
      have hL7 : (fxL 7).length = 7 := rfl
      have HLL := hide hL7
      obtain ⟨ua, uc, rfl⟩ := (unhide HO2).form
      rw [hL7]
      have HR2 := hide (by have h9 := ow.rd; rw [hL7] at h9; exact h9 : RdD w2 (.slice ua 7 uc) (fxL 7))
      clear h2 tr hlv ow HO HO2 hL7
      generalize fxL 7 = L at HLV HLL HR2
      have kW := (Kept.refl [] w2).alloc (.cells #[.slice ua 7 uc] 32)
      have HB3 := hide (heap_alloc_new w2 (.cells #[.slice ua 7 uc] 32))
      have HR3 := hide ((unhide HR2).old kW)
      have HT3 := hide ((unhide HT2).old kW)
      have HK3 := hide ((unhide HK2).trans kW (by simp))
      obtain ⟨w3, hw3⟩ : ∃ w3, w2.alloc (.cells #[.slice ua 7 uc] 32) = w3 := ⟨_, rfl⟩
      rw [hw3] at HB3 HR3 HT3 HK3
      have HW3 := hide hw3
      have HAw3 := hide (Kept.refl [] w3)
      have HLD := hide (fun d (hd : d ∈ L) => (unhide HR3).dg hd)
      clear kW hw3 HT2 HR2 HK2
      have HBN := hide (by rw [unhide HLV, unhide HLL]; omega : (leavesK qs).length < 32768)
      have HTK := hide (fun W (kk : Kept [] w3 W) => (unhide HTB).kept ((unhide HK3).trans kk (by simp)) (by simp) (by simp))
      have H6K := hide (fun W (kk : Kept [] w3 W) => (unhide H6).kept ((unhide HK3).trans kk (by simp)))
      have HIN := hide (fun (i n : Nat) (hn : n < 18446744073709551616) W (kk : Kept [] w3 W) => mincl_any (2 : Int) t v qs i n W ((unhide HT3).old kk) (unhide HBN) (unhide HTK W kk) (unhide H6K W kk) hn)
      have HCO := hide (fun (i n : Nat) (hn : n < 18446744073709551616) W (kk : Kept [] w3 W) => mcons_any (2 : Int) t v qs i n W ((unhide HT3).old kk) (unhide HBN) (unhide HTK W kk) (unhide H6K W kk) hn)
      rw [unhide HLV] at HIN HCO
      have HI0 := hide (by have h9 := unhide HIN 0 7 (by omega); rw [show inE L 0 7 = 0 from if_neg (by rw [unhide HLL]; omega), show inD 2 L 0 7 = _ from if_neg (by rw [unhide HLL]; omega), fx_in0, rgL_fx (by intro s hs; rw [unhide HLL]; revert s; decide)] at h9; exact h9)
      have HI6 := hide (by have h9 := unhide HIN 6 7 (by omega); rw [show inE L 6 7 = 0 from if_neg (by rw [unhide HLL]; omega), show inD 2 L 6 7 = _ from if_neg (by rw [unhide HLL]; omega), fx_in6, rgL_fx (by intro s hs; rw [unhide HLL]; revert s; decide)] at h9; exact h9)
      have HS3 := hide (by have h9 := unhide HCO 3 7 (by omega); rw [show csE L 3 7 = 0 from if_neg (by rw [unhide HLL]; omega), show csD 2 L 3 7 = _ from if_neg (by rw [unhide HLL]; omega), fx_cs3, rgL_fx (by intro s hs; rw [unhide HLL]; revert s; decide)] at h9; exact h9)
      have HS6 := hide (by have h9 := unhide HCO 6 7 (by omega); rw [show csE L 6 7 = 0 from if_neg (by rw [unhide HLL]; omega), show csD 2 L 6 7 = _ from if_neg (by rw [unhide HLL]; omega), fx_cs6, rgL_fx (by intro s hs; rw [unhide HLL]; revert s; decide)] at h9; exact h9)
      simp only [List.map_cons, List.map_nil] at HI0 HI6 HS3 HS6
      have HC12 := hide (fun W (kk : Kept [] w3 W) => fixC_any L w2.heap.size ua uc 1 2 W (by omega) (by omega) (by omega) (unhide HLL) ((unhide HR3).old kk) (kk.heap (unhide HB3) (by simp)))
      have HD12 := hide (rg_dg (unhide HLD) 1 2)
      have HC24 := hide (fun W (kk : Kept [] w3 W) => fixC_any L w2.heap.size ua uc 2 4 W (by omega) (by omega) (by omega) (unhide HLL) ((unhide HR3).old kk) (kk.heap (unhide HB3) (by simp)))
      have HD24 := hide (rg_dg (unhide HLD) 2 4)
      have HC47 := hide (fun W (kk : Kept [] w3 W) => fixC_any L w2.heap.size ua uc 4 7 W (by omega) (by omega) (by omega) (unhide HLL) ((unhide HR3).old kk) (kk.heap (unhide HB3) (by simp)))
      have HD47 := hide (rg_dg (unhide HLD) 4 7)
      have HC46 := hide (fun W (kk : Kept [] w3 W) => fixC_any L w2.heap.size ua uc 4 6 W (by omega) (by omega) (by omega) (unhide HLL) ((unhide HR3).old kk) (kk.heap (unhide HB3) (by simp)))
      have HD46 := hide (rg_dg (unhide HLD) 4 6)
      have HC04 := hide (fun W (kk : Kept [] w3 W) => fixC_any L w2.heap.size ua uc 0 4 W (by omega) (by omega) (by omega) (unhide HLL) ((unhide HR3).old kk) (kk.heap (unhide HB3) (by simp)))
      have HD04 := hide (rg_dg (unhide HLD) 0 4)
      have HC23 := hide (fun W (kk : Kept [] w3 W) => fixC_any L w2.heap.size ua uc 2 3 W (by omega) (by omega) (by omega) (unhide HLL) ((unhide HR3).old kk) (kk.heap (unhide HB3) (by simp)))
      have HD23 := hide (rg_dg (unhide HLD) 2 3)
      have HC34 := hide (fun W (kk : Kept [] w3 W) => fixC_any L w2.heap.size ua uc 3 4 W (by omega) (by omega) (by omega) (unhide HLL) ((unhide HR3).old kk) (kk.heap (unhide HB3) (by simp)))
      have HD34 := hide (rg_dg (unhide HLD) 3 4)
      have HC02 := hide (fun W (kk : Kept [] w3 W) => fixC_any L w2.heap.size ua uc 0 2 W (by omega) (by omega) (by omega) (unhide HLL) ((unhide HR3).old kk) (kk.heap (unhide HB3) (by simp)))
      have HD02 := hide (rg_dg (unhide HLD) 0 2)
      have HC67 := hide (fun W (kk : Kept [] w3 W) => fixC_any L w2.heap.size ua uc 6 7 W (by omega) (by omega) (by omega) (unhide HLL) ((unhide HR3).old kk) (kk.heap (unhide HB3) (by simp)))
      have HD67 := hide (rg_dg (unhide HLD) 6 7)
      generalize rngD (2 : Int) (noT 2) L 1 2 = D12 at HC12 HD12 HI0
      have hd12 := (unhide HD12).1
      generalize rngD (2 : Int) (noT 2) L 2 4 = D24 at HC24 HD24 HI0
      have hd24 := (unhide HD24).1
      generalize rngD (2 : Int) (noT 2) L 4 7 = D47 at HC47 HD47 HI0 HS3
      have hd47 := (unhide HD47).1
      generalize rngD (2 : Int) (noT 2) L 4 6 = D46 at HC46 HD46 HI6 HS6
      have hd46 := (unhide HD46).1
      generalize rngD (2 : Int) (noT 2) L 0 4 = D04 at HC04 HD04 HI6 HS6
      have hd04 := (unhide HD04).1
      generalize rngD (2 : Int) (noT 2) L 2 3 = D23 at HC23 HD23 HS3
      have hd23 := (unhide HD23).1
      generalize rngD (2 : Int) (noT 2) L 3 4 = D34 at HC34 HD34 HS3
      have hd34 := (unhide HD34).1
      generalize rngD (2 : Int) (noT 2) L 0 2 = D02 at HC02 HD02 HS3
      have hd02 := (unhide HD02).1
      generalize rngD (2 : Int) (noT 2) L 6 7 = D67 at HC67 HD67 HS6
      have hd67 := (unhide HD67).1
      go_wp2_with fail
      rw [unhide HW3]
      refine (unhide HI0 w3 (unhide HAw3)).mono ?_
      rintro e w4 ⟨p, rfl, o4⟩
      have HPw4 := hide o4.rd
      have HAw4 := hide ((unhide HAw3).trans o4.kept (by simp))
      obtain ⟨pa4, pc4, rfl⟩ := o4.form
      clear o4 HI0
      go_wp2_with fail
      refine (unhide HI6 w4 (unhide HAw4)).mono ?_
      rintro e w5 ⟨p, rfl, o5⟩
      have HPw5 := hide o5.rd
      have HAw5 := hide ((unhide HAw4).trans o5.kept (by simp))
      have HPw4b := hide ((unhide HPw4).old o5.kept)
      obtain ⟨pa5, pc5, rfl⟩ := o5.form
      clear o5 HI6 HPw4
      go_wp2_with fail
      refine (unhide HS3 w5 (unhide HAw5)).mono ?_
      rintro e w6 ⟨p, rfl, o6⟩
      have HPw6 := hide o6.rd
      have HAw6 := hide ((unhide HAw5).trans o6.kept (by simp))
      have HPw4c := hide ((unhide HPw4b).old o6.kept)
      have HPw5b := hide ((unhide HPw5).old o6.kept)
      obtain ⟨pa6, pc6, rfl⟩ := o6.form
      clear o6 HS3 HPw4b HPw5
      go_wp2_with fail
      refine (unhide HS6 w6 (unhide HAw6)).mono ?_
      rintro e w7 ⟨p, rfl, o7⟩
      have HP7 := hide o7.rd
      have HA7 := hide ((unhide HAw6).trans o7.kept (by simp))
      have HP4 := hide ((unhide HPw4c).old o7.kept)
      have HP5 := hide ((unhide HPw5b).old o7.kept)
      have HP6 := hide ((unhide HPw6).old o7.kept)
      obtain ⟨pa7, pc7, rfl⟩ := o7.form
      clear o7 HS6 HPw4c HPw5b HPw6 HAw3 HAw4 HAw5 HAw6
      simp only [List.length_cons, List.length_nil] at HP4 HP5 HP6 HP7 ⊢
      have HZw7 := hide (Kept.refl [] w7)
      have HAww7 := hide (unhide HA7)
      go_wp2_with fail
      refine (unhide HC12 w7 (unhide HAww7)).mono ?_
      rintro e w8 ⟨rfl, k9⟩
      have HAww8 := hide ((unhide HAww7).trans k9 (by simp))
      have HZw8 := hide ((unhide HZw7).trans k9 (by simp))
      clear k9 HAww7 HZw7
      go_wp2_with fail
      refine (unhide HC24 w8 (unhide HAww8)).mono ?_
      rintro e w9 ⟨rfl, k9⟩
      have HAww9 := hide ((unhide HAww8).trans k9 (by simp))
      have HZw9 := hide ((unhide HZw8).trans k9 (by simp))
      clear k9 HAww8 HZw8
      go_wp2_with fail
      refine (unhide HC47 w9 (unhide HAww9)).mono ?_
      rintro e w10 ⟨rfl, k9⟩
      have HAww10 := hide ((unhide HAww9).trans k9 (by simp))
      have HZw10 := hide ((unhide HZw9).trans k9 (by simp))
      clear k9 HAww9 HZw9
      go_wp2_with (refine wpList_litG rfl _ [D12, D24, D47] 3 rfl rfl (by simp only [List.map_toArray, List.map_cons, List.map_nil]; rfl) (by intro d hd; simp only [List.mem_cons, List.not_mem_nil, or_false] at hd; rcases hd with rfl | rfl | rfl <;> assumption) (by omega) (by omega) ?_)
      have kl := (Kept.refl [] w10).alloc (.cells (flatD [D12, D24, D47]).toArray 41)
      have HNL := hide (heap_alloc_new w10 (.cells (flatD [D12, D24, D47]).toArray 41))
      have HAx := hide ((unhide HAww10).trans kl (by simp))
      have HZx := hide ((unhide HZw10).trans kl (by simp))
      clear kl
      refine (samep_any (.slice pa4 3 pc4) (.slice (some ⟨w10.heap.size, 0, none⟩) 3 3) [D12, D24, D47] _ ((unhide HP4).old (unhide HZx)) (RdD.flat (unhide HNL) (by intro d hd; simp only [List.mem_cons, List.not_mem_nil, or_false] at hd; rcases hd with rfl | rfl | rfl; exact unhide HD12; exact unhide HD24; exact unhide HD47) 3 rfl (by omega))).mono ?_
      rintro e w11 ⟨rfl, k9⟩
      have HAww11 := hide ((unhide HAx).trans k9 (by simp))
      have HZw11 := hide ((unhide HZx).trans k9 (by simp))
      clear k9 HAx HZx HNL HAww10 HZw10
      go_wp2_with fail
      refine (unhide HC46 w11 (unhide HAww11)).mono ?_
      rintro e w12 ⟨rfl, k9⟩
      have HAww12 := hide ((unhide HAww11).trans k9 (by simp))
      have HZw12 := hide ((unhide HZw11).trans k9 (by simp))
      clear k9 HAww11 HZw11
      go_wp2_with fail
      refine (unhide HC04 w12 (unhide HAww12)).mono ?_
      rintro e w13 ⟨rfl, k9⟩
      have HAww13 := hide ((unhide HAww12).trans k9 (by simp))
      have HZw13 := hide ((unhide HZw12).trans k9 (by simp))
      clear k9 HAww12 HZw12
      go_wp2_with (refine wpList_litG rfl _ [D46, D04] 2 rfl rfl (by simp only [List.map_toArray, List.map_cons, List.map_nil]; rfl) (by intro d hd; simp only [List.mem_cons, List.not_mem_nil, or_false] at hd; rcases hd with rfl | rfl <;> assumption) (by omega) (by omega) ?_)
      have kl := (Kept.refl [] w13).alloc (.cells (flatD [D46, D04]).toArray 41)
      have HNL := hide (heap_alloc_new w13 (.cells (flatD [D46, D04]).toArray 41))
      have HAx := hide ((unhide HAww13).trans kl (by simp))
      have HZx := hide ((unhide HZw13).trans kl (by simp))
      clear kl
      refine (samep_any (.slice pa5 2 pc5) (.slice (some ⟨w13.heap.size, 0, none⟩) 2 2) [D46, D04] _ ((unhide HP5).old (unhide HZx)) (RdD.flat (unhide HNL) (by intro d hd; simp only [List.mem_cons, List.not_mem_nil, or_false] at hd; rcases hd with rfl | rfl; exact unhide HD46; exact unhide HD04) 2 rfl (by omega))).mono ?_
      rintro e w14 ⟨rfl, k9⟩
      have HAww14 := hide ((unhide HAx).trans k9 (by simp))
      have HZw14 := hide ((unhide HZx).trans k9 (by simp))
      clear k9 HAx HZx HNL HAww13 HZw13
      go_wp2_with fail
      refine (unhide HC23 w14 (unhide HAww14)).mono ?_
      rintro e w15 ⟨rfl, k9⟩
      have HAww15 := hide ((unhide HAww14).trans k9 (by simp))
      have HZw15 := hide ((unhide HZw14).trans k9 (by simp))
      clear k9 HAww14 HZw14
      go_wp2_with fail
      refine (unhide HC34 w15 (unhide HAww15)).mono ?_
      rintro e w16 ⟨rfl, k9⟩
      have HAww16 := hide ((unhide HAww15).trans k9 (by simp))
      have HZw16 := hide ((unhide HZw15).trans k9 (by simp))
      clear k9 HAww15 HZw15
      go_wp2_with fail
      refine (unhide HC02 w16 (unhide HAww16)).mono ?_
      rintro e w17 ⟨rfl, k9⟩
      have HAww17 := hide ((unhide HAww16).trans k9 (by simp))
      have HZw17 := hide ((unhide HZw16).trans k9 (by simp))
      clear k9 HAww16 HZw16
      go_wp2_with fail
      refine (unhide HC47 w17 (unhide HAww17)).mono ?_
      rintro e w18 ⟨rfl, k9⟩
      have HAww18 := hide ((unhide HAww17).trans k9 (by simp))
      have HZw18 := hide ((unhide HZw17).trans k9 (by simp))
      clear k9 HAww17 HZw17
      go_wp2_with (refine wpList_litG rfl _ [D23, D34, D02, D47] 4 rfl rfl (by simp only [List.map_toArray, List.map_cons, List.map_nil]; rfl) (by intro d hd; simp only [List.mem_cons, List.not_mem_nil, or_false] at hd; rcases hd with rfl | rfl | rfl | rfl <;> assumption) (by omega) (by omega) ?_)
      have kl := (Kept.refl [] w18).alloc (.cells (flatD [D23, D34, D02, D47]).toArray 41)
      have HNL := hide (heap_alloc_new w18 (.cells (flatD [D23, D34, D02, D47]).toArray 41))
      have HAx := hide ((unhide HAww18).trans kl (by simp))
      have HZx := hide ((unhide HZw18).trans kl (by simp))
      clear kl
      refine (samep_any (.slice pa6 4 pc6) (.slice (some ⟨w18.heap.size, 0, none⟩) 4 4) [D23, D34, D02, D47] _ ((unhide HP6).old (unhide HZx)) (RdD.flat (unhide HNL) (by intro d hd; simp only [List.mem_cons, List.not_mem_nil, or_false] at hd; rcases hd with rfl | rfl | rfl | rfl; exact unhide HD23; exact unhide HD34; exact unhide HD02; exact unhide HD47) 4 rfl (by omega))).mono ?_
      rintro e w19 ⟨rfl, k9⟩
      have HAww19 := hide ((unhide HAx).trans k9 (by simp))
      have HZw19 := hide ((unhide HZx).trans k9 (by simp))
      clear k9 HAx HZx HNL HAww18 HZw18
      go_wp2_with fail
      refine (unhide HC46 w19 (unhide HAww19)).mono ?_
      rintro e w20 ⟨rfl, k9⟩
      have HAww20 := hide ((unhide HAww19).trans k9 (by simp))
      have HZw20 := hide ((unhide HZw19).trans k9 (by simp))
      clear k9 HAww19 HZw19
      go_wp2_with fail
      refine (unhide HC67 w20 (unhide HAww20)).mono ?_
      rintro e w21 ⟨rfl, k9⟩
      have HAww21 := hide ((unhide HAww20).trans k9 (by simp))
      have HZw21 := hide ((unhide HZw20).trans k9 (by simp))
      clear k9 HAww20 HZw20
      go_wp2_with fail
      refine (unhide HC04 w21 (unhide HAww21)).mono ?_
      rintro e w22 ⟨rfl, k9⟩
      have HAww22 := hide ((unhide HAww21).trans k9 (by simp))
      have HZw22 := hide ((unhide HZw21).trans k9 (by simp))
      clear k9 HAww21 HZw21
      go_wp2_with (refine wpList_litG rfl _ [D46, D67, D04] 3 rfl rfl (by simp only [List.map_toArray, List.map_cons, List.map_nil]; rfl) (by intro d hd; simp only [List.mem_cons, List.not_mem_nil, or_false] at hd; rcases hd with rfl | rfl | rfl <;> assumption) (by omega) (by omega) ?_)
      have kl := (Kept.refl [] w22).alloc (.cells (flatD [D46, D67, D04]).toArray 41)
      have HNL := hide (heap_alloc_new w22 (.cells (flatD [D46, D67, D04]).toArray 41))
      have HAx := hide ((unhide HAww22).trans kl (by simp))
      have HZx := hide ((unhide HZw22).trans kl (by simp))
      clear kl
      refine (samep_any (.slice pa7 3 pc7) (.slice (some ⟨w22.heap.size, 0, none⟩) 3 3) [D46, D67, D04] _ ((unhide HP7).old (unhide HZx)) (RdD.flat (unhide HNL) (by intro d hd; simp only [List.mem_cons, List.not_mem_nil, or_false] at hd; rcases hd with rfl | rfl | rfl; exact unhide HD46; exact unhide HD67; exact unhide HD04) 3 rfl (by omega))).mono ?_
      rintro e w23 ⟨rfl, k9⟩
      have HAww23 := hide ((unhide HAx).trans k9 (by simp))
      have HZw23 := hide ((unhide HZx).trans k9 (by simp))
      clear k9 HAx HZx HNL HAww22 HZw22
      go_wp2_with fail
      refine (mincl_nil 0 1 w23 (by omega)).mono ?_
      rintro e w24 ⟨rfl, k9⟩
      have HAww24 := hide ((unhide HAww23).trans k9 (by simp))
      clear k9 HAww23
      simp only [Nat.reduceLeDiff, Nat.reduceLT, if_true, if_false, reduceIte]
      go_wp2_with fail
      refine (mincl_nil 1 1 w24 (by omega)).mono ?_
      rintro e w25 ⟨rfl, k9⟩
      have HAww25 := hide ((unhide HAww24).trans k9 (by simp))
      clear k9 HAww24
      simp only [Nat.reduceLeDiff, Nat.reduceLT, if_true, if_false, reduceIte]
      go_wp2_with fail
      refine (mcons_nil 1 1 w25 (by omega)).mono ?_
      rintro e w26 ⟨rfl, k9⟩
      have HAww26 := hide ((unhide HAww25).trans k9 (by simp))
      clear k9 HAww25
      simp only [Nat.reduceLeDiff, Nat.reduceLT, if_true, if_false, reduceIte]
      go_wp2_with fail
      refine (mcons_nil 2 1 w26 (by omega)).mono ?_
      rintro e w27 ⟨rfl, k9⟩
      have HAww27 := hide ((unhide HAww26).trans k9 (by simp))
      clear k9 HAww26
      simp only [Nat.reduceLeDiff, Nat.reduceLT, if_true, if_false, reduceIte]
      have HCN := hide (by unfold csD smL; rw [if_neg (by rw [unhide HLL]; omega), if_pos (by omega)]; rfl : csD (2 : Int) L 0 0 = [])
      have h9 := unhide HIN 0 8 (by omega)
      rw [show inE L 0 8 = 4 from if_pos (by rw [unhide HLL]; omega)] at h9
      generalize inD (2 : Int) L 0 8 = Xw28 at h9
      have HQ := hide h9
      clear h9
      go_wp2_with fail
      refine (unhide HQ w27 (unhide HAww27)).mono ?_
      rintro e w28 ⟨p, rfl, o9⟩
      have HAww28 := hide ((unhide HAww27).trans o9.kept (by simp))
      obtain ⟨raw28, rcw28, rfl⟩ := o9.form
      clear o9 HAww27 HQ
      have h9 := unhide HCO 0 8 (by omega)
      rw [show csE L 0 8 = 4 from if_pos (by rw [unhide HLL]; omega)] at h9
      generalize csD (2 : Int) L 0 8 = Xw29 at h9
      have HQ := hide h9
      clear h9
      go_wp2_with fail
      refine (unhide HQ w28 (unhide HAww28)).mono ?_
      rintro e w29 ⟨p, rfl, o9⟩
      have HAww29 := hide ((unhide HAww28).trans o9.kept (by simp))
      obtain ⟨raw29, rcw29, rfl⟩ := o9.form
      clear o9 HAww28 HQ
      have h9 := unhide HIN 0 0 (by omega)
      rw [show inE L 0 0 = 4 from if_pos (by omega)] at h9
      generalize inD (2 : Int) L 0 0 = Xw30 at h9
      have HQ := hide h9
      clear h9
      go_wp2_with fail
      refine (unhide HQ w29 (unhide HAww29)).mono ?_
      rintro e w30 ⟨p, rfl, o9⟩
      have HAww30 := hide ((unhide HAww29).trans o9.kept (by simp))
      obtain ⟨raw30, rcw30, rfl⟩ := o9.form
      clear o9 HAww29 HQ
      have h9 := unhide HCO 0 0 (by omega)
      rw [show csE L 0 0 = 0 from if_neg (by rw [unhide HLL]; omega)] at h9
      rw [unhide HCN] at h9
      have HQ := hide h9
      clear h9
      go_wp2_with fail
      refine (unhide HQ w30 (unhide HAww30)).mono ?_
      rintro e w31 ⟨p, rfl, o9⟩
      have HAww31 := hide ((unhide HAww30).trans o9.kept (by simp))
      obtain ⟨raw31, rcw31, rfl⟩ := o9.form
      clear o9 HAww30 HQ
      simp only [List.length_nil]
      clear HIN HCO
      go_wp2_with fail
      refine (fx_k1 w31).mono ?_
      rintro e w32 ⟨rfl, k9⟩
      have HAww32 := hide ((unhide HAww31).trans k9 (by simp))
      clear k9 HAww31
      go_wp2_with fail
      refine (fx_k2 w32).mono ?_
      rintro e w33 ⟨rfl, k9⟩
      have HAww33 := hide ((unhide HAww32).trans k9 (by simp))
      clear k9 HAww32
      go_wp2_with fail
      go_ret
      exact ⟨rfl, (unhide HK3).trans (unhide HAww33) (by simp)⟩

theorem mproofFixed_walk (w : World) (h : Tabs w ∧ Tab6 w) :
    Calls Tryd.prog 5 #[] w fun e w' => e = .returned (.bool true) ∧ Below w.heap.size w w' :=
  (mproofFixed_go w h.1 h.2).mono fun e w' h9 => ⟨h9.1, h9.2.below (Nat.le_refl _) (by simp)⟩
end Go.Proofs.YtecadmldnjlibaaDoor
namespace Go.Proofs.YtecadmldnjlibaaDoor
open Go.ChangeShapes Go.WideShapes Go.ChangeAt Go.RowKit Go.Deep
set_option linter.unusedVariables false
set_option linter.unusedSimpArgs false

theorem own : ownKnob Tryd.prog.godebug = none := by kernel_rfl
theorem laidOut : laidOutB Tryd.prog = true := by kernel_rfl
theorem byte_of_wf {x : Int} (h : (Lit.int .u8 x).wf = true) : 0 ≤ x ∧ x < 256 := by
  simp [Lit.wf, IntKind.min, IntKind.max, IntKind.signed, IntKind.bits] at h
  exact ⟨by omega, by omega⟩
theorem int_of_wf {x : Int} (h : (Lit.int .i64 x).wf = true) : -9223372036854775808 ≤ x ∧ x ≤ 9223372036854775807 := by
  simp [Lit.wf, IntKind.min, IntKind.max, IntKind.signed, IntKind.bits] at h
  exact ⟨by omega, by omega⟩

theorem bulk_one {H : Type} (d : DataW H) : 1 ≤ Rows.uptoBulk d := by
  cases d with
  | lit l => cases l <;> simp [Rows.uptoBulk]
  | nil => simp [Rows.uptoBulk]
  | ptr d => simp [Rows.uptoBulk]
  | slice elems spare => simp [Rows.uptoBulk]
  | agg parts => simp [Rows.uptoBulk]
  | iface t d => simp [Rows.uptoBulk]
  | map entries => simp [Rows.uptoBulk]
  | held h => simp [Rows.uptoBulk]
theorem bulk_len {H : Type} (l : List (DataW H)) : l.length ≤ Rows.uptoBulkAll l := by
  induction l with
  | nil => simp [Rows.uptoBulkAll]
  | cons x r ih => have := bulk_one x; simp only [Rows.uptoBulkAll, List.length_cons]; omega
theorem Tryd.bytes5 : Tryd.prog.bytesOf 5 = 1 := by kernel_rfl

section
variable {H : Type} {enc : TypeId × Value → H} {W : World}

/-- Bytes that came in, as the walks want them, of whatever length. -/
theorem open_bytes {fuel : Nat} {cs : List Value} {x : DataW H × List MemPlace} (h : DataW.trod enc Tryd.prog W 0 (fun _ => true) true fuel 86 cs = some x) :
    ∃ v bs, cs = [v] ∧ (bs.length ≤ 140737488355328 → Rd W v bs) ∧ ((bs = [] ∧ x.1 = .nil) ∨ ∃ elems spare, x.1 = .slice elems spare ∧ elems.length = bs.length) := by
  rcases open_ints Tryd.underlying86 Tryd.underlying5 (by kernel_rfl) h with ⟨rfl, rfl⟩ | ⟨a, len, cap, zs, rfl, _, hl, hm, hz, rfl, hcell, hwz⟩
  · exact ⟨_, [], rfl, fun _ => Rd.nil W, .inl ⟨rfl, rfl⟩⟩
  · have h2 : (lits (H := H) .u8 (zs.take len)).length = len := by simp only [lits, List.length_map, List.length_take]; simp at hz; omega
    have hbl : ((zs.take len).map Int.toNat).length = len := by simp at hz; simp; omega
    refine ⟨_, (zs.take len).map Int.toNat, rfl, fun hB => ⟨_, _, _, rfl, hbl, hl, ⟨by unfold maxLen at hm; omega, by omega⟩, by simp, ?_, ?_⟩, .inr ⟨_, _, rfl, by rw [h2, hbl]⟩⟩
    · intro y hy
      obtain ⟨z, hz1, rfl⟩ := List.mem_map.1 hy
      have := byte_of_wf (hwz z (List.mem_of_mem_take hz1)); omega
    · intro hp
      simp at hz
      have hc0 := hcell 0 (by omega)
      obtain ⟨b, off, spot⟩ := a
      have hspot : spot = none := by simpa [Addr.add] using World.cell?_spot hc0
      subst hspot
      refine ⟨b, off, rfl, fun i hi => ?_⟩
      have hc := hcell i (by omega)
      have hzi : i < zs.length := by omega
      rw [Addr.add_mid] at hc
      rw [hc]
      have hw := byte_of_wf (hwz (zs[i]) (List.getElem_mem hzi))
      simp only [List.getD_eq_getElem?_getD, List.getElem?_eq_getElem hzi, Option.getD_some, List.getElem?_map, List.getElem?_take, hi, if_true, Option.map_some]
      simp [u8]; omega
/-- Their length, by the reach. -/
theorem reach_bytes {ts : List TypeId} {ds : List (DataW H)} (h : (DataW.weightsEach Tryd.prog ts ds).all (· ≤ reachBytes) = true) {j : Nat} (ht : ts[j]? = some 86) {d : DataW H} (hd : ds[j]? = some d) {bs : List Nat}
    (hx : (bs = [] ∧ d = .nil) ∨ ∃ elems spare, d = .slice elems spare ∧ elems.length = bs.length) : bs.length ≤ 140737488351232 := by
  rcases hx with ⟨rfl, _⟩ | ⟨elems, spare, rfl, he⟩
  · simp
  · have := sized_slice h ht hd Tryd.underlying86
    rw [Tryd.bytes5, Nat.mul_one] at this
    unfold reachBytes at this
    omega
/-- Their length, by the bulk. -/
theorem bulk_bytes {d : DataW H} {bs : List Nat} (hx : (bs = [] ∧ d = .nil) ∨ ∃ elems spare, d = .slice elems spare ∧ elems.length = bs.length) : bs.length + 1 ≤ Rows.uptoBulk d := by
  rcases hx with ⟨rfl, rfl⟩ | ⟨elems, spare, rfl, he⟩
  · simp [Rows.uptoBulk]
  · have := bulk_len elems
    simp only [Rows.uptoBulk]; omega
end
end Go.Proofs.YtecadmldnjlibaaDoor
