import Derived.Test.YtmgjdcpfeihioaaDoorTopB
import Derived.Test.YtmgjdcpfeihioaaDoorTopD
import Derived.Test.YtmgjdcpfeihioaaDoorQKeep
import Derived.Test.YtmgjdcpfeihioaaDoorBase
import Derived.Test.YtmgjdcpfeihioaaDoorCards
import Derived.Test.YtmgjdcpfeihioaaDoorTie
import Derived.ProofKit
import Derived.OpenShut
import Derived.Deep.Slices
import Derived.SizedLaws
import Derived.Test.YtmgjdcpfeihioaaDoorRowz
import Derived.Test.YtmgjdcpfeihioaaDoorTopA
namespace Go.Proofs.YtmgjdcpfeihioaaDoor
open Go.RowKit Go.BigFrame
set_option linter.unusedVariables false
set_option linter.unusedSimpArgs false

theorem root_way {z : Int} {leaf : List Nat} {i n : Nat} {p : List (List Nat)} (h : rootE z leaf i n p = 0) :
    i < n ∧ widthB z = true ∧ formB z leaf = true ∧ (∀ d ∈ p, formB z d = true) ∧ fitN p.length i n = true ∧ rootD z leaf i n p = upW z leaf (wayN p.length i n) p p.length := by
  by_cases h1 : formedE z (leaf :: p) = 0
  · by_cases h2 : n ≤ i
    · have := (rootE_r h1 h2).1; omega
    · obtain ⟨h3, h4⟩ := rootE_c h1 h2
      have h5 := formedE_zero h1
      cases hc : clD z leaf p.reverse i n with
      | none => rw [hc] at h3; simp [opE] at h3; omega
      | some d =>
        obtain ⟨a1, a2⟩ := clD_up z leaf p.reverse i n d hc
        rw [List.length_reverse, List.reverse_reverse] at *
        refine ⟨by omega, h5.1, h5.2 _ (by simp), fun d hd => h5.2 d (by simp [hd]), a1, ?_⟩
        rw [h4, hc, ← a2]
        rfl
  · have := (rootE_f (i := i) (n := n) h1).1; omega
theorem upW_ok {z : Int} {leaf : List Nat} {wy : List Bool} {p : List (List Nat)} (hw : widthB z = true) (hl : Dg leaf) (hf : formB z leaf = true) : ∀ k, Dg (upW z leaf wy p k) ∧ formB z (upW z leaf wy p k) = true
  | 0 => ⟨hl, hf⟩
  | k + 1 => by
    unfold upW
    split
    · exact ⟨nodS_dg _ _ _, nodS_form hw _ _⟩
    · exact ⟨nodS_dg _ _ _, nodS_form hw _ _⟩
end Go.Proofs.YtmgjdcpfeihioaaDoor
namespace Go.Proofs.YtmgjdcpfeihioaaDoor
open Go.RowKit Go.BigFrame
set_option linter.unusedVariables false
set_option linter.unusedSimpArgs false

theorem w64_nat {j : Nat} (h : j < 4611686018427387904) : RowKit.wrap64 (j : Int) = (j : Int) := by unfold RowKit.wrap64; omega
theorem w64_pre {j : Nat} (h0 : 0 < j) (h : j < 4611686018427387904) : RowKit.wrap64 ((j : Int) - 1) = (j : Int) - 1 := by unfold RowKit.wrap64; omega
theorem w64_wrap {j : Nat} (h0 : 0 < j) (h : j < 4611686018427387904) : IntKind.i64.wrap ((j : Int) - 1) = (j : Int) - 1 := by simp [IntKind.wrap, IntKind.signed, IntKind.bits]; omega
theorem nodeW_ok (z : Int) (l m : List Nat) (w : World) (hz : -9223372036854775808 ≤ z ∧ z ≤ 9223372036854775807) (hw : widthB z = true) (hl : Dg l) (hm : Dg m) (hlf : formB z l = true) (hmf : formB z m = true) (hT : Tabs w) :
    Calls Tryd.prog 7 #[.int .i64 z, .agg (brow l), .agg (brow m)] w fun e w' => e = .returned (.tuple #[.agg (brow (nodS z l m)), .int .i64 0]) ∧ Kept [] w w' := by
  have h := node_all z l m w hz hl.1 hm.1 hl.2 hm.2 hT
  rw [formedE_two hw hlf hmf] at h
  have e1 : sunD 0 z (nodeB z l m) = nodS z l m := by unfold nodS sunD; rw [if_pos rfl]
  have e2 : sunE 0 z = 0 := by simp [sunE, sumE, hw]
  rw [e1, e2] at h
  exact h
theorem Rw.drew {W w' : World} {ty : TypeId} {l : List (Nat × Array Value)} (h : Rw W w' ty l) : Rw W w'.drew ty l := ⟨h.1.drew, h.2.1, h.2.2⟩
theorem wl_bound {a b : Nat} (h : a = b) (h2 : b ≤ 1048576) : a < 4611686018427387904 := by omega
theorem pos_of {a b k : Nat} (h : a = b) (h2 : k < b) : 0 < a := by omega
theorem idx_lt {a b k : Nat} (h : a = b) (h2 : k < b) : a - 1 - k < a := by omega
theorem idx_int {a b k : Nat} (h : a = b) (h2 : k < b) : (a : Int) - 1 - k = ((a - 1 - k : Nat) : Int) := by omega
theorem dsz {l : List Nat} (h : l.length = 32) : (Tryd.prog.info? 23).map (·.size) = some (brow l).size := by rw [brow_size, h]; exact Tryd.size_dig

set_option maxRecDepth 100000 in
set_option maxHeartbeats 16000000 in
theorem mcheckShows_walk (q : AskD) (leaf : List Nat) (v : Value) (p : List (List Nat)) (pv : Value) (w : World) (hq : OkA w q pv) (hl : leaf.length = 32) (hb : ∀ x ∈ leaf, x < 256) (hp : RdD w v p) (hpl : p.length ≤ 1048576) (hT : Tabs w) :
    Calls Tryd.prog 3 #[.agg (askC q pv).toArray, .agg (brow leaf), v] w fun e w' => e = .returned (.bool true) ∧ Below w.heap.size w w' := by
  have HT := hide hT
  have HQ := hide hq
  have HP := hide hp
  have HLD := hide (⟨hl, hb⟩ : Dg leaf)
  have hll := hq.l.1
  obtain ⟨ao, len, cap, rfl, h1, h2, h3, h4, h5⟩ := id hq.p
  obtain ⟨ap, lenp, capp, rfl, g1, g2, g3, g4, g5⟩ := id hp
  subst h1
  subst g1
  clear hT h4 h5 g4 g5 hq hp hb
  have HG := hide (heap_alloc2_old w (.cells (askC q (.slice ao q.p.length cap)).toArray 27) (.cells (brow leaf) 23))
  have HGL := hide (heap_alloc2_new w (.cells (askC q (.slice ao q.p.length cap)).toArray 27) (.cells (brow leaf) 23))
  have HK0 := hide (((Kept.refl [] w).alloc (.cells (askC q (.slice ao q.p.length cap)).toArray 27)).alloc (.cells (brow leaf) 23))
  have HSL := hide (by rw [List.length_map, hll]; exact Tryd.size_dig : (Tryd.prog.info? 23).map (·.size) = some (q.l.map u8).length)
  have HSF := hide (by rw [brow_size, hl]; exact Tryd.size_dig : (Tryd.prog.info? 23).map (·.size) = some (brow leaf).size)
  go_enter Tryd.func3, Tryd.ntmps3
  go_wp2_with fail
  obtain ⟨W, hW⟩ : ∃ W, (w.alloc (.cells (askC q (.slice ao q.p.length cap)).toArray 27)).alloc (.cells (brow leaf) 23) = W := ⟨_, rfl⟩
  rw [hW] at HG HGL HK0 ⊢
  clear hW
  refine Calls.mono (mawake_any _ ((unhide HT).k (unhide HK0))) ?_
  rintro e w1 ⟨rfl, k1⟩
  have HK1 := hide ((unhide HK0).trans k1 (by simp))
  have HG1 := hide (k1.heap (unhide HG) (by simp))
  have HGL1 := hide (k1.heap (unhide HGL) (by simp))
  have HQ1 := hide ((unhide HQ).old (unhide HK1))
  have HT1 := hide ((unhide HT).k (unhide HK1))
  clear k1 HG HGL HK0
  obtain ⟨c0, r1, ⟨c33, c34, c35⟩, r36⟩ := ask_cells (unhide HG1) hll
  have HR1 := hide r1
  clear r1 r36
  go_wp2_with (refine wpList_load_mid rfl 23 _ rfl w.heap.size 1 rfl (q.l.map u8) _ (unhide HR1) Tryd.underlying23 rfl (unhide HSL) ?_)
  refine Calls.mono (rootOf_any q.z q.l q.i q.n _ q.p _ (unhide HQ).z (unhide HQ).l (unhide HQ).i (unhide HQ).n (unhide HQ1).p (unhide HT1)) ?_
  rintro e w2 ⟨rfl, k2⟩
  have HDG1 := hide (rootD_dg (z := q.z) (i := q.i) (n := q.n) (p := q.p) (unhide HQ).l)
  have HWay1 := hide (fun h => root_way (z := q.z) (leaf := q.l) (i := q.i) (n := q.n) (p := q.p) h)
  generalize rootD q.z q.l q.i q.n q.p = D1 at HDG1 HWay1 ⊢
  generalize rootE q.z q.l q.i q.n q.p = E1 at HWay1 ⊢
  have hd1 := (unhide HDG1).1
  have kN := (k2.alloc (.cells (zb 32) 23)).setRow (g := w2.heap.size) (Or.inr k2.size) (brow D1)
  have HN2 := hide (setRow_heap (w2.alloc (.cells (zb 32) 23)) w2.heap.size (zb 32) (brow D1) 23 (0, 0) (heap_alloc_new _ _))
  have HK2 := hide ((unhide HK1).trans kN (by simp))
  have HG2 := hide (kN.heap (unhide HG1) (by simp))
  have HGL2 := hide (kN.heap (unhide HGL1) (by simp))
  have HS1 := hide (by rw [brow_size, hd1]; exact Tryd.size_dig : (Tryd.prog.info? 23).map (·.size) = some (brow D1).size)
  clear kN k2 HG1 HGL1 HR1 c0 c33 c34 c35 HQ1 HT1 HK1
  obtain ⟨c0, r1, ⟨c33, c34, c35⟩, r36⟩ := ask_cells (unhide HG2) hll
  have HR1 := hide r1
  clear r1 r36
  go_wp2_with (first
    | (rw [zb32]; refine wpList_store_row rfl 23 _ _ rfl w2.heap.size (brow D1) rfl rfl _ (zb 32) (heap_alloc_new _ _) (unhide HS1) (by rw [zb_size, brow_size, hd1]) (brow_one _) ?_)
    | (refine wpList_load_row rfl 23 _ rfl (w.heap.size + 1) rfl _ (brow leaf) (0, 0) _ (unhide HGL2) Tryd.underlying23 rfl (unhide HSF) ?_))
  refine Calls.mono (rootOf_any q.z leaf q.i q.n _ p _ (unhide HQ).z (unhide HLD) (unhide HQ).i (unhide HQ).n ((unhide HP).old (unhide HK2)) ((unhide HT).k (unhide HK2))) ?_
  rintro e w3 ⟨rfl, k3⟩
  have HDG2 := hide (rootD_dg (z := q.z) (i := q.i) (n := q.n) (p := p) (unhide HLD))
  have HWay2 := hide (fun h => root_way (z := q.z) (leaf := leaf) (i := q.i) (n := q.n) (p := p) h)
  generalize rootD q.z leaf q.i q.n p = D2 at HDG2 HWay2 ⊢
  generalize rootE q.z leaf q.i q.n p = E2 at HWay2 ⊢
  have hd2 := (unhide HDG2).1
  have kN := (k3.alloc (.cells (zb 32) 23)).setRow (g := w3.heap.size) (Or.inr k3.size) (brow D2)
  have HM3 := hide (setRow_heap (w3.alloc (.cells (zb 32) 23)) w3.heap.size (zb 32) (brow D2) 23 (0, 0) (heap_alloc_new _ _))
  have HN3 := hide (kN.heap (unhide HN2) (by simp))
  have HK3 := hide ((unhide HK2).trans kN (by simp))
  have HG3 := hide (kN.heap (unhide HG2) (by simp))
  have HGL3 := hide (kN.heap (unhide HGL2) (by simp))
  have HS2 := hide (by rw [brow_size, hd2]; exact Tryd.size_dig : (Tryd.prog.info? 23).map (·.size) = some (brow D2).size)
  clear kN k3 HG2 HGL2 HN2 HR1 c0 c33 c34 c35 HK2
  obtain ⟨c0, r1, ⟨c33, c34, c35⟩, r36⟩ := ask_cells (unhide HG3) hll
  have HR1 := hide r1
  clear r1 r36
  by_cases hE1 : E1 = 0
  · subst hE1
    by_cases hE2 : E2 = 0
    · subst hE2
      by_cases hDD : D1 = D2
      · subst hDD
        by_cases hLL : leaf = q.l
        · have heq := fun W => dig_eq W D1 D1 hd1 hd1
          have heq2 := fun W => dig_eq W leaf q.l hl hll
          rw [decide_eq_true rfl] at heq
          rw [decide_eq_true hLL] at heq2
          have heq3 : ∀ W, (Op.equalIn 10000 23 (.agg (brow leaf)) (.agg (q.l.map u8).toArray)).run Tryd.prog W = .ok true W := heq2
          clear hLL
          go_wp2_with (first
            | (rw [zb32]; refine wpList_store_row rfl 23 _ _ rfl w3.heap.size (brow D1) rfl rfl _ (zb 32) (heap_alloc_new _ _) (unhide HS2) (by rw [zb_size, brow_size, hd1]) (brow_one _) ?_)
            | (refine wpList_load_rowG rfl 23 _ rfl w2.heap.size rfl _ (brow D1) (0, 0) _ (unhide HN3) Tryd.underlying23 rfl (unhide HS1) ?_)
            | (refine wpList_load_rowG rfl 23 _ rfl w3.heap.size rfl _ (brow D1) (0, 0) _ (unhide HM3) Tryd.underlying23 rfl (unhide HS1) ?_)
            | (refine wpList_load_rowG rfl 23 _ rfl (w.heap.size + 1) rfl _ (brow leaf) (0, 0) _ (unhide HGL3) Tryd.underlying23 rfl (unhide HSF) ?_)
            | (refine wpList_load_midG rfl 23 _ rfl w.heap.size 1 rfl (q.l.map u8) _ (unhide HR1) Tryd.underlying23 rfl (unhide HSL) ?_))
          go_ret
          exact ⟨rfl, (unhide HK3).below (Nat.le_refl _) (by simp)⟩
        · have heq := fun W => dig_eq W D1 D1 hd1 hd1
          have heq2 := fun W => dig_eq W leaf q.l hl hll
          rw [decide_eq_true rfl] at heq
          rw [decide_eq_false hLL] at heq2
          have heq3 : ∀ W, (Op.equalIn 10000 23 (.agg (brow leaf)) (.agg (q.l.map u8).toArray)).run Tryd.prog W = .ok false W := heq2
          go_wp2_with (first
            | (rw [zb32]; refine wpList_store_row rfl 23 _ _ rfl w3.heap.size (brow D1) rfl rfl _ (zb 32) (heap_alloc_new _ _) (unhide HS2) (by rw [zb_size, brow_size, hd1]) (brow_one _) ?_)
            | (refine wpList_load_rowG rfl 23 _ rfl w2.heap.size rfl _ (brow D1) (0, 0) _ (unhide HN3) Tryd.underlying23 rfl (unhide HS1) ?_)
            | (refine wpList_load_rowG rfl 23 _ rfl w3.heap.size rfl _ (brow D1) (0, 0) _ (unhide HM3) Tryd.underlying23 rfl (unhide HS1) ?_)
            | (refine wpList_load_rowG rfl 23 _ rfl (w.heap.size + 1) rfl _ (brow leaf) (0, 0) _ (unhide HGL3) Tryd.underlying23 rfl (unhide HSF) ?_)
            | (refine wpList_load_midG rfl 23 _ rfl w.heap.size 1 rfl (q.l.map u8) _ (unhide HR1) Tryd.underlying23 rfl (unhide HSL) ?_))
          have HLL := hide hLL
          clear hLL heq heq2 heq3
          obtain ⟨X3, hX3⟩ : ∃ X3, (w3.alloc (.cells (zb 32) 23)).setRow w3.heap.size (brow D1) = X3 := ⟨_, rfl⟩
          rw [hX3] at HM3 HN3 HK3 HG3 HGL3 HR1 c0 c33 c34 c35
          rw [hX3]
          clear hX3
          obtain ⟨hin, hwz, hfl1, hfp1, hfit1, HU1⟩ := unhide HWay1 trivial
          obtain ⟨_, _, hfl2, hfp2, hfit2, HU2⟩ := unhide HWay2 trivial
          have hpp : q.p.length = p.length := fitN_len hfit1 hfit2
          have HF1 := hide hfp1
          have HF2 := hide hfp2
          have HUU := hide (by rw [← HU1, hpp]; exact HU2 : upW q.z q.l (wayN q.p.length q.i q.n) q.p q.p.length = upW q.z leaf (wayN q.p.length q.i q.n) p q.p.length)
          have HPP := hide hpp
          clear hpp
          clear HU1 HU2 HWay1 HWay2 hfp1 hfp2 hfit2
          refine Calls.mono (splits_any q.p.length q.i q.n _ hin (unhide HQ).n hfit1 (by have := (unhide HQ).pl; omega)) ?_
          rintro e w4 ⟨wv, rfl, OT⟩
          have HWl := hide (wayN_len q.p.length q.i q.n)
          generalize wayN q.p.length q.i q.n = way at OT HWl HUU
          obtain ⟨wo, wc, rfl⟩ := OT.form
          have HOT := hide OT
          have k4 := OT.kept
          have HK4 := hide ((unhide HK3).trans k4 (by simp))
          have HG4 := hide (k4.heap (unhide HG3) (by simp))
          have HGL4 := hide (k4.heap (unhide HGL3) (by simp))
          clear k4 OT HG3 HGL3 HN3 HM3 HR1 c0 c33 c34 c35
          go_wp2_with fail
          refine wp_lay2 (fun w' => Kept [] w4 w') (by kernel_rfl) (by kernel_rfl) (by kernel_rfl) (by kernel_rfl) (by kernel_rfl) (by kernel_rfl) (by kernel_rfl) (by kernel_rfl) (by kernel_rfl) (by kernel_rfl) (by kernel_rfl) (by kernel_rfl) (by kernel_rfl) (by kernel_rfl) rfl rfl rfl rfl
            (Kept.refl [] w4).drew (.pointer (some ⟨w.heap.size, 1, none⟩)) (.agg (q.l.map u8).toArray) (.agg (leaf.map u8).toArray) _ _ _ (by simp only [Act.put, List.setIfInBounds_toArray, List.set_cons_zero, List.set_cons_succ]; rfl) (by simp only [Act.put, List.setIfInBounds_toArray, List.set_cons_zero, List.set_cons_succ]; rfl) (by simp only [Act.put, List.setIfInBounds_toArray, List.set_cons_zero, List.set_cons_succ]; rfl)
            (by exact Or.inl ⟨by rfl, fun W' hW' => by go_simp⟩)
            (by exact yieldsIf_load_mid (by rfl) _ _ rfl w.heap.size 1 rfl (q.l.map u8) _ (fun W' hW' => (ask_cells (hW'.heap (unhide HG4) (by simp)) hll).2.1) Tryd.underlying23 rfl (unhide HSL))
            (by exact yieldsIf_load_mid (by rfl) _ _ rfl (w.heap.size + 1) 0 rfl (leaf.map u8) _ (fun W' hW' => range_row (hW'.heap (unhide HGL4) (by simp))) Tryd.underlying23 rfl (by rw [List.length_map, hl]; exact Tryd.size_dig))
            23 (zb 32)
            (by intro a' w' K h; unfold Oper.wp execOp; go_simp; exact h) (by intro a' w' K h; unfold Oper.wp execOp; go_simp; exact h)
            (by intro d h; cases h; simp)
            (fun w' k => (Kept.refl [] w4).drew.trans k (by simp)) (brow q.l) (brow leaf)
            (by intro h3 h4 w' K hh hK; exact wp_store_row 23 _ _ rfl h3 (brow q.l) rfl rfl _ (zb 32) hh (by rw [brow_size, hll]; exact Tryd.size_dig) (by rw [zb_size, brow_size, hll]) (brow_one _) hK)
            (by intro h3 h4 w' K hh hK; exact wp_store_row 23 _ _ rfl h4 (brow leaf) rfl rfl _ (zb 32) hh (by rw [brow_size, hl]; exact Tryd.size_dig) (by rw [zb_size, brow_size, hl]) (brow_one _) hK) ?_
          intro gx gy w5 R5
          simp only [Act.put, List.setIfInBounds_toArray, List.set_cons_zero, List.set_cons_succ]
          have HK5 := hide ((Kept.refl [] w4).drew.trans R5.1 (by simp) : Kept [] w4 w5)
          have hgx : w4.heap.size ≤ gx := (R5.2.2 (gx, brow q.l) (by simp)).1
          have hgy : w4.heap.size ≤ gy := (R5.2.2 (gy, brow leaf) (by simp)).1
          have HX5 : Hid (w5.heap[gx]? = some (.cells (brow q.l) 23 (0, 0))) := hide (R5.2.2 (gx, brow q.l) (by simp)).2
          have HY5 : Hid (w5.heap[gy]? = some (.cells (brow leaf) 23 (0, 0))) := hide (R5.2.2 (gy, brow leaf) (by simp)).2
          have hxy : gx ≠ gy := by have := R5.2.1; simp at this; exact this
          clear R5
          have c35 := (ask_cells ((unhide HK5).heap (unhide HG4) (by simp)) hll).2.2.1.2.2
          go_wp2_with fail
          clear c35
          go_loopw [79] (fun t79 wr => ∃ k : Nat, k ≤ q.p.length ∧ t79 = .int .i64 k ∧ Hid (wr.heap[gx]? = some (.cells (brow (upW q.z q.l way q.p k)) 23 (0, 0))) ∧ Hid (wr.heap[gy]? = some (.cells (brow (upW q.z leaf way p k)) 23 (0, 0))) ∧ Hid (upW q.z q.l way q.p k ≠ upW q.z leaf way p k) ∧ Hid (Kept [] w4 wr)) (fun t _ => q.p.length - (intOf t).toNat)
          case atStart => exact ⟨0, Nat.zero_le _, rfl, HX5, HY5, hide (fun h9 => unhide HLL h9.symm), HK5⟩
          case round =>
            clear HX5 HY5 HK5
            obtain ⟨k, hk, rfl, HX, HY, HXY, HK⟩ := hrel
            by_cases hlt : k < q.p.length
            · have hlt' : (k : Int) < q.p.length := by omega
              have HOKX := hide (upW_ok (wy := way) (p := q.p) hwz (unhide HQ).l hfl1 k)
              have HOKY := hide (upW_ok (wy := way) (p := p) hwz (unhide HLD) hfl2 k)
              have HNX := hide (by conv => lhs; unfold upW
                                   : upW q.z q.l way q.p (k + 1) = if way.getD (way.length - 1 - k) false then nodS q.z (upW q.z q.l way q.p k) (q.p.getD k []) else nodS q.z (q.p.getD k []) (upW q.z q.l way q.p k))
              have HNY := hide (by conv => lhs; unfold upW
                                   : upW q.z leaf way p (k + 1) = if way.getD (way.length - 1 - k) false then nodS q.z (upW q.z leaf way p k) (p.getD k []) else nodS q.z (p.getD k []) (upW q.z leaf way p k))
              generalize upW q.z q.l way q.p k = X at HX HXY HOKX HNX
              generalize upW q.z leaf way p k = Y at HY HXY HOKY HNY
              have hkp : k < p.length := by rw [← unhide HPP]; exact hlt
              have hkp' : (k : Int) < p.length := by omega
              have HRQ := hide ((unhide HQ).p.old ((unhide HK4).trans (unhide HK) (by simp)))
              have HRP := hide ((unhide HP).old ((unhide HK4).trans (unhide HK) (by simp)))
              obtain ⟨_, _, _, he, _, _, _, hd9, hc9⟩ := id (unhide HRQ)
              cases he
              obtain ⟨bq, oq, rfl, hrq⟩ := hc9 (by omega)
              obtain ⟨_, _, _, he, _, _, _, hd8, hc8⟩ := id (unhide HRP)
              cases he
              obtain ⟨bp, op, rfl, hrp⟩ := hc8 (by omega)
              have hP1 : Dg (q.p.getD k []) ∧ formB q.z (q.p.getD k []) = true := by
                rw [List.getD_eq_getElem?_getD, List.getElem?_eq_getElem hlt]
                exact ⟨hd9 _ (List.getElem_mem hlt), unhide HF1 _ (List.getElem_mem hlt)⟩
              have hP2 : Dg (p.getD k []) ∧ formB q.z (p.getD k []) = true := by
                rw [List.getD_eq_getElem?_getD, List.getElem?_eq_getElem hkp]
                exact ⟨hd8 _ (List.getElem_mem hkp), unhide HF2 _ (List.getElem_mem hkp)⟩
              have HR1k := hide (hrq k hlt)
              have HR2k := hide (hrp k hkp)
              clear hd9 hc9 hrq hd8 hc8 hrp HRQ HRP
              generalize q.p.getD k [] = P1 at HNX hP1 HR1k
              generalize p.getD k [] = P2 at HNY hP2 HR2k
              have HP1 := hide hP1
              have HP2 := hide hP2
              clear hP1 hP2
              have HGr := hide ((unhide HK).heap (unhide HG4) (by simp))
              go_wp2_with fail
              have hXl := (unhide HOKX).1.1
              have hYl := (unhide HOKY).1.1
              have hP1l := (unhide HP1).1.1
              have hP2l := (unhide HP2).1.1
              have HC35 := hide (fun W' (hW' : Kept [] wr W') => (ask_cells (hW'.heap (unhide HGr) (by simp)) hll).2.2.1.2.2)
              refine wp_lay4 (fun w' => Kept [] wr w') (by kernel_rfl) (by kernel_rfl) (by kernel_rfl) (by kernel_rfl) (by kernel_rfl) (by kernel_rfl) (by kernel_rfl) (by kernel_rfl) (by kernel_rfl) (by kernel_rfl) (by kernel_rfl) (by kernel_rfl) (by kernel_rfl) (by kernel_rfl) (by kernel_rfl) (by kernel_rfl) (by kernel_rfl) (by kernel_rfl) (by kernel_rfl) (by kernel_rfl) (by kernel_rfl) (by kernel_rfl) (by kernel_rfl) (by kernel_rfl) (by kernel_rfl) (by kernel_rfl) (by kernel_rfl) (by kernel_rfl) (by kernel_rfl) (by kernel_rfl) (by kernel_rfl) (by kernel_rfl) (by kernel_rfl) (by kernel_rfl) (by kernel_rfl) (by kernel_rfl) (by kernel_rfl) (by kernel_rfl) (by kernel_rfl) (by kernel_rfl) (by kernel_rfl) (by kernel_rfl) (by kernel_rfl) (by kernel_rfl) rfl rfl rfl rfl rfl rfl rfl rfl 
                (Kept.refl [] wr).drew (.agg (X.map u8).toArray) (.pointer (some ⟨w.heap.size, 35, none⟩)) (.slice (some ⟨bq, oq, none⟩) q.p.length cap) (.int .i64 k) (.pointer (some ⟨bq, oq + k * 32, none⟩)) (.agg (P1.map u8).toArray) (.agg (Y.map u8).toArray) (.slice (some ⟨bp, op, none⟩) p.length capp) (.int .i64 k) (.pointer (some ⟨bp, op + k * 32, none⟩)) (.agg (P2.map u8).toArray)
                _ _ _ _ _ _ _ _ _ _ _ (by simp only [Act.put, List.setIfInBounds_toArray, List.set_cons_zero, List.set_cons_succ]; rfl) (by simp only [Act.put, List.setIfInBounds_toArray, List.set_cons_zero, List.set_cons_succ]; rfl) (by simp only [Act.put, List.setIfInBounds_toArray, List.set_cons_zero, List.set_cons_succ]; rfl) (by simp only [Act.put, List.setIfInBounds_toArray, List.set_cons_zero, List.set_cons_succ]; rfl) (by simp only [Act.put, List.setIfInBounds_toArray, List.set_cons_zero, List.set_cons_succ]; rfl) (by simp only [Act.put, List.setIfInBounds_toArray, List.set_cons_zero, List.set_cons_succ]; rfl) (by simp only [Act.put, List.setIfInBounds_toArray, List.set_cons_zero, List.set_cons_succ]; rfl) (by simp only [Act.put, List.setIfInBounds_toArray, List.set_cons_zero, List.set_cons_succ]; rfl) (by simp only [Act.put, List.setIfInBounds_toArray, List.set_cons_zero, List.set_cons_succ]; rfl) (by simp only [Act.put, List.setIfInBounds_toArray, List.set_cons_zero, List.set_cons_succ]; rfl) (by simp only [Act.put, List.setIfInBounds_toArray, List.set_cons_zero, List.set_cons_succ]; rfl) 
                (by exact yieldsIf_load_mid (by rfl) _ _ rfl gx 0 rfl (X.map u8) _ (fun W' hW' => range_row (hW'.heap (unhide HX) (by simp))) Tryd.underlying23 rfl (by rw [List.length_map, hXl]; exact Tryd.size_dig))
                (by exact Or.inl ⟨by rfl, fun W' hW' => by go_simp⟩)
                (by exact Or.inl ⟨by rfl, fun W' hW' => by have h9 := unhide HC35 W' hW'; go_simp⟩)
                (by exact Or.inl ⟨by rfl, fun W' hW' => by go_simp⟩)
                (by exact Or.inl ⟨by rfl, fun W' hW' => by go_simp⟩)
                (by exact yieldsIf_load_mid (by rfl) _ _ rfl bq (oq + k * 32) rfl (P1.map u8) _ (fun W' hW' => range_kept (unhide HR1k) hW' (by simp)) Tryd.underlying23 rfl (by rw [List.length_map, hP1l]; exact Tryd.size_dig))
                (by exact yieldsIf_load_mid (by rfl) _ _ rfl gy 0 rfl (Y.map u8) _ (fun W' hW' => range_row (hW'.heap (unhide HY) (by simp))) Tryd.underlying23 rfl (by rw [List.length_map, hYl]; exact Tryd.size_dig))
                (by exact Or.inl ⟨by rfl, fun W' hW' => by go_simp⟩)
                (by exact Or.inl ⟨by rfl, fun W' hW' => by go_simp⟩)
                (by exact Or.inl ⟨by rfl, fun W' hW' => by go_simp⟩)
                (by exact yieldsIf_load_mid (by rfl) _ _ rfl bp (op + k * 32) rfl (P2.map u8) _ (fun W' hW' => range_kept (unhide HR2k) hW' (by simp)) Tryd.underlying23 rfl (by rw [List.length_map, hP2l]; exact Tryd.size_dig))
                23 (zb 32) (by intro a' w' K h; unfold Oper.wp execOp; go_simp; exact h) (by intro a' w' K h; unfold Oper.wp execOp; go_simp; exact h) (by intro a' w' K h; unfold Oper.wp execOp; go_simp; exact h) (by intro a' w' K h; unfold Oper.wp execOp; go_simp; exact h) (by intro d h; cases h; simp) (by intro d h; cases h; simp) (by intro d h; cases h; simp) (by intro d h; cases h; simp) (by intro d h; cases h; simp) (by intro d h; cases h; simp) (fun w' k => (Kept.refl [] wr).drew.trans k (by simp)) (brow X) (brow P1) (brow Y) (brow P2)
                (by intro h11 h12 h13 h14 w' K hh hK; exact wp_store_row 23 _ _ rfl h11 (brow X) rfl rfl _ (zb 32) hh (by rw [brow_size, hXl]; exact Tryd.size_dig) (by rw [zb_size, brow_size, hXl]) (brow_one _) hK)
                (by intro h11 h12 h13 h14 w' K hh hK; exact wp_store_row 23 _ _ rfl h12 (brow P1) rfl rfl _ (zb 32) hh (by rw [brow_size, hP1l]; exact Tryd.size_dig) (by rw [zb_size, brow_size, hP1l]) (brow_one _) hK)
                (by intro h11 h12 h13 h14 w' K hh hK; exact wp_store_row 23 _ _ rfl h13 (brow Y) rfl rfl _ (zb 32) hh (by rw [brow_size, hYl]; exact Tryd.size_dig) (by rw [zb_size, brow_size, hYl]) (brow_one _) hK)
                (by intro h11 h12 h13 h14 w' K hh hK; exact wp_store_row 23 _ _ rfl h14 (brow P2) rfl rfl _ (zb 32) hh (by rw [brow_size, hP2l]; exact Tryd.size_dig) (by rw [zb_size, brow_size, hP2l]) (brow_one _) hK) ?_
              intro ga gb gc gd w6 R6
              simp only [Act.put, List.setIfInBounds_toArray, List.set_cons_zero, List.set_cons_succ]
              have HR6 := hide R6
              have HK6 := hide ((unhide HK).trans ((Kept.refl [] wr).drew.trans R6.1 (by simp)) (by simp) : Kept [] w4 w6)
              clear R6 HR1k HR2k HC35
              obtain ⟨gw, cw, hws, hwc⟩ := (unhide HOT).cells (pos_of (unhide HWl) hlt)
              cases hws
              have hwl : way.length = q.p.length := unhide HWl
              have hwk : way.length - 1 - k < way.length := idx_lt hwl hlt
              have cW := (unhide HK6).cell (hwc (way.length - 1 - k) hwk) (by simp)
              have hwi : (way.length : Int) - 1 - k = ((way.length - 1 - k : Nat) : Int) := idx_int hwl hlt
              have HWB := hide (wl_bound hwl (unhide HQ).pl)
              have HWI := hide hwi
              clear hwc hwi
              obtain ⟨j, hj⟩ : ∃ j, way.length - 1 - k = j := ⟨_, rfl⟩
              rw [hj] at cW hwk HWI HNX HNY
              have hwi : (way.length : Int) - 1 - k = (j : Int) := unhide HWI
              have hwr : IntKind.i64.wrap ((way.length : Int) - 1) = (way.length : Int) - 1 := w64_wrap (pos_of hwl hlt) (unhide HWB)
              have hjl : (j : Int) < way.length := Int.ofNat_lt.2 hwk
              have hw64 : RowKit.wrap64 (j : Int) = (j : Int) := w64_nat (Nat.lt_trans hwk (unhide HWB))
              have hw65 : RowKit.wrap64 ((way.length : Int) - 1) = (way.length : Int) - 1 := w64_pre (pos_of hwl hlt) (unhide HWB)
              have hj0 : (0 : Int) ≤ j := Int.natCast_nonneg j
              clear hj HWI
              have HWL2 := hide hwl
              clear hwl HK6
              obtain hbb | hbb : way.getD j false = true ∨ way.getD j false = false := by cases way.getD j false <;> simp
              case' inl =>
                rw [hbb] at cW HNX HNY
                rw [if_pos rfl] at HNX HNY
                clear hbb
                obtain ⟨L1, R1, L2, R2, w9, hw9, HL1, HR1, HL2, HR2, HNE, HN1, HN2, HRR⟩ : ∃ L1 R1 L2 R2 : List Nat, ∃ w9 : World, w9 = w6 ∧ Hid (Dg L1 ∧ formB q.z L1 = true) ∧ Hid (Dg R1 ∧ formB q.z R1 = true) ∧ Hid (Dg L2 ∧ formB q.z L2 = true) ∧ Hid (Dg R2 ∧ formB q.z R2 = true) ∧ Hid (¬ (L1 = L2 ∧ R1 = R2)) ∧ Hid (upW q.z q.l way q.p (k + 1) = nodS q.z L1 R1) ∧ Hid (upW q.z leaf way p (k + 1) = nodS q.z L2 R2) ∧ Hid (Rw wr.drew w9 23 [(ga, brow L1), (gb, brow R1), (gc, brow L2), (gd, brow R2)]) := ⟨X, P1, Y, P2, w6, rfl, HOKX, HP1, HOKY, HP2, hide (fun h9 => unhide HXY h9.1), HNX, HNY, HR6⟩
                subst hw9
                clear HR6 HNX HNY
              case' inr =>
                rw [hbb] at cW HNX HNY
                rw [if_neg (by simp)] at HNX HNY
                clear hbb
                go_wp2_with fail
                clear cW hwi hwr hjl hw64 hw65 hj0 hwk
                have HQ0 := hide (unhide HR6).drew
                have HQ1 := hide (Rw.store (pre := []) (c := brow P1) (unhide HQ0))
                have HQ2 := hide (Rw.store (pre := [(ga, brow P1)]) (c := brow X) (unhide HQ1))
                have HQ3 := hide (Rw.store (pre := [(ga, brow P1), (gb, brow X)]) (c := brow P2) (unhide HQ2))
                have HQ4 := hide (Rw.store (pre := [(ga, brow P1), (gb, brow X), (gc, brow P2)]) (c := brow Y) (unhide HQ3))
                simp only [List.nil_append, List.cons_append] at HQ1 HQ2 HQ3 HQ4
                refine wp_swap8 (fun w' => w'.heap[ga]? = some (.cells (brow X) 23 (0, 0)) ∧ w'.heap[gb]? = some (.cells (brow P1) 23 (0, 0)) ∧ w'.heap[gc]? = some (.cells (brow Y) 23 (0, 0))) (fun w' => w'.heap[gd]? = some (.cells (brow P2) 23 (0, 0))) (by kernel_rfl) (by kernel_rfl) (by kernel_rfl) (by kernel_rfl) (by kernel_rfl) (by kernel_rfl) (by kernel_rfl) (by kernel_rfl) (by kernel_rfl) (by kernel_rfl) (by kernel_rfl) (by kernel_rfl) (by kernel_rfl) (by kernel_rfl) (by kernel_rfl) rfl (by kernel_rfl) rfl (by kernel_rfl) rfl (by kernel_rfl) rfl (by kernel_rfl)
                  ⟨((unhide HQ0).2.2 (ga, brow X) (by simp)).2, ((unhide HQ0).2.2 (gb, brow P1) (by simp)).2, ((unhide HQ0).2.2 (gc, brow Y) (by simp)).2⟩ ((unhide HQ0).2.2 (gd, brow P2) (by simp)).2
                  (.agg (P1.map u8).toArray) (.agg (X.map u8).toArray) (.agg (P2.map u8).toArray) (.agg (Y.map u8).toArray) _ _ _ _ (by simp only [Act.put, List.setIfInBounds_toArray, List.set_cons_zero, List.set_cons_succ]; rfl) (by simp only [Act.put, List.setIfInBounds_toArray, List.set_cons_zero, List.set_cons_succ]; rfl) (by simp only [Act.put, List.setIfInBounds_toArray, List.set_cons_zero, List.set_cons_succ]; rfl) (by simp only [Act.put, List.setIfInBounds_toArray, List.set_cons_zero, List.set_cons_succ]; rfl)
                  (by exact yieldsIf_load_mid (by rfl) _ _ rfl gb 0 rfl (P1.map u8) _ (fun W' hW' => range_row hW'.2.1) Tryd.underlying23 rfl (by rw [List.length_map, hP1l]; exact Tryd.size_dig))
                  (by exact yieldsIf_load_mid (by rfl) _ _ rfl ga 0 rfl (X.map u8) _ (fun W' hW' => range_row hW'.1) Tryd.underlying23 rfl (by rw [List.length_map, hXl]; exact Tryd.size_dig))
                  (by exact yieldsIf_load_mid (by rfl) _ _ rfl gd 0 rfl (P2.map u8) _ (fun W' hW' => range_row hW') Tryd.underlying23 rfl (by rw [List.length_map, hP2l]; exact Tryd.size_dig))
                  (by exact yieldsIf_load_mid (by rfl) _ _ rfl gc 0 rfl (Y.map u8) _ (fun W' hW' => range_row hW'.2.2) Tryd.underlying23 rfl (by rw [List.length_map, hYl]; exact Tryd.size_dig))
                  (w6.drew.setRow ga (brow P1)) ((w6.drew.setRow ga (brow P1)).setRow gb (brow X)) (((w6.drew.setRow ga (brow P1)).setRow gb (brow X)).setRow gc (brow P2)) ((((w6.drew.setRow ga (brow P1)).setRow gb (brow X)).setRow gc (brow P2)).setRow gd (brow Y))
                  (by intro K hK; exact wp_store_row 23 _ _ rfl ga (brow P1) rfl rfl _ (brow X) ((unhide HQ0).2.2 (ga, brow X) (by simp)).2 (dsz hP1l) (by rw [brow_size, brow_size, hP1l, hXl]) (brow_one _) hK) ((unhide HQ1).2.2 (gd, brow P2) (by simp)).2
                  (by intro K hK; exact wp_store_row 23 _ _ rfl gb (brow X) rfl rfl _ (brow P1) ((unhide HQ1).2.2 (gb, brow P1) (by simp)).2 (dsz hXl) (by rw [brow_size, brow_size, hXl, hP1l]) (brow_one _) hK) ((unhide HQ2).2.2 (gd, brow P2) (by simp)).2
                  (by intro K hK; exact wp_store_row 23 _ _ rfl gc (brow P2) rfl rfl _ (brow Y) ((unhide HQ2).2.2 (gc, brow Y) (by simp)).2 (dsz hP2l) (by rw [brow_size, brow_size, hP2l, hYl]) (brow_one _) hK)
                  (by intro K hK; exact wp_store_row 23 _ _ rfl gd (brow Y) rfl rfl _ (brow P2) ((unhide HQ3).2.2 (gd, brow P2) (by simp)).2 (dsz hYl) (by rw [brow_size, brow_size, hYl, hP2l]) (brow_one _) hK) ?_
                clear HQ0 HQ1 HQ2 HQ3
                obtain ⟨L1, R1, L2, R2, w9, hw9, HL1, HR1, HL2, HR2, HNE, HN1, HN2, HRR⟩ : ∃ L1 R1 L2 R2 : List Nat, ∃ w9 : World, w9 = (((w6.drew.setRow ga (brow P1)).setRow gb (brow X)).setRow gc (brow P2)).setRow gd (brow Y) ∧ Hid (Dg L1 ∧ formB q.z L1 = true) ∧ Hid (Dg R1 ∧ formB q.z R1 = true) ∧ Hid (Dg L2 ∧ formB q.z L2 = true) ∧ Hid (Dg R2 ∧ formB q.z R2 = true) ∧ Hid (¬ (L1 = L2 ∧ R1 = R2)) ∧ Hid (upW q.z q.l way q.p (k + 1) = nodS q.z L1 R1) ∧ Hid (upW q.z leaf way p (k + 1) = nodS q.z L2 R2) ∧ Hid (Rw wr.drew w9 23 [(ga, brow L1), (gb, brow R1), (gc, brow L2), (gd, brow R2)]) := ⟨P1, X, P2, Y, _, rfl, HP1, HOKX, HP2, HOKY, hide (fun h9 => unhide HXY h9.2), HNX, HNY, HQ4⟩
                rw [← hw9]
                clear hw9 HR6 HNX HNY HQ4
              all_goals
                have hL1 := (unhide HL1).1.1
                have hR1 := (unhide HR1).1.1
                have hL2 := (unhide HL2).1.1
                have hR2 := (unhide HR2).1.1
                have HK9w := hide ((Kept.refl [] wr).drew.trans (unhide HRR).1 (by simp) : Kept [] wr w9)
                have HA6 : Hid (w9.heap[ga]? = some (.cells (brow L1) 23 (0, 0))) := hide ((unhide HRR).2.2 (ga, brow L1) (by simp)).2
                have HB6 : Hid (w9.heap[gb]? = some (.cells (brow R1) 23 (0, 0))) := hide ((unhide HRR).2.2 (gb, brow R1) (by simp)).2
                have HC6 : Hid (w9.heap[gc]? = some (.cells (brow L2) 23 (0, 0))) := hide ((unhide HRR).2.2 (gc, brow L2) (by simp)).2
                have HD6 : Hid (w9.heap[gd]? = some (.cells (brow R2) 23 (0, 0))) := hide ((unhide HRR).2.2 (gd, brow R2) (by simp)).2
                have HK6 := hide ((unhide HK).trans (unhide HK9w) (by simp) : Kept [] w4 w9)
                have HX6 := hide ((unhide HK9w).heap (unhide HX) (by simp))
                have HY6 := hide ((unhide HK9w).heap (unhide HY) (by simp))
                have HG6 := hide ((unhide HK6).heap (unhide HG4) (by simp))
                have HKw6 := hide ((unhide HK4).trans (unhide HK6) (by simp))
                clear HRR HX HY HK9w
                have c0 := (ask_cells (unhide HG6) hll).1
                go_wp2_with (first
                  | (refine wpList_load_row rfl 23 _ rfl ga rfl _ (brow L1) (0, 0) _ (unhide HA6) Tryd.underlying23 rfl (dsz hL1) ?_)
                  | (refine wpList_load_row rfl 23 _ rfl gb rfl _ (brow R1) (0, 0) _ (unhide HB6) Tryd.underlying23 rfl (dsz hR1) ?_))
                try clear cW
                try clear hwi
                try clear hwr
                try clear hjl
                try clear hw64
                try clear hw65
                try clear hj0
                try clear hwk
                try clear hlt'
                try clear hkp'
                refine Calls.mono (nodeW_ok q.z L1 R1 _ (unhide HQ).z hwz (unhide HL1).1 (unhide HR1).1 (unhide HL1).2 (unhide HR1).2 ((unhide HT).k (unhide HKw6))) ?_
                rintro e w7 ⟨rfl, k7⟩
                have hN1 := (nodS_dg q.z L1 R1).1
                generalize nodS q.z L1 R1 = N1 at HN1 hN1 ⊢
                have kN := (k7.alloc (.cells (zb 32) 23)).setRow (g := w7.heap.size) (Or.inr k7.size) (brow N1)
                have HE7 := hide (setRow_heap (w7.alloc (.cells (zb 32) 23)) w7.heap.size (zb 32) (brow N1) 23 (0, 0) (heap_alloc_new _ _))
                have HK7 := hide ((unhide HK6).trans kN (by simp))
                have HA7 := hide (kN.heap (unhide HA6) (by simp))
                have HB7 := hide (kN.heap (unhide HB6) (by simp))
                have HC7 := hide (kN.heap (unhide HC6) (by simp))
                have HD7 := hide (kN.heap (unhide HD6) (by simp))
                have HX7 := hide (kN.heap (unhide HX6) (by simp))
                have HY7 := hide (kN.heap (unhide HY6) (by simp))
                have HG7 := hide (kN.heap (unhide HG6) (by simp))
                have HKw7 := hide ((unhide HKw6).trans kN (by simp))
                have HGX := hide (Nat.lt_of_lt_of_le (lt_of_block (unhide HX6)) k7.size : gx < w7.heap.size)
                have HGY := hide (Nat.lt_of_lt_of_le (lt_of_block (unhide HY6)) k7.size : gy < w7.heap.size)
                clear kN k7 c0 HA6 HB6 HC6 HD6 HX6 HY6 HG6 HKw6 HK6
                have c0 := (ask_cells (unhide HG7) hll).1
                go_wp2_with (first
                  | (rw [zb32]; refine wpList_store_row rfl 23 _ _ rfl w7.heap.size (brow N1) rfl rfl _ (zb 32) (heap_alloc_new _ _) (dsz hN1) (by rw [zb_size, brow_size, hN1]) (brow_one _) ?_)
                  | (refine wpList_load_row rfl 23 _ rfl gc rfl _ (brow L2) (0, 0) _ (unhide HC7) Tryd.underlying23 rfl (dsz hL2) ?_)
                  | (refine wpList_load_row rfl 23 _ rfl gd rfl _ (brow R2) (0, 0) _ (unhide HD7) Tryd.underlying23 rfl (dsz hR2) ?_))
                refine Calls.mono (nodeW_ok q.z L2 R2 _ (unhide HQ).z hwz (unhide HL2).1 (unhide HR2).1 (unhide HL2).2 (unhide HR2).2 ((unhide HT).k (unhide HKw7))) ?_
                rintro e w8 ⟨rfl, k8⟩
                have hN2 := (nodS_dg q.z L2 R2).1
                generalize nodS q.z L2 R2 = N2 at HN2 hN2 ⊢
                have kN := (k8.alloc (.cells (zb 32) 23)).setRow (g := w8.heap.size) (Or.inr k8.size) (brow N2)
                have HF8 := hide (setRow_heap (w8.alloc (.cells (zb 32) 23)) w8.heap.size (zb 32) (brow N2) 23 (0, 0) (heap_alloc_new _ _))
                have HE8 := hide (kN.heap (unhide HE7) (by simp))
                have HK8 := hide ((unhide HK7).trans kN (by simp))
                have HA8 := hide (kN.heap (unhide HA7) (by simp))
                have HB8 := hide (kN.heap (unhide HB7) (by simp))
                have HC8 := hide (kN.heap (unhide HC7) (by simp))
                have HD8 := hide (kN.heap (unhide HD7) (by simp))
                have HX8 := hide (kN.heap (unhide HX7) (by simp))
                have HY8 := hide (kN.heap (unhide HY7) (by simp))
                have HKw8 := hide ((unhide HKw7).trans kN (by simp))
                have HLT := hide (Nat.lt_of_lt_of_le (lt_of_block (unhide HE7)) k8.size : w7.heap.size < w8.heap.size)
                clear kN k8 c0 HA7 HB7 HC7 HD7 HX7 HY7 HG7 HKw7 HE7 HK7
                by_cases hNN : N1 = N2
                · subst hNN
                  have heq := fun W => dig_eq W N1 N1 hN1 hN1
                  rw [decide_eq_true rfl] at heq
                  by_cases hL : L1 = L2
                  · have hR : ¬ R1 = R2 := fun h9 => unhide HNE ⟨hL, h9⟩
                    have heq2 := fun W => dig_eq W L1 L2 hL1 hL2
                    have heq3 := fun W => dig_eq W R1 R2 hR1 hR2
                    rw [decide_eq_true hL] at heq2
                    rw [decide_eq_false hR] at heq3
                    clear hL hR
                    go_wp2_with (first
                      | (rw [zb32]; refine wpList_store_row rfl 23 _ _ rfl w8.heap.size (brow N1) rfl rfl _ (zb 32) (heap_alloc_new _ _) (dsz hN1) (by rw [zb_size, brow_size, hN1]) (brow_one _) ?_)
                      | (refine wpList_load_rowG rfl 23 _ rfl w7.heap.size rfl _ (brow N1) (0, 0) _ (unhide HE8) Tryd.underlying23 rfl (dsz hN1) ?_)
                      | (refine wpList_load_rowG rfl 23 _ rfl w8.heap.size rfl _ (brow N1) (0, 0) _ (unhide HF8) Tryd.underlying23 rfl (dsz hN1) ?_)
                      | (refine wpList_load_rowG rfl 23 _ rfl ga rfl _ (brow L1) (0, 0) _ (unhide HA8) Tryd.underlying23 rfl (dsz hL1) ?_)
                      | (refine wpList_load_rowG rfl 23 _ rfl gb rfl _ (brow R1) (0, 0) _ (unhide HB8) Tryd.underlying23 rfl (dsz hR1) ?_)
                      | (refine wpList_load_rowG rfl 23 _ rfl gc rfl _ (brow L2) (0, 0) _ (unhide HC8) Tryd.underlying23 rfl (dsz hL2) ?_)
                      | (refine wpList_load_rowG rfl 23 _ rfl gd rfl _ (brow R2) (0, 0) _ (unhide HD8) Tryd.underlying23 rfl (dsz hR2) ?_))
                    go_ret
                    exact ⟨rfl, (unhide HKw8).below (Nat.le_refl _) (by simp)⟩
                  · have heq2 := fun W => dig_eq W L1 L2 hL1 hL2
                    rw [decide_eq_false hL] at heq2
                    clear hL
                    go_wp2_with (first
                      | (rw [zb32]; refine wpList_store_row rfl 23 _ _ rfl w8.heap.size (brow N1) rfl rfl _ (zb 32) (heap_alloc_new _ _) (dsz hN1) (by rw [zb_size, brow_size, hN1]) (brow_one _) ?_)
                      | (refine wpList_load_rowG rfl 23 _ rfl w7.heap.size rfl _ (brow N1) (0, 0) _ (unhide HE8) Tryd.underlying23 rfl (dsz hN1) ?_)
                      | (refine wpList_load_rowG rfl 23 _ rfl w8.heap.size rfl _ (brow N1) (0, 0) _ (unhide HF8) Tryd.underlying23 rfl (dsz hN1) ?_)
                      | (refine wpList_load_rowG rfl 23 _ rfl ga rfl _ (brow L1) (0, 0) _ (unhide HA8) Tryd.underlying23 rfl (dsz hL1) ?_)
                      | (refine wpList_load_rowG rfl 23 _ rfl gc rfl _ (brow L2) (0, 0) _ (unhide HC8) Tryd.underlying23 rfl (dsz hL2) ?_))
                    go_ret
                    exact ⟨rfl, (unhide HKw8).below (Nat.le_refl _) (by simp)⟩
                · have heq := fun W => dig_eq W N1 N2 hN1 hN2
                  rw [decide_eq_false hNN] at heq
                  have HNN := hide hNN
                  clear hNN
                  iterate 55 (try first
                    | (rw [zb32]; refine wpList_store_row rfl 23 _ _ rfl w8.heap.size (brow N2) rfl rfl _ (zb 32) (heap_alloc_new _ _) (dsz hN2) (by rw [zb_size, brow_size, hN2]) (brow_one _) ?_)
                    | (refine wpList_load_rowG rfl 23 _ rfl w7.heap.size rfl _ (brow N1) (0, 0) _ (unhide HE8) Tryd.underlying23 rfl (dsz hN1) ?_)
                    | (refine wpList_load_rowG rfl 23 _ rfl w8.heap.size rfl _ (brow N2) (0, 0) _ (unhide HF8) Tryd.underlying23 rfl (dsz hN2) ?_)
                    | go_values | go_skip | go_guarded | go_step | go_upon | go_back | (simp only [Int.not_lt, Int.not_le] at *; go_simp) | (go_values <;> (try go_simp)) | (go_ite <;> go_prune <;> (try go_simp)) | (split <;> (first | (rename_i hx; exact (hx _ rfl).elim) | go_prune)))
                  go_step
                  go_wp2_with fail
                  have hx8 : w8.heap.size ≠ gx := by have := unhide HLT; have := unhide HGX; omega
                  have hy8 : w8.heap.size ≠ gy := by have := unhide HLT; have := unhide HGY; omega
                  have hx7 : w7.heap.size ≠ gx := by have := unhide HGX; omega
                  have hy7 : w7.heap.size ≠ gy := by have := unhide HGY; omega
                  obtain ⟨wN, hwN⟩ : ∃ wN, (w8.alloc (.cells (zb 32) 23)).setRow w8.heap.size (brow N2) = wN := ⟨_, rfl⟩
                  rw [hwN] at HE8 HF8 HK8 HX8 HY8
                  rw [hwN]
                  clear hwN heq
                  have HX9 := hide (setRow_heap wN.drew gx (brow X) (brow N1) 23 (0, 0) (unhide HX8))
                  have HY9 := hide ((setRow_other wN.drew gx gy (brow N1) (Ne.symm hxy)).trans (unhide HY8))
                  refine wp_asg4 (fun w' => w'.heap[w7.heap.size]? = some (.cells (brow N1) 23 (0, 0)) ∧ w'.heap[w8.heap.size]? = some (.cells (brow N2) 23 (0, 0))) (by kernel_rfl) (by kernel_rfl) (by kernel_rfl) (by kernel_rfl) (by kernel_rfl) (by kernel_rfl) (by kernel_rfl) (by kernel_rfl) (by kernel_rfl) rfl rfl
                    ⟨unhide HE8, unhide HF8⟩ (.agg (N1.map u8).toArray) (.agg (N2.map u8).toArray) _ _ (by simp only [Act.put, List.setIfInBounds_toArray, List.set_cons_zero, List.set_cons_succ]; rfl) (by simp only [Act.put, List.setIfInBounds_toArray, List.set_cons_zero, List.set_cons_succ]; rfl)
                    (by exact yieldsIf_load_mid (by rfl) _ _ rfl w7.heap.size 0 rfl (N1.map u8) _ (fun W' hW' => range_row hW'.1) Tryd.underlying23 rfl (by rw [List.length_map, hN1]; exact Tryd.size_dig))
                    (by exact yieldsIf_load_mid (by rfl) _ _ rfl w8.heap.size 0 rfl (N2.map u8) _ (fun W' hW' => range_row hW'.2) Tryd.underlying23 rfl (by rw [List.length_map, hN2]; exact Tryd.size_dig))
                    (wN.drew.setRow gx (brow N1)) ((wN.drew.setRow gx (brow N1)).setRow gy (brow N2))
                    (by intro K hK; exact wp_store_row 23 _ _ rfl gx (brow N1) rfl rfl _ (brow X) (unhide HX8) (dsz hN1) (by rw [brow_size, brow_size, hN1, hXl]) (brow_one _) hK) ⟨(setRow_other _ _ _ _ hx7).trans (unhide HE8), (setRow_other _ _ _ _ hx8).trans (unhide HF8)⟩
                    (by intro K hK; exact wp_store_row 23 _ _ rfl gy (brow N2) rfl rfl _ (brow Y) (unhide HY9) (dsz hN2) (by rw [brow_size, brow_size, hN2, hYl]) (brow_one _) hK) ⟨(setRow_other _ _ _ _ hy7).trans ((setRow_other _ _ _ _ hx7).trans (unhide HE8)), (setRow_other _ _ _ _ hy8).trans ((setRow_other _ _ _ _ hx8).trans (unhide HF8))⟩ ?_
                  have HZ9 := hide ((setRow_other (wN.drew.setRow gx (brow N1)) gy gx (brow N2) hxy).trans (unhide HX9))
                  have HW9 := hide (setRow_heap (wN.drew.setRow gx (brow N1)) gy (brow Y) (brow N2) 23 (0, 0) (unhide HY9))
                  have HKE := hide (((unhide HK8).drew.setRow (g := gx) (Or.inr hgx) (brow N1)).setRow (g := gy) (Or.inr hgy) (brow N2))
                  obtain ⟨wE, hwE⟩ : ∃ wE, (wN.drew.setRow gx (brow N1)).setRow gy (brow N2) = wE := ⟨_, rfl⟩
                  rw [hwE] at HZ9 HW9 HKE
                  rw [hwE]
                  clear hwE HX9 HY9 HE8 HF8 HK8 HX8 HY8
                  go_wp2_with fail
                  refine ⟨⟨k + 1, hlt, by go_num, by rw [unhide HN1]; exact HZ9, by rw [unhide HN2]; exact HW9, by rw [unhide HN1, unhide HN2]; exact HNN, HKE⟩, ?_⟩
                  simp [intOf]; omega
            · have hke : k = q.p.length := by omega
              exfalso
              subst hke
              exact unhide HXY (unhide HUU)
      · have heq2 := fun W => dig_eq W D1 D2 hd1 hd2
        rw [decide_eq_false hDD] at heq2
        go_wp2_with (first
          | (rw [zb32]; refine wpList_store_row rfl 23 _ _ rfl w3.heap.size (brow D2) rfl rfl _ (zb 32) (heap_alloc_new _ _) (unhide HS2) (by rw [zb_size, brow_size, hd2]) (brow_one _) ?_)
          | (refine wpList_load_rowG rfl 23 _ rfl w2.heap.size rfl _ (brow D1) (0, 0) _ (unhide HN3) Tryd.underlying23 rfl (unhide HS1) ?_)
          | (refine wpList_load_rowG rfl 23 _ rfl w3.heap.size rfl _ (brow D2) (0, 0) _ (unhide HM3) Tryd.underlying23 rfl (unhide HS2) ?_))
        go_ret
        exact ⟨rfl, (unhide HK3).below (Nat.le_refl _) (by simp)⟩
    · have hE2' : ¬ (E2 : Int) = 0 := by omega
      go_wp2_with (rw [zb32]; refine wpList_store_row rfl 23 _ _ rfl w3.heap.size (brow D2) rfl rfl _ (zb 32) (heap_alloc_new _ _) (unhide HS2) (by rw [zb_size, brow_size, hd2]) (brow_one _) ?_)
      go_ret
      exact ⟨rfl, (unhide HK3).below (Nat.le_refl _) (by simp)⟩
  · have hE1' : ¬ (E1 : Int) = 0 := by omega
    go_wp2_with (rw [zb32]; refine wpList_store_row rfl 23 _ _ rfl w3.heap.size (brow D2) rfl rfl _ (zb 32) (heap_alloc_new _ _) (unhide HS2) (by rw [zb_size, brow_size, hd2]) (brow_one _) ?_)
    go_ret
    exact ⟨rfl, (unhide HK3).below (Nat.le_refl _) (by simp)⟩
end Go.Proofs.YtmgjdcpfeihioaaDoor
namespace Go.Proofs.YtmgjdcpfeihioaaDoor
open Go.ChangeShapes Go.WideShapes Go.ChangeAt Go.RowKit Go.Deep
set_option linter.unusedVariables false
set_option linter.unusedSimpArgs false

theorem own : ownKnob Tryd.prog.godebug = none := by kernel_rfl
theorem laidOut : laidOutB Tryd.prog = true := by kernel_rfl
theorem byte_of_wf {x : Int} (h : (Lit.int .u8 x).wf = true) : 0 ≤ x ∧ x < 256 := by
  simp [Lit.wf, IntKind.min, IntKind.max, IntKind.signed, IntKind.bits] at h
  exact ⟨by omega, by omega⟩
theorem int_of_wf {x : Int} (h : (Lit.int .i64 x).wf = true) : -9223372036854775808 ≤ x ∧ x ≤ 9223372036854775807 := by
  simp [Lit.wf, IntKind.min, IntKind.max, IntKind.signed, IntKind.bits] at h
  exact ⟨by omega, by omega⟩

theorem bulk_one {H : Type} (d : DataW H) : 1 ≤ Rows.uptoBulk d := by
  cases d with
  | lit l => cases l <;> simp [Rows.uptoBulk]
  | nil => simp [Rows.uptoBulk]
  | ptr d => simp [Rows.uptoBulk]
  | slice elems spare => simp [Rows.uptoBulk]
  | agg parts => simp [Rows.uptoBulk]
  | iface t d => simp [Rows.uptoBulk]
  | map entries => simp [Rows.uptoBulk]
  | held h => simp [Rows.uptoBulk]
theorem bulk_len {H : Type} (l : List (DataW H)) : l.length ≤ Rows.uptoBulkAll l := by
  induction l with
  | nil => simp [Rows.uptoBulkAll]
  | cons x r ih => have := bulk_one x; simp only [Rows.uptoBulkAll, List.length_cons]; omega
theorem Tryd.bytes5 : Tryd.prog.bytesOf 5 = 1 := by kernel_rfl

section
variable {H : Type} {enc : TypeId × Value → H} {W : World}

/-- Bytes that came in, as the walks want them, of whatever length. -/
theorem open_bytes {fuel : Nat} {cs : List Value} {x : DataW H × List MemPlace} (h : DataW.trod enc Tryd.prog W 0 (fun _ => true) true fuel 42 cs = some x) :
    ∃ v bs, cs = [v] ∧ (bs.length ≤ 140737488355328 → Rd W v bs) ∧ ((bs = [] ∧ x.1 = .nil) ∨ ∃ elems spare, x.1 = .slice elems spare ∧ elems.length = bs.length) := by
  rcases open_ints Tryd.underlying42 Tryd.underlying5 (by kernel_rfl) h with ⟨rfl, rfl⟩ | ⟨a, len, cap, zs, rfl, _, hl, hm, hz, rfl, hcell, hwz⟩
  · exact ⟨_, [], rfl, fun _ => Rd.nil W, .inl ⟨rfl, rfl⟩⟩
  · have h2 : (lits (H := H) .u8 (zs.take len)).length = len := by simp only [lits, List.length_map, List.length_take]; simp at hz; omega
    have hbl : ((zs.take len).map Int.toNat).length = len := by simp at hz; simp; omega
    refine ⟨_, (zs.take len).map Int.toNat, rfl, fun hB => ⟨_, _, _, rfl, hbl, hl, ⟨by unfold maxLen at hm; omega, by omega⟩, by simp, ?_, ?_⟩, .inr ⟨_, _, rfl, by rw [h2, hbl]⟩⟩
    · intro y hy
      obtain ⟨z, hz1, rfl⟩ := List.mem_map.1 hy
      have := byte_of_wf (hwz z (List.mem_of_mem_take hz1)); omega
    · intro hp
      simp at hz
      have hc0 := hcell 0 (by omega)
      obtain ⟨b, off, spot⟩ := a
      have hspot : spot = none := by simpa [Addr.add] using World.cell?_spot hc0
      subst hspot
      refine ⟨b, off, rfl, fun i hi => ?_⟩
      have hc := hcell i (by omega)
      have hzi : i < zs.length := by omega
      rw [Addr.add_mid] at hc
      rw [hc]
      have hw := byte_of_wf (hwz (zs[i]) (List.getElem_mem hzi))
      simp only [List.getD_eq_getElem?_getD, List.getElem?_eq_getElem hzi, Option.getD_some, List.getElem?_map, List.getElem?_take, hi, if_true, Option.map_some]
      simp [u8]; omega
/-- Their length, by the reach. -/
theorem reach_bytes {ts : List TypeId} {ds : List (DataW H)} (h : (DataW.weightsEach Tryd.prog ts ds).all (· ≤ reachBytes) = true) {j : Nat} (ht : ts[j]? = some 42) {d : DataW H} (hd : ds[j]? = some d) {bs : List Nat}
    (hx : (bs = [] ∧ d = .nil) ∨ ∃ elems spare, d = .slice elems spare ∧ elems.length = bs.length) : bs.length ≤ 140737488351232 := by
  rcases hx with ⟨rfl, _⟩ | ⟨elems, spare, rfl, he⟩
  · simp
  · have := sized_slice h ht hd Tryd.underlying42
    rw [Tryd.bytes5, Nat.mul_one] at this
    unfold reachBytes at this
    omega
/-- Their length, by the bulk. -/
theorem bulk_bytes {d : DataW H} {bs : List Nat} (hx : (bs = [] ∧ d = .nil) ∨ ∃ elems spare, d = .slice elems spare ∧ elems.length = bs.length) : bs.length + 1 ≤ Rows.uptoBulk d := by
  rcases hx with ⟨rfl, rfl⟩ | ⟨elems, spare, rfl, he⟩
  · simp [Rows.uptoBulk]
  · have := bulk_len elems
    simp only [Rows.uptoBulk]; omega
end
end Go.Proofs.YtmgjdcpfeihioaaDoor
namespace Go.Proofs.YtmgjdcpfeihioaaDoor
open Go Go.RowKit
set_option linter.unusedVariables false
set_option linter.unusedSimpArgs false
section
variable {H : Type} {enc : TypeId × Value → H} {W : World}

def natOf : Value → Nat
  | .int _ n => n.toNat
  | _ => 0
/-- A digest that came in. -/
theorem open_dig {fuel : Nat} {cs : List Value} {x : DataW H × List MemPlace} (h : DataW.trod enc Tryd.prog W 0 (fun _ => true) true fuel 23 cs = some x) :
    ∃ l : List Nat, cs = l.map u8 ∧ l.length = 32 ∧ ∀ y ∈ l, y < 256 := by
  obtain ⟨xs, m, _, rfl, hl, hn, hc⟩ := DataW.trod_array Tryd.underlying23 h
  rw [show Tryd.prog.cellsOf 23 = 32 from by kernel_rfl] at hl
  rw [show Tryd.prog.cellsOf 5 = 1 from by kernel_rfl] at hc
  have key : ∀ i (hi : i < cs.length), cs[i] = u8 (natOf cs[i]) ∧ natOf cs[i] < 256 := by
    intro i hi
    have h1 := hc i (by omega)
    rw [Nat.mul_one, List.getElem?_eq_getElem (by omega)] at h1
    obtain ⟨n, e, _, hw⟩ := DataW.trod_int Tryd.underlying5 h1
    rw [List.drop_eq_getElem_cons hi, List.take_succ_cons, List.take_zero] at e
    simp only [List.cons.injEq, and_true] at e
    have := byte_of_wf hw
    rw [e]
    refine ⟨?_, ?_⟩
    · simp [u8, natOf]; omega
    · simp [natOf]; omega
  refine ⟨cs.map natOf, ?_, by simp [hl], ?_⟩
  · rw [List.map_map]
    refine List.ext_getElem (by simp) fun i h1 h2 => ?_
    rw [List.getElem_map]
    exact (key i h1).1
  · intro y hy
    obtain ⟨v, hv, rfl⟩ := List.mem_map.1 hy
    obtain ⟨i, hi, rfl⟩ := List.getElem_of_mem hv
    exact (key i hi).2
set_option maxRecDepth 100000 in
theorem open_digv {b0 : Nat} {v : Value} {d : DataW H} {ps : List MemPlace} (hv : Value.okWide Tryd.prog W .any b0 23 v) (h : DataW.Trod enc Tryd.prog W 0 (fun _ => true) true 23 v d ps) :
    ∃ l : List Nat, v = .agg (brow l) ∧ l.length = 32 ∧ ∀ y ∈ l, y < 256 := by
  unfold Value.okWide at hv
  rw [Tryd.underlying23] at hv
  obtain ⟨cs, rfl, _, _⟩ := hv
  obtain ⟨fuel, hf⟩ := h
  obtain ⟨l, e, h1, h2⟩ := open_dig hf
  refine ⟨l, ?_, h1, h2⟩
  simp only [Value.cells] at e
  unfold brow
  rw [← e]
end
end Go.Proofs.YtmgjdcpfeihioaaDoor
namespace Go.Proofs.YtmgjdcpfeihioaaDoor
open Go.ChangeShapes Go.WideShapes Go.ChangeAt Go.RowKit Go.Deep
set_option linter.unusedVariables false
set_option linter.unusedSimpArgs false
section
variable {H : Type} {enc : TypeId × Value → H} {W : World}

theorem o_bulk_part {d : DataW H} {l : List (DataW H)} (h : d ∈ l) : Rows.uptoBulk d ≤ Rows.uptoBulkAll l := by
  induction l with
  | nil => cases h
  | cons x r ih =>
    simp only [Rows.uptoBulkAll]
    cases List.mem_cons.1 h with
    | inl e => subst e; omega
    | inr e => have := ih e; omega
theorem o_split (cs : List Value) (a n : Nat) : cs.drop a = (cs.drop a).take n ++ cs.drop (a + n) := by
  rw [← List.drop_drop, List.take_append_drop]

/-- Digests that came in. -/
theorem open_digs2 {fuel : Nat} {cs : List Value} {x : DataW H × List MemPlace} (h : DataW.trod enc Tryd.prog W 0 (fun _ => true) true fuel 25 cs = some x) (hB : Rows.uptoBulk x.1 ≤ 1048576) :
    ∃ v ds, cs = [v] ∧ RdD W v ds ∧ ds.length ≤ 1048576 := by
  rcases open_slice Tryd.underlying25 h with ⟨rfl, rfl⟩ | ⟨a, len, cap, m, n, D, Pl, rfl, _, hl, hm, hmm, rfl, hx⟩
  · exact ⟨_, [], rfl, ⟨none, 0, 0, rfl, rfl, Nat.le_refl _, by omega, fun d hd => by simp at hd, fun h => by omega⟩, by simp⟩
  · have hC : Tryd.prog.cellsOf 23 = 32 := by kernel_rfl
    rw [hC] at hx
    simp only [if_true] at hmm
    simp only [Rows.uptoBulk] at hB
    have hcap : cap ≤ 1048576 := by
      have h1 := bulk_len ((List.range len).map D)
      have h2 := bulk_len ((List.range (m - len)).map fun j => D (len + j))
      simp at h1 h2
      omega
    obtain ⟨f, hf⟩ := choose_lt (α := List Nat) (n := len) (p := fun i o => (∀ j v, (o.map u8)[j]? = some v → W.cell? ((a.add (i * 32)).add j) = some v) ∧ o.length = 32 ∧ ∀ y ∈ o, y < 256) (by
      intro i hi
      obtain ⟨cs', h1, h2⟩ := hx i (by omega)
      obtain ⟨l, rfl, hl1, hl2⟩ := open_dig h2
      obtain ⟨_, hlen, hc⟩ := World.cells?_some h1
      refine ⟨l, fun j v hv => ?_, hl1, hl2⟩
      have hj := (List.getElem?_eq_some_iff.1 hv).1
      have := hc j (by rw [List.length_map] at hj; omega)
      rw [this, ← hv, List.getElem?_eq_getElem hj])
    refine ⟨_, (List.range len).map f, rfl, ⟨some a, len, cap, rfl, by simp, hl, by omega, ?_, ?_⟩, by simp; omega⟩
    · intro d hd
      obtain ⟨i, hi, rfl⟩ := List.mem_map.1 hd
      exact (hf i (List.mem_range.1 hi)).2
    · intro hp
      obtain ⟨b, off, spot⟩ := a
      have h0 := hf 0 hp
      have hc0 := h0.1 0 (u8 ((f 0).getD 0 0)) (by rw [List.getElem?_map, List.getD_eq_getElem?_getD, List.getElem?_eq_getElem (by omega)]; rfl)
      have hspot : spot = none := by simpa [Addr.add] using World.cell?_spot hc0
      subst hspot
      refine ⟨b, off, rfl, fun i hi j v hv => ?_⟩
      have e9 : ((List.range len).map f).getD i [] = f i := by simp [List.getD_eq_getElem?_getD, hi]
      rw [e9] at hv
      have := (hf i hi).1 j v hv
      rw [Addr.add_mid, Addr.add_mid] at this
      exact this

/-- A question that came in. -/
theorem open_ask {fuel : Nat} {cs : List Value} {x : DataW H × List MemPlace} (h : DataW.trod enc Tryd.prog W 0 (fun _ => true) true fuel 27 cs = some x) (hB : Rows.uptoBulk x.1 ≤ 1048576) :
    ∃ (q : AskD) (pv : Value), cs = askC q pv ∧ OkA W q pv := by
  obtain ⟨xs, n, _, rfl, hl, hlen, hf⟩ := DataW.trod_struct Tryd.underlying27 h
  rw [show Tryd.prog.cellsOf 27 = 68 from by kernel_rfl] at hl
  match xs, hlen with
  | [y0, y1, y2, y3, y4, y5], _ =>
    have c3 : Tryd.prog.cellsOf 3 = 1 := by kernel_rfl
    have cd : Tryd.prog.cellsOf 23 = 32 := by kernel_rfl
    have cu : Tryd.prog.cellsOf 24 = 1 := by kernel_rfl
    have ck : Tryd.prog.cellsOf 25 = 1 := by kernel_rfl
    have f0 : DataW.trod enc Tryd.prog W 0 (fun _ => true) true n 3 ((cs.drop 0).take 1) = some y0 := by have this : DataW.trod enc Tryd.prog W 0 (fun _ => true) true n 3 ((cs.drop 0).take (Tryd.prog.cellsOf 3)) = some y0 := hf 0 _ rfl; rw [c3] at this; exact this
    have f1 : DataW.trod enc Tryd.prog W 0 (fun _ => true) true n 23 ((cs.drop 1).take 32) = some y1 := by have this : DataW.trod enc Tryd.prog W 0 (fun _ => true) true n 23 ((cs.drop 1).take (Tryd.prog.cellsOf 23)) = some y1 := hf 1 _ rfl; rw [cd] at this; exact this
    have f2 : DataW.trod enc Tryd.prog W 0 (fun _ => true) true n 24 ((cs.drop 33).take 1) = some y2 := by have this : DataW.trod enc Tryd.prog W 0 (fun _ => true) true n 24 ((cs.drop 33).take (Tryd.prog.cellsOf 24)) = some y2 := hf 2 _ rfl; rw [cu] at this; exact this
    have f3 : DataW.trod enc Tryd.prog W 0 (fun _ => true) true n 24 ((cs.drop 34).take 1) = some y3 := by have this : DataW.trod enc Tryd.prog W 0 (fun _ => true) true n 24 ((cs.drop 34).take (Tryd.prog.cellsOf 24)) = some y3 := hf 3 _ rfl; rw [cu] at this; exact this
    have f4 : DataW.trod enc Tryd.prog W 0 (fun _ => true) true n 25 ((cs.drop 35).take 1) = some y4 := by have this : DataW.trod enc Tryd.prog W 0 (fun _ => true) true n 25 ((cs.drop 35).take (Tryd.prog.cellsOf 25)) = some y4 := hf 4 _ rfl; rw [ck] at this; exact this
    have f5 : DataW.trod enc Tryd.prog W 0 (fun _ => true) true n 23 ((cs.drop 36).take 32) = some y5 := by have this : DataW.trod enc Tryd.prog W 0 (fun _ => true) true n 23 ((cs.drop 36).take (Tryd.prog.cellsOf 23)) = some y5 := hf 5 _ rfl; rw [cd] at this; exact this
    simp only [List.map_cons, List.map_nil, Rows.uptoBulk, Rows.uptoBulkAll] at hB
    obtain ⟨z, e0, _, w0⟩ := DataW.trod_int Tryd.underlying3 f0
    obtain ⟨l, e1, l1, l2⟩ := open_dig f1
    obtain ⟨i, e2, _, w2⟩ := DataW.trod_int Tryd.underlying24 f2
    obtain ⟨m, e3, _, w3⟩ := DataW.trod_int Tryd.underlying24 f3
    obtain ⟨dv, ds, e4, hds, hdl⟩ := open_digs2 f4 (by omega)
    obtain ⟨r, e5, r1, r2⟩ := open_dig f5
    have hi : 0 ≤ i ∧ i < 18446744073709551616 := by
      simp [Lit.wf, IntKind.min, IntKind.max, IntKind.signed, IntKind.bits] at w2
      omega
    have hm : 0 ≤ m ∧ m < 18446744073709551616 := by
      simp [Lit.wf, IntKind.min, IntKind.max, IntKind.signed, IntKind.bits] at w3
      omega
    refine ⟨⟨z, l, i.toNat, m.toNat, ds, r⟩, dv, ?_, ⟨int_of_wf w0, ⟨l1, l2⟩, by show i.toNat < _; omega, by show m.toNat < _; omega, hds, hdl, ⟨r1, r2⟩⟩⟩
    have hd : cs.drop 68 = [] := List.drop_eq_nil_of_le (by omega)
    have this := o_split cs 0 1
    rw [e0, o_split cs 1 32, e1, o_split cs 33 1, e2, o_split cs 34 1, e3, o_split cs 35 1, e4, o_split cs 36 32, e5, hd, List.drop_zero] at this
    rw [this]
    simp [askC, Int.toNat_of_nonneg hi.1, Int.toNat_of_nonneg hm.1]

set_option maxRecDepth 100000 in
theorem open_askv {b0 : Nat} {v : Value} {d : DataW H} {ps : List MemPlace} (hv : Value.okWide Tryd.prog W .any b0 27 v) (h : DataW.Trod enc Tryd.prog W 0 (fun _ => true) true 27 v d ps) (hB : Rows.uptoBulk d ≤ 1048576) :
    ∃ (q : AskD) (pv : Value), v = .agg (askC q pv).toArray ∧ OkA W q pv := by
  unfold Value.okWide at hv
  rw [Tryd.underlying27] at hv
  obtain ⟨cs, rfl, _, _⟩ := hv
  obtain ⟨fuel, hf⟩ := h
  obtain ⟨q, pv, e, h1⟩ := open_ask hf hB
  refine ⟨q, pv, ?_, h1⟩
  simp only [Value.cells] at e
  rw [← e]
end
end Go.Proofs.YtmgjdcpfeihioaaDoor
