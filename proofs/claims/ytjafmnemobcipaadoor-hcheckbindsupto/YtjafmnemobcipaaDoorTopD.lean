import Derived.Test.YtjafmnemobcipaaDoorTopC
import Derived.Lib.SlBytesConst
import Derived.Lib.SmallJoins
import Derived.Lib.ConvBytes
import Derived.Laws.AppendOwn
import Derived.Test.YtjafmnemobcipaaDoorBase
import Derived.Test.YtjafmnemobcipaaDoorCards
import Derived.Test.YtjafmnemobcipaaDoorTie
import Derived.ProofKit
import Derived.OpenShut
import Derived.Deep.Slices
import Derived.SizedLaws
import Derived.Test.YtjafmnemobcipaaDoorRowz
import Derived.Test.YtjafmnemobcipaaDoorTopA
import Derived.Deep.SlicePairs
namespace Go.Proofs.YtjafmnemobcipaaDoor
open Go.RowKit Go.BigFrame
set_option linter.unusedVariables false
set_option linter.unusedSimpArgs false

theorem bw_kept (w : World) (e : TypeId) (s : ByteArray) : Kept [] w (Lib.bytesWorld w e s) := ⟨rfl, rfl, rfl, by rw [Lib.bytesWorld_size]; omega, fun k hk _ => Lib.bytesWorld_at_old w e s k hk⟩
theorem strOf_size (bs : List Nat) : (strOf bs).size = bs.length := by simp [strOf, ByteArray.size]
theorem bw_rd (w : World) (bs : List Nat) (hb : ∀ x ∈ bs, x < 256) (hl : bs.length ≤ 1000000) : Rd (Lib.bytesWorld w 5 (strOf bs)) (.slice (some ⟨w.heap.size, 0, none⟩) (strOf bs).size (grownCap w (strOf bs).size 0 5)) bs := by
  have h1 := grownCap_ge w (strOf bs).size 0 5
  have h2 := grownCap_le_maxLen w (strOf bs).size 0 5 (by rw [strOf_size]; unfold maxLen; omega)
  rw [strOf_size] at h1 h2 ⊢
  unfold maxLen at h2
  refine ⟨_, _, _, rfl, rfl, h1, ⟨by omega, by omega⟩, fun h => by simp at h, hb, fun hp => ⟨w.heap.size, 0, rfl, fun i hi => ?_⟩⟩
  rw [Nat.zero_add, Lib.bytesWorld_cell w 5 (strOf bs) i (by rw [strOf_size]; exact hi)]
  have hx := hb (bs[i]) (List.getElem_mem hi)
  simp [strOf, List.getD_eq_getElem?_getD, hi, u8]
  omega
theorem conv_str (w : World) (bs : List Nat) (n : Nat) (hn : bs.length = n) (hb : ∀ x ∈ bs, x < 256) (hl : n ≤ 1000000) : ∃ W c, (convert 9 22 (.string (strOf bs))).run Tryd.prog w = .ok (.slice (some ⟨w.heap.size, 0, none⟩) n c) W ∧ Rd W (.slice (some ⟨w.heap.size, 0, none⟩) n c) bs ∧ Kept [] w W ∧ W.heap.size = w.heap.size + 1 := by
  have hu5 : Tryd.prog.underlying 5 = some (.int .u8) := by kernel_rfl
  have hu9 : Tryd.prog.underlying 9 = some .string := by kernel_rfl
  subst hn
  exact ⟨_, _, by rw [Lib.run_convert_string_bytes w 9 22 5 (strOf bs) hu9 Tryd.underlying22 hu5, strOf_size], by have := bw_rd w bs hb hl; rwa [strOf_size] at this, bw_kept w 5 _, Lib.bytesWorld_size w 5 _⟩

set_option maxRecDepth 100000 in
set_option maxHeartbeats 2000000 in
theorem hbucket_any (w : World) :
    Calls Tryd.prog 11 #[.string (strOf [97]), .string (strOf [49])] w fun e w' => (∃ v', e = .returned (.agg #[.slice none 0 0, v']) ∧ RdK w' v' [([97], [49])]) ∧ Kept [] w w' := by
  go_enter Tryd.func11, Tryd.ntmps11
  have hk0 := (Kept.refl [] w).alloc (.cells #[.slice none 0 0, .slice none 0 0] 26)
  have hg0 := heap_alloc_new w (.cells #[.slice none 0 0, .slice none 0 0] 26)
  obtain ⟨W0, hW0⟩ : ∃ W0, w.alloc (.cells #[.slice none 0 0, .slice none 0 0] 26) = W0 := ⟨_, rfl⟩
  rw [hW0] at hk0 hg0
  obtain ⟨W1, n1, hr1, r1, k1, z1⟩ := conv_str W0 [97] 1 rfl (by decide) (by decide)
  obtain ⟨W2, n2, hr2, r2, k2, z2⟩ := conv_str W1 [49] 1 rfl (by decide) (by decide)
  have R1 := hide r1
  have R2 := hide r2
  have K1 := hide k1
  have K2 := hide k2
  have K0 := hide hk0
  clear r1 r2 k1 k2 hk0
  have HG2 := hide ((unhide K2).heap ((unhide K1).heap hg0 (by simp)) (by simp))
  clear hg0
  generalize strOf [97] = s1 at *
  generalize strOf [49] = s2 at *
  have hs2 : w.heap.size < W2.heap.size := lt_of_block (unhide HG2)
  have HG3 := hide (((Kept.refl [] W2).alloc (.cells #[.slice (some ⟨W0.heap.size, 0, none⟩) 1 n1, .slice (some ⟨W0.heap.size + 1, 0, none⟩) 1 n2] 64)).heap (unhide HG2) (by simp))
  have HP3 := hide (heap_alloc_new W2 (.cells #[.slice (some ⟨W0.heap.size, 0, none⟩) 1 n1, .slice (some ⟨W0.heap.size + 1, 0, none⟩) 1 n2] 64))
  have HK3 := hide ((Kept.refl [] W2).alloc (.cells #[.slice (some ⟨W0.heap.size, 0, none⟩) 1 n1, .slice (some ⟨W0.heap.size + 1, 0, none⟩) 1 n2] 64))
  go_wp2_with (first
    | (rw [hW0])
    | (show wpList _ #[_, _, _, _, _, _, _, _] _ [_] _ _; go_must (refine wpList_store_row rfl 26 _ _ rfl w.heap.size #[.slice none 0 0, .slice (some ⟨W0.heap.size + 1 + 1, 0, none⟩) 1 1] rfl rfl _ #[.slice none 0 0, .slice none 0 0] (unhide HG3) (by kernel_rfl) rfl (by simp [Value.oneCell']) ?_)))
  have kF := (((unhide K0).trans (unhide K1) (by simp)).trans (unhide K2) (by simp)).trans (unhide HK3) (by simp)
  have kR := (Kept.refl [w.heap.size] (W2.alloc (.cells #[.slice (some ⟨W0.heap.size, 0, none⟩) 1 n1, .slice (some ⟨W0.heap.size + 1, 0, none⟩) 1 n2] 64))).setRow (g := w.heap.size) (Or.inl (by simp)) #[.slice none 0 0, .slice (some ⟨W0.heap.size + 1 + 1, 0, none⟩) 1 1]
  have hz0 : w.heap.size + 1 = W0.heap.size := by rw [← hW0]; simp
  have e2 : W2.heap.size = W0.heap.size + 1 + 1 := by rw [z2, z1]
  have HPF := hide (kR.heap (unhide HP3) (by simp; omega))
  have hR1 := (((unhide R1).old (unhide K2) (by simp)).old (unhide HK3) (by simp)).kept kR (by simp [blk]; omega)
  have hR2 := ((unhide R2).old (unhide HK3) (by simp)).kept kR (by simp [blk]; omega)
  have HZF := setRow_heap _ w.heap.size _ #[.slice none 0 0, .slice (some ⟨W0.heap.size + 1 + 1, 0, none⟩) 1 1] 26 (0, 0) (unhide HG3)
  refine bodyPost_ret (v := .agg #[.slice none 0 0, .slice (some ⟨W0.heap.size + 1 + 1, 0, none⟩) 1 1]) ?_ rfl ⟨⟨_, rfl, ?_⟩, kF.setRow (g := w.heap.size) (Or.inr (Nat.le_refl _)) _⟩
  · exact results_cell_row rfl _ _ w.heap.size _ #[.slice none 0 0, .slice (some ⟨W0.heap.size + 1 + 1, 0, none⟩) 1 1] (0, 0) _ rfl HZF Tryd.underlying26 rfl (by kernel_rfl)
  · rw [z1] at hR2
    refine ⟨_, 1, 1, [.slice (some ⟨W0.heap.size, 0, none⟩) 1 n1], [.slice (some ⟨W0.heap.size + 1, 0, none⟩) 1 n2], rfl, rfl, Nat.le_refl _, by decide, fun i hi => ?_, fun _ => ⟨W0.heap.size + 1 + 1, 0, rfl, fun i hi => ?_⟩⟩
    · obtain rfl : i = 0 := by omega
      exact ⟨hR1, hR2⟩
    · obtain rfl : i = 0 := by omega
      have h9 := unhide HPF
      rw [e2] at h9
      exact ⟨cell_of_row _ _ _ _ _ _ h9, cell_of_row _ _ _ _ _ _ h9⟩

theorem rd_row {w : World} {g : Nat} (bs : List Nat) {cs : Array Value} {fr : Nat × Nat} (h : w.heap[g]? = some (.cells cs 5 fr)) (hc : cs = (bs.map u8).toArray) (hb : ∀ x ∈ bs, x < 256) (n : Nat) (hn : bs.length = n) (hl : n ≤ 140737488355328) : Rd w (.slice (some ⟨g, 0, none⟩) n n) bs := by
  refine ⟨_, n, n, rfl, hn, Nat.le_refl _, ⟨by omega, hl⟩, fun h => by simp at h, hb, fun hp => ⟨g, 0, rfl, fun i hi => ?_⟩⟩
  subst hc
  have hi' : i < bs.length := by omega
  rw [cell_of_row _ _ _ _ _ _ h, Nat.zero_add, List.getElem?_toArray, List.getElem?_map, List.getElem?_eq_getElem hi', List.getD_eq_getElem?_getD, List.getElem?_eq_getElem hi']
  rfl
def ps1 : List (List Nat × List Nat) := [([97], [49])]
theorem ps1_pb : (pairB ps1).length ≤ 1000000000000 := by
  have u1 := uv_len 1 (by omega)
  have e : pairB ps1 = uv 1 ++ [97] ++ (uv 1 ++ [49]) := by simp [pairB, ps1]
  rw [e]
  simp
  omega
theorem run_conv_at {w : World} {g n c : Nat} {C : Array Value} (h : w.heap[g]? = some (.cells C 5 (0, 0))) : (convert 22 22 (.slice (some ⟨g, 0, none⟩) n c)).run Tryd.prog w = .ok (.slice (some ⟨g, 0, none⟩) n c) (w.freeze ⟨g, C.size, none⟩ 1) := by
  have hsh : w.shape? g = some (5, C.size) := by unfold World.shape?; rw [h]
  simp [convert, run_underlying (P := Tryd.prog) Tryd.underlying22, run_underlying (P := Tryd.prog) Tryd.underlying5, markStringish, hsh]
theorem freeze_at {w : World} {g k : Nat} {C : Array Value} (h : w.heap[g]? = some (.cells C 5 (0, 0))) : (w.freeze ⟨g, k, none⟩ 1).heap[g]? = some (.cells C 5 (k, k + 1)) := by
  unfold World.freeze
  rw [if_neg (by decide)]
  show (w.heap.modify g _)[g]? = _
  rw [Array.getElem?_modify, if_pos rfl, h]
  rfl
theorem freeze_kept {L : List Nat} {X w : World} {g k : Nat} (h : Kept L X w) (hg : g ∈ L ∨ X.heap.size ≤ g) : Kept L X (w.freeze ⟨g, k, none⟩ 1) := by
  unfold World.freeze
  rw [if_neg (by decide)]
  refine ⟨h.os, h.tape, h.output, ?_, fun j hj hn => ?_⟩
  · show X.heap.size ≤ (w.heap.modify g _).size
    rw [Array.size_modify]; exact h.size
  · show (w.heap.modify g _)[j]? = _
    rw [Array.getElem?_modify, if_neg (by rintro rfl; rcases hg with h9 | h9; exact hn h9; omega)]
    exact h.block j hj hn
theorem aw_rt : rtE 2 [97] [] ps1 = 0 ∧ rtD 2 [97] [] ps1 = sumD 2 (buckB ps1) ∧ rtV 2 [97] [] ps1 = some [49] := by
  have h0 : hfE 2 [97] [] [] = 0 := by decide
  have hp : ∀ ks, provB 2 ks [] ps1 = true := by intro ks; simp [provB, fitsB, ps1, risB, hanB]
  have h := rtE_mk h0 (hp (keyS 2 [97]))
  refine ⟨h, ?_, ?_⟩
  · unfold rtD; rw [if_pos h]; rfl
  · unfold rtV; rw [if_pos h]; rfl
theorem aw_ck : ckE 2 (sumD 2 (buckB ps1)) [98] [] ps1 = 0 ∧ ckV 2 (sumD 2 (buckB ps1)) [98] [] ps1 = none := by
  have h0 : hfE 2 [98] [] [] = 0 := by decide
  have hp : ∀ ks, provB 2 ks [] ps1 = true := by intro ks; simp [provB, fitsB, ps1, risB, hanB]
  have h := rtE_mk h0 (hp (keyS 2 [98]))
  have hd : rtD 2 [98] [] ps1 = sumD 2 (buckB ps1) := by unfold rtD; rw [if_pos h]; rfl
  have hc : ckE 2 (sumD 2 (buckB ps1)) [98] [] ps1 = 0 := by rw [← hd]; exact agr_ok h
  refine ⟨hc, ?_⟩
  unfold ckV rtV
  rw [if_pos hc, if_pos h]; rfl

def tupAt : Value → Nat → Value
  | .tuple vs, i => vs.toList.getD i undef
  | _, _ => undef

set_option maxRecDepth 100000 in
set_option maxHeartbeats 2000000 in
theorem hawake_any (w : World) (hT : Tabs w) :
    Calls Tryd.prog 5 #[] w fun e w' => e = .returned (.bool true) ∧ Kept [] w w' := by
  have HT := hide hT
  clear hT
  go_enter Tryd.func5, Tryd.ntmps5
  go_wp2_with fail
  refine Calls.mono (hbucket_any _) ?_
  rintro e w1 ⟨⟨v1, rfl, r1⟩, k1⟩
  have HR1 := hide r1
  obtain ⟨pa, pn, pc, _, _, rfl, _⟩ := id r1
  clear r1
  have kN := (k1.alloc (.cells #[.slice none 0 0, .slice none 0 0] 26)).setRow (g := w1.heap.size) (Or.inr k1.size) #[.slice none 0 0, .slice pa pn pc]
  have HN1 := hide (setRow_heap (w1.alloc (.cells #[.slice none 0 0, .slice none 0 0] 26)) w1.heap.size _ #[.slice none 0 0, .slice pa pn pc] 26 (0, 0) (heap_alloc_new _ _))
  have HK1 := hide kN
  have HP1 := hide ((unhide HR1).old (((Kept.refl [] w1).alloc (.cells #[.slice none 0 0, .slice none 0 0] 26)).setRow (g := w1.heap.size) (Or.inr (Nat.le_refl _)) #[.slice none 0 0, .slice pa pn pc]))
  clear kN k1 HR1
  have hc1 := Go.Joins.run_convert_bytes_const_at (P := Tryd.prog) ((w1.alloc (.cells #[.slice none 0 0, .slice none 0 0] 26)).setRow w1.heap.size #[.slice none 0 0, .slice pa pn pc]) 22 5 #[.int .u8 97] 1 1 (w1.heap.size + 1) (by simp) Tryd.underlying22 Tryd.underlying5
  have kc := (Kept.refl [] ((w1.alloc (.cells #[.slice none 0 0, .slice none 0 0] 26)).setRow w1.heap.size #[.slice none 0 0, .slice pa pn pc])).alloc (.cells #[.int .u8 97] 5 (1, 2))
  have HN2 := hide (kc.heap (unhide HN1) (by simp))
  have HP2 := hide ((unhide HP1).old kc)
  have HK2 := hide ((unhide HK1).trans kc (by simp))
  have hz9 : ((w1.alloc (.cells #[.slice none 0 0, .slice none 0 0] 26)).setRow w1.heap.size #[.slice none 0 0, .slice pa pn pc]).heap.size = w1.heap.size + 1 := by simp
  have HB2 := hide (rd_row (n := 1) [97] (heap_alloc_new ((w1.alloc (.cells #[.slice none 0 0, .slice none 0 0] 26)).setRow w1.heap.size #[.slice none 0 0, .slice pa pn pc]) (.cells #[.int .u8 97] 5 (1, 2))) rfl (by decide) rfl (by decide))
  rw [hz9] at HB2
  clear kc hz9 HN1 HP1 HK1
  go_wp2_with (first
    | (show wpList _ _ _ [_] _ (World.alloc _ _); refine wpList_store_row rfl 26 _ _ rfl w1.heap.size #[.slice none 0 0, .slice pa pn pc] rfl rfl _ #[.slice none 0 0, .slice none 0 0] (heap_alloc_new _ _) (by kernel_rfl) rfl (by simp [Value.oneCell']) ?_)
    | (refine wpList_load_row rfl 26 _ rfl w1.heap.size rfl _ #[.slice none 0 0, .slice pa pn pc] (0, 0) _ (unhide HN2) Tryd.underlying26 rfl (by kernel_rfl) ?_))
  obtain ⟨X, hX⟩ : ∃ X, ((w1.alloc (.cells #[.slice none 0 0, .slice none 0 0] 26)).setRow w1.heap.size #[.slice none 0 0, .slice pa pn pc]).alloc (.cells #[.int .u8 97] 5 (1, 2)) = X := ⟨_, rfl⟩
  have hX' : (#[Value.int IntKind.u8 97] : Array Value).size = 1 := rfl
  simp only [hX', Nat.reduceAdd] at hc1 ⊢
  rw [hX] at HN2 HP2 HK2 HB2 ⊢
  clear hX hX' hc1
  refine Calls.mono (hrootOf_any 2 _ [97] _ _ [] ps1 _ (by decide) (unhide HB2) (RdS.nil _) (unhide HP2) ((unhide HT).k (unhide HK2)) ps1_pb (by decide) (by decide) (by simp)) ?_
  rintro e w2 ⟨⟨v2, rfl, r2⟩, k2⟩
  rw [aw_rt.1, aw_rt.2.1]
  rw [aw_rt.2.2] at r2 ⊢
  have HV2 := hide r2
  obtain ⟨va, vn, vc, rfl, _⟩ := id r2
  have HDG := hide (sumD_dg 2 (buckB ps1))
  generalize hD : sumD 2 (buckB ps1) = D at HDG ⊢
  have HD := hide hD
  clear hD r2
  have hdl := (unhide HDG).1
  have HSZ := hide (Tryd.szD hdl)
  have kN := (k2.alloc (.cells (zb 32) 29)).setRow (g := w2.heap.size) (Or.inr k2.size) (brow D)
  have kS := ((Kept.refl [] w2).alloc (.cells (zb 32) 29)).setRow (g := w2.heap.size) (Or.inr (Nat.le_refl _)) (brow D)
  have HD3 := hide (setRow_heap (w2.alloc (.cells (zb 32) 29)) w2.heap.size (zb 32) (brow D) 29 (0, 0) (heap_alloc_new _ _))
  have HN3 := hide (kN.heap (unhide HN2) (by simp))
  have HP3 := hide ((unhide HP2).old kN)
  have HK3 := hide ((unhide HK2).trans kN (by simp))
  have HV3 := hide ((unhide HV2).old kS (by simp))
  clear kN kS k2 HN2 HP2 HK2 HB2 HV2
  have c3 : ((w2.alloc (.cells (zb 32) 29)).setRow w2.heap.size (brow D)).cell? ⟨w1.heap.size, 1, none⟩ = some (.slice pa pn pc) := cell_of_row _ _ 1 _ _ _ (unhide HN3)
  go_wp2_with (first
    | (rw [zb32]; refine wpList_store_row rfl 29 _ _ rfl w2.heap.size (brow D) rfl rfl _ (zb 32) (heap_alloc_new _ _) (unhide HSZ) (by rw [zb_size, brow_size, hdl]) (brow_one _) ?_))
  have c30 : ((w2.alloc (.cells (zb 32) 29)).setRow w2.heap.size (brow D)).cell? ⟨w1.heap.size, 0, none⟩ = some (.slice none 0 0) := cell_of_row _ _ 0 _ _ _ (unhide HN3)
  obtain ⟨X, hX⟩ : ∃ X, (w2.alloc (.cells (zb 32) 29)).setRow w2.heap.size (brow D) = X := ⟨_, rfl⟩
  rw [hX] at HD3 HN3 HP3 HK3 HV3 c3 c30 ⊢
  clear hX
  have hgx : w1.heap.size < X.heap.size := lt_of_block (unhide HN3)
  have hxx : X.heap.size ≤ X.heap.size ∧ w1.heap.size < X.heap.size := ⟨Nat.le_refl _, hgx⟩
  have HTX := hide ((unhide HT).k (unhide HK3))
  have HCB := hide (fun w0 (hw0 : Kept [] X w0) => refBucket_any 2 (.slice pa pn pc) ps1 w0 (by decide) ((unhide HP3).old hw0) ps1_pb)
  rw [show sumD ((2 : Nat) : Int) (buckB ps1) = D from unhide HD] at HCB
  have HCC := hide (fun w0 (hw0 : Kept [] X w0) kv (hk : Rd w0 kv [98]) => hcheck_any 2 D kv [98] (.slice none 0 0) (.slice pa pn pc) [] ps1 w0 (by decide) (unhide HDG) hk (RdS.nil _) ((unhide HP3).old hw0) ((unhide HTX).k hw0) ps1_pb (by decide) (by decide) (by simp))
  have hck := aw_ck
  rw [unhide HD] at hck
  rw [hck.1, hck.2] at HCC
  clear hck
  refine wp_haw14 (by kernel_rfl) (by kernel_rfl) (by kernel_rfl) (by kernel_rfl) (by kernel_rfl) (by kernel_rfl) (by kernel_rfl) (by kernel_rfl) (by kernel_rfl) (by kernel_rfl) (by kernel_rfl) (by kernel_rfl) (by kernel_rfl) (by kernel_rfl) (by kernel_rfl) (by kernel_rfl) (by kernel_rfl) (by kernel_rfl) (by kernel_rfl) (by kernel_rfl) (by kernel_rfl) (by kernel_rfl) (by kernel_rfl) (by kernel_rfl) (by kernel_rfl) (by kernel_rfl) (by kernel_rfl) (by kernel_rfl) (by kernel_rfl) rfl rfl rfl rfl (by simp) (by simp)
    (.pointer (some ⟨w1.heap.size, 1, none⟩)) (.slice pa pn pc) (.agg #[.slice none 0 0, .slice pa pn pc]) _ _ _
    (fun w' => Kept [] X w')
    (fun w' => Kept [] X w')
    (fun u2 w' => u2 = .agg (brow D) ∧ Kept [] X w')
    (fun u3 w' => ∃ g, u3 = .slice (some ⟨g, 0, none⟩) 1 1 ∧ X.heap.size ≤ g ∧ w'.heap[g]? = some (.cells #[.int .u8 98] 5 (0, 0)) ∧ Kept [] X w')
    (fun u2 u3 w' => u2 = .agg (brow D) ∧ ∃ g, u3 = .slice (some ⟨g, 0, none⟩) 1 1 ∧ X.heap.size ≤ g ∧ w'.heap[g]? = some (.cells #[.int .u8 98] 5 (0, 0)) ∧ Kept [] X w')
    (fun u3 u4 w' => Rd w' u4 [98] ∧ Kept [] X w')
    (fun u2 u3 u4 w' => u2 = .agg (brow D) ∧ Rd w' u4 [98] ∧ Kept [] X w')
    (fun u2 u3 u4 u6 w' => ∃ a c, u6 = .tuple #[.slice a 0 c, .bool false, .int .i64 0] ∧ Kept [] X w')
    (fun u => u) (fun u => tupAt u 0) (fun u => tupAt u 1) (fun u => tupAt u 2) (fun u => tupAt u 0) (fun u => tupAt u 1) (fun u => tupAt u 2)
    (by simp only [Act.put, List.setIfInBounds_toArray, List.set_cons_zero, List.set_cons_succ]; rfl) (by exact Or.inl ⟨by rfl, fun W' hW' => by go_simp⟩)
    (by simp only [Act.put, List.setIfInBounds_toArray, List.set_cons_zero, List.set_cons_succ]; rfl) (by exact Or.inl ⟨by rfl, fun W' hW' => by have h9 := hW'.cell c3 (by simp); go_simp⟩)
    (by simp only [Act.put, List.setIfInBounds_toArray, List.set_cons_zero, List.set_cons_succ]; rfl) (by exact Or.inl ⟨by rfl, fun W' hW' => by have h9 := hW'.cell c3 (by simp); have h8 := hW'.cell c30 (by simp); go_simp⟩)
    (Kept.refl [] X).drew
    ⟨fun w' h => h, fun u2 w' h => h.2, fun u3 w' h => by obtain ⟨g, _, _, _, h⟩ := h; exact h, fun u2 u3 w' h => by obtain ⟨_, g, _, _, _, h⟩ := h; exact h, fun u3 u4 w' h => h.2, fun u2 u3 u4 w' h => h.2.2, fun u2 u3 u4 u6 w' h => by obtain ⟨a, c, _, h⟩ := h; exact h⟩
    (by intro w' i K hK; exact wp_callN rfl Tryd.call13 [.int .i64 2, .slice pa pn pc] rfl (unhide HCB w' i) (fun e w2 h => ⟨_, h.1, hK _ _ ⟨rfl, i.trans h.2 (by simp)⟩⟩))
    (by intro w' i K hK; unfold Oper.wp execOp; go_simp; exact hK _ _ ⟨_, rfl, i.size, heap_alloc_new _ _, i.alloc _⟩)
    (by rintro u2 w' ⟨rfl, i⟩ K hK; unfold Oper.wp execOp; go_simp; exact hK _ _ ⟨rfl, _, rfl, i.size, heap_alloc_new _ _, i.alloc _⟩)
    (by rintro u3 w' ⟨g, rfl, hg, hh, i⟩ K hK; exact wp_callN rfl Tryd.call13 [.int .i64 2, .slice pa pn pc] rfl (unhide HCB w' i) (fun e w2 h => ⟨_, h.1, hK _ _ ⟨rfl, _, rfl, hg, h.2.heap hh (by simp), i.trans h.2 (by simp)⟩⟩))
    (by rintro u3 w' ⟨g, rfl, hg, hh, i⟩ K hK; have hcv := run_conv_at (n := 1) (c := 1) hh; unfold Oper.wp execOp; go_simp; exact hK _ _ ⟨rd_row [98] (freeze_at hh) rfl (by decide) 1 rfl (by decide), freeze_kept i (Or.inr hg)⟩)
    (by rintro u2 u3 w' ⟨rfl, g, rfl, hg, hh, i⟩ K hK; have hcv := run_conv_at (n := 1) (c := 1) hh; unfold Oper.wp execOp; go_simp; exact hK _ _ ⟨rfl, rd_row [98] (freeze_at hh) rfl (by decide) 1 rfl (by decide), freeze_kept i (Or.inr hg)⟩)
    (by rintro u3 u4 w' ⟨hr, i⟩ K hK; exact wp_callN rfl Tryd.call13 [.int .i64 2, .slice pa pn pc] rfl (unhide HCB w' i) (fun e w2 h => ⟨_, h.1, hK _ _ ⟨rfl, hr.old h.2 (by simp), i.trans h.2 (by simp)⟩⟩))
    (by rintro u2 u3 u4 w' ⟨rfl, hr, i⟩ K hK; refine wp_callN rfl Tryd.call12 [.int .i64 2, .agg (brow D), u4, .agg #[.slice none 0 0, .slice pa pn pc]] rfl (unhide HCC w' i _ hr) ?_; rintro e w2 ⟨⟨v', rfl, hv⟩, k⟩; obtain ⟨a, n, c, rfl, hn, _⟩ := id hv; simp at hn; subst hn; exact ⟨_, rfl, hK _ _ ⟨a, c, rfl, i.trans k (by simp)⟩⟩)
    (by rintro u2 u3 u4 u6 w' ⟨a, c, rfl, _⟩; exact Or.inl ⟨by rfl, fun W' hW' => by go_simp⟩)
    (by rintro u2 u3 u4 u6 w' ⟨a, c, rfl, _⟩; exact Or.inl ⟨by rfl, fun W' hW' => by simp only [tupAt]; go_simp⟩)
    (by rintro u2 u3 u4 u6 w' ⟨a, c, rfl, _⟩; exact Or.inl ⟨by rfl, fun W' hW' => by simp only [tupAt]; go_simp⟩)
    (by rintro u2 u3 u4 u6 w' ⟨a, c, rfl, _⟩; exact Or.inl ⟨by rfl, fun W' hW' => by simp only [tupAt]; go_simp⟩)
    (by rintro u2 u3 u4 u6 w' ⟨a, c, rfl, _⟩; exact Or.inl ⟨by rfl, fun W' hW' => by simp only [tupAt]; go_simp⟩)
    (by rintro u2 u3 u4 u6 w' ⟨a, c, rfl, _⟩; exact Or.inl ⟨by rfl, fun W' hW' => by simp only [tupAt]; go_simp⟩)
    (by rintro u2 u3 u4 u6 w' ⟨a, c, rfl, _⟩; exact Or.inl ⟨by rfl, fun W' hW' => by simp only [tupAt]; go_simp⟩)
    ?_
  rintro u2 u3 u4 u6 w6 ⟨sa, sc, rfl, k6⟩
  simp only [Act.put, List.setIfInBounds_toArray, List.set_cons_zero, List.set_cons_succ, tupAt, List.getD_cons_zero, List.getD_cons_succ]
  have HD4 := hide (k6.heap (unhide HD3) (by simp))
  have HN4 := hide (k6.heap (unhide HN3) (by simp))
  have HP4 := hide ((unhide HP3).old k6)
  have HK4 := hide ((unhide HK3).trans k6 (by simp))
  have HV4 := hide ((unhide HV3).old k6 (by simp))
  have c4 := k6.cell c3 (by simp)
  clear k6 HD3 HN3 HP3 HK3 HV3 c3 c30 HCC
  have hne : ∀ p : Prop, (∀ w', Kept [] w6 w' → p) = p := fun p => propext ⟨fun h => h w6 (Kept.refl [] w6), fun h _ _ => h⟩
  have HCK := hide (fun w' (hw' : Kept [] w6 w') => (refBucket_any 2 (.slice pa pn pc) ps1 w' (by decide) ((unhide HP4).old hw') ps1_pb).mono (fun e w2 h2 => ⟨h2.1, hw'.trans h2.2 (by simp)⟩) : ∀ w', Kept [] w6 w' → Calls Tryd.prog 13 #[.int .i64 2, .slice pa pn pc] w' fun e w2 => e = .returned (.agg (brow (sumD ((2 : Nat) : Int) (buckB ps1)))) ∧ Kept [] w6 w2)
  rw [show sumD ((2 : Nat) : Int) (buckB ps1) = D from unhide HD] at HCK
  have heq := fun W => dig_eq W D D hdl hdl
  rw [decide_eq_true rfl] at heq
  have HCV := hide (fun w' (hw' : Kept [] w6 w') => conv_any (.slice va vn vc) [49] w' ((unhide HV4).old hw' (by simp)) (by kernel_rfl) (by kernel_rfl))
  have hst : strOf [49] = ⟨#[49]⟩ := rfl
  rw [hst] at HCV
  clear hst HCB
  go_wp2_with fail
  refine wp_region_keep (by kernel_rfl) (by kernel_rfl) ?_
  iterate 7 (go_big_quiet_step (fail))
  refine wpQuiet_val rfl (.string ⟨#[49]⟩) (fun w' hw' => by have h9 := unhide HCV w' hw'; unfold execOp; go_simp) ?_
  simp only [Act.put, List.setIfInBounds_toArray, List.set_cons_succ, List.set_cons_zero]
  iterate 3 (go_big_quiet_step (fail))
  refine wpQuiet_row rfl 29 (.tmp 2) rfl w2.heap.size rfl _ (brow D) (0, 0) _ (fun w' hw' => hw'.heap (unhide HD4) (by simp)) Tryd.underlying29 rfl (unhide HSZ) ?_
  simp only [Act.put, List.setIfInBounds_toArray, List.set_cons_succ, List.set_cons_zero]
  go_big_quiet_step (fail)
  refine wpQuiet_val rfl (.slice pa pn pc) (fun w' hw' => by have h9 := hw'.cell c4 (by simp); go_simp) ?_
  simp only [Act.put, List.setIfInBounds_toArray, List.set_cons_succ, List.set_cons_zero]
  go_big_quiet_want
  go_big_quiet_op
  apply Exists.intro
  refine ⟨fun w' hw' => ?_, ?_⟩
  · exact unhide HCK w' hw'
  go_big_quiet_on
  refine wpQuiet_val rfl (.bool true) (fun w' hw' => run_eql 29 (.tmp 41) (.tmp 44) _ rfl (brow D) (brow D) rfl rfl w' true (by kernel_rfl) (heq w')) ?_
  simp only [Act.put, List.setIfInBounds_toArray, List.set_cons_succ, List.set_cons_zero]
  repeat (go_big_quiet_step (fail))
  refine wpQuiet_nil ?_
  intro w7 hw7
  have HK7 := hide ((unhide HK4).trans hw7 (by simp))
  clear hw7
  go_wp2
  go_ret
  exact ⟨rfl, unhide HK7⟩
end Go.Proofs.YtjafmnemobcipaaDoor
namespace Go.Proofs.YtjafmnemobcipaaDoor
open Go.ChangeShapes Go.WideShapes Go.ChangeAt Go.RowKit Go.Deep
set_option linter.unusedVariables false
set_option linter.unusedSimpArgs false

theorem own : ownKnob Tryd.prog.godebug = none := by kernel_rfl
theorem laidOut : laidOutB Tryd.prog = true := by kernel_rfl
theorem byte_of_wf {x : Int} (h : (Lit.int .u8 x).wf = true) : 0 ≤ x ∧ x < 256 := by
  simp [Lit.wf, IntKind.min, IntKind.max, IntKind.signed, IntKind.bits] at h
  exact ⟨by omega, by omega⟩
theorem int_of_wf {x : Int} (h : (Lit.int .i64 x).wf = true) : -9223372036854775808 ≤ x ∧ x ≤ 9223372036854775807 := by
  simp [Lit.wf, IntKind.min, IntKind.max, IntKind.signed, IntKind.bits] at h
  exact ⟨by omega, by omega⟩

theorem bulk_one {H : Type} (d : DataW H) : 1 ≤ Rows.uptoBulk d := by
  cases d with
  | lit l => cases l <;> simp [Rows.uptoBulk]
  | nil => simp [Rows.uptoBulk]
  | ptr d => simp [Rows.uptoBulk]
  | slice elems spare => simp [Rows.uptoBulk]
  | agg parts => simp [Rows.uptoBulk]
  | iface t d => simp [Rows.uptoBulk]
  | map entries => simp [Rows.uptoBulk]
  | held h => simp [Rows.uptoBulk]
theorem bulk_len {H : Type} (l : List (DataW H)) : l.length ≤ Rows.uptoBulkAll l := by
  induction l with
  | nil => simp [Rows.uptoBulkAll]
  | cons x r ih => have := bulk_one x; simp only [Rows.uptoBulkAll, List.length_cons]; omega
theorem Tryd.bytes5 : Tryd.prog.bytesOf 5 = 1 := by kernel_rfl

section
variable {H : Type} {enc : TypeId × Value → H} {W : World}

/-- Bytes that came in, as the walks want them, of whatever length. -/
theorem open_bytes {fuel : Nat} {cs : List Value} {x : DataW H × List MemPlace} (h : DataW.trod enc Tryd.prog W 0 (fun _ => true) true fuel 22 cs = some x) :
    ∃ v bs, cs = [v] ∧ (bs.length ≤ 140737488355328 → Rd W v bs) ∧ ((bs = [] ∧ x.1 = .nil) ∨ ∃ elems spare, x.1 = .slice elems spare ∧ elems.length = bs.length) := by
  rcases open_ints Tryd.underlying22 Tryd.underlying5 (by kernel_rfl) h with ⟨rfl, rfl⟩ | ⟨a, len, cap, zs, rfl, _, hl, hm, hz, rfl, hcell, hwz⟩
  · exact ⟨_, [], rfl, fun _ => Rd.nil W, .inl ⟨rfl, rfl⟩⟩
  · have h2 : (lits (H := H) .u8 (zs.take len)).length = len := by simp only [lits, List.length_map, List.length_take]; simp at hz; omega
    have hbl : ((zs.take len).map Int.toNat).length = len := by simp at hz; simp; omega
    refine ⟨_, (zs.take len).map Int.toNat, rfl, fun hB => ⟨_, _, _, rfl, hbl, hl, ⟨by unfold maxLen at hm; omega, by omega⟩, by simp, ?_, ?_⟩, .inr ⟨_, _, rfl, by rw [h2, hbl]⟩⟩
    · intro y hy
      obtain ⟨z, hz1, rfl⟩ := List.mem_map.1 hy
      have := byte_of_wf (hwz z (List.mem_of_mem_take hz1)); omega
    · intro hp
      simp at hz
      have hc0 := hcell 0 (by omega)
      obtain ⟨b, off, spot⟩ := a
      have hspot : spot = none := by simpa [Addr.add] using World.cell?_spot hc0
      subst hspot
      refine ⟨b, off, rfl, fun i hi => ?_⟩
      have hc := hcell i (by omega)
      have hzi : i < zs.length := by omega
      rw [Addr.add_mid] at hc
      rw [hc]
      have hw := byte_of_wf (hwz (zs[i]) (List.getElem_mem hzi))
      simp only [List.getD_eq_getElem?_getD, List.getElem?_eq_getElem hzi, Option.getD_some, List.getElem?_map, List.getElem?_take, hi, if_true, Option.map_some]
      simp [u8]; omega
/-- Their length, by the reach. -/
theorem reach_bytes {ts : List TypeId} {ds : List (DataW H)} (h : (DataW.weightsEach Tryd.prog ts ds).all (· ≤ reachBytes) = true) {j : Nat} (ht : ts[j]? = some 22) {d : DataW H} (hd : ds[j]? = some d) {bs : List Nat}
    (hx : (bs = [] ∧ d = .nil) ∨ ∃ elems spare, d = .slice elems spare ∧ elems.length = bs.length) : bs.length ≤ 140737488351232 := by
  rcases hx with ⟨rfl, _⟩ | ⟨elems, spare, rfl, he⟩
  · simp
  · have := sized_slice h ht hd Tryd.underlying22
    rw [Tryd.bytes5, Nat.mul_one] at this
    unfold reachBytes at this
    omega
/-- Their length, by the bulk. -/
theorem bulk_bytes {d : DataW H} {bs : List Nat} (hx : (bs = [] ∧ d = .nil) ∨ ∃ elems spare, d = .slice elems spare ∧ elems.length = bs.length) : bs.length + 1 ≤ Rows.uptoBulk d := by
  rcases hx with ⟨rfl, rfl⟩ | ⟨elems, spare, rfl, he⟩
  · simp [Rows.uptoBulk]
  · have := bulk_len elems
    simp only [Rows.uptoBulk]; omega
end
end Go.Proofs.YtjafmnemobcipaaDoor
namespace Go.Proofs.YtjafmnemobcipaaDoor
open Go Go.RowKit
set_option linter.unusedVariables false
set_option linter.unusedSimpArgs false
section
variable {H : Type} {enc : TypeId × Value → H} {W : World}

def natOf : Value → Nat
  | .int _ n => n.toNat
  | _ => 0
/-- A digest that came in. -/
theorem open_dig {fuel : Nat} {cs : List Value} {x : DataW H × List MemPlace} (h : DataW.trod enc Tryd.prog W 0 (fun _ => true) true fuel 29 cs = some x) :
    ∃ l : List Nat, cs = l.map u8 ∧ l.length = 32 ∧ ∀ y ∈ l, y < 256 := by
  obtain ⟨xs, m, _, rfl, hl, hn, hc⟩ := DataW.trod_array Tryd.underlying29 h
  rw [show Tryd.prog.cellsOf 29 = 32 from by kernel_rfl] at hl
  rw [show Tryd.prog.cellsOf 5 = 1 from by kernel_rfl] at hc
  have key : ∀ i (hi : i < cs.length), cs[i] = u8 (natOf cs[i]) ∧ natOf cs[i] < 256 := by
    intro i hi
    have h1 := hc i (by omega)
    rw [Nat.mul_one, List.getElem?_eq_getElem (by omega)] at h1
    obtain ⟨n, e, _, hw⟩ := DataW.trod_int Tryd.underlying5 h1
    rw [List.drop_eq_getElem_cons hi, List.take_succ_cons, List.take_zero] at e
    simp only [List.cons.injEq, and_true] at e
    have := byte_of_wf hw
    rw [e]
    refine ⟨?_, ?_⟩
    · simp [u8, natOf]; omega
    · simp [natOf]; omega
  refine ⟨cs.map natOf, ?_, by simp [hl], ?_⟩
  · rw [List.map_map]
    refine List.ext_getElem (by simp) fun i h1 h2 => ?_
    rw [List.getElem_map]
    exact (key i h1).1
  · intro y hy
    obtain ⟨v, hv, rfl⟩ := List.mem_map.1 hy
    obtain ⟨i, hi, rfl⟩ := List.getElem_of_mem hv
    exact (key i hi).2
set_option maxRecDepth 100000 in
theorem open_digv {b0 : Nat} {v : Value} {d : DataW H} {ps : List MemPlace} (hv : Value.okWide Tryd.prog W .any b0 29 v) (h : DataW.Trod enc Tryd.prog W 0 (fun _ => true) true 29 v d ps) :
    ∃ l : List Nat, v = .agg (brow l) ∧ l.length = 32 ∧ ∀ y ∈ l, y < 256 := by
  unfold Value.okWide at hv
  rw [Tryd.underlying29] at hv
  obtain ⟨cs, rfl, _, _⟩ := hv
  obtain ⟨fuel, hf⟩ := h
  obtain ⟨l, e, h1, h2⟩ := open_dig hf
  refine ⟨l, ?_, h1, h2⟩
  simp only [Value.cells] at e
  unfold brow
  rw [← e]
end
end Go.Proofs.YtjafmnemobcipaaDoor
namespace Go.Proofs.YtjafmnemobcipaaDoor
open Go.ChangeShapes Go.WideShapes Go.ChangeAt Go.RowKit Go.Deep
set_option linter.unusedVariables false
set_option linter.unusedSimpArgs false

/-- A question: its width, key, steps, pairs, root. -/
structure AskH where
  z : Int
  k : List Nat
  ss : List (Nat × List (List Nat))
  ps : List (List Nat × List Nat)
  r : List Nat
def askH (q : AskH) (kv sv pv : Value) : List Value := [.int .i64 q.z, kv, sv, pv] ++ q.r.map u8
def zaskh : Array Value := (askH ⟨0, [], [], [], List.replicate 32 0⟩ (.slice none 0 0) (.slice none 0 0) (.slice none 0 0)).toArray
structure OkP (w : World) (ss : List (Nat × List (List Nat))) (ps : List (List Nat × List Nat)) (sv pv : Value) : Prop where
  s : RdS w sv ss
  p : RdK w pv ps
  sl : ss.length ≤ 1048576
  kl : ∀ x ∈ ss, x.2.length ≤ 1048576
  pw : kwt ps ≤ 1048576
theorem OkP.old {w w' : World} {ss : List (Nat × List (List Nat))} {ps : List (List Nat × List Nat)} {sv pv : Value} (h : OkP w ss ps sv pv) (k : Kept [] w w') : OkP w' ss ps sv pv := ⟨h.s.old k, h.p.old k, h.sl, h.kl, h.pw⟩
structure OkH (w : World) (q : AskH) (kv sv pv : Value) : Prop where
  z : -9223372036854775808 ≤ q.z ∧ q.z ≤ 9223372036854775807
  k : Rd w kv q.k
  kl : q.k.length ≤ 1048576
  P : OkP w q.ss q.ps sv pv
  r : Dg q.r
theorem OkH.old {w w' : World} {q : AskH} {kv sv pv : Value} (h : OkH w q kv sv pv) (k : Kept [] w w') : OkH w' q kv sv pv := ⟨h.z, h.k.old k (by simp), h.kl, h.P.old k, h.r⟩
theorem kwt_len (ps : List (List Nat × List Nat)) : 2 * ps.length ≤ kwt ps := by
  induction ps with
  | nil => simp [kwt]
  | cons x r ih =>
    have ek : kwt (x :: r) = x.1.length + x.2.length + 2 + kwt r := by simp [kwt]
    rw [ek, List.length_cons]; omega
section
variable {H : Type} {enc : TypeId × Value → H} {W : World}

theorem o_bulk_part {d : DataW H} {l : List (DataW H)} (h : d ∈ l) : Rows.uptoBulk d ≤ Rows.uptoBulkAll l := by
  induction l with
  | nil => cases h
  | cons x r ih =>
    simp only [Rows.uptoBulkAll]
    cases List.mem_cons.1 h with
    | inl e => subst e; omega
    | inr e => have := ih e; omega
theorem o_split (cs : List Value) (a n : Nat) : cs.drop a = (cs.drop a).take n ++ cs.drop (a + n) := by
  rw [← List.drop_drop, List.take_append_drop]

/-- Digests that came in. -/
theorem open_digs2 {fuel : Nat} {cs : List Value} {x : DataW H × List MemPlace} (h : DataW.trod enc Tryd.prog W 0 (fun _ => true) true fuel 41 cs = some x) (hB : Rows.uptoBulk x.1 ≤ 1048576) :
    ∃ v ds, cs = [v] ∧ RdD W v ds ∧ ds.length ≤ 1048576 := by
  rcases open_slice Tryd.underlying41 h with ⟨rfl, rfl⟩ | ⟨a, len, cap, m, n, D, Pl, rfl, _, hl, hm, hmm, rfl, hx⟩
  · exact ⟨_, [], rfl, ⟨none, 0, 0, rfl, rfl, Nat.le_refl _, by omega, fun d hd => by simp at hd, fun h => by omega⟩, by simp⟩
  · have hC : Tryd.prog.cellsOf 29 = 32 := by kernel_rfl
    rw [hC] at hx
    simp only [if_true] at hmm
    simp only [Rows.uptoBulk] at hB
    have hcap : cap ≤ 1048576 := by
      have h1 := bulk_len ((List.range len).map D)
      have h2 := bulk_len ((List.range (m - len)).map fun j => D (len + j))
      simp at h1 h2
      omega
    obtain ⟨f, hf⟩ := choose_lt (α := List Nat) (n := len) (p := fun i o => (∀ j v, (o.map u8)[j]? = some v → W.cell? ((a.add (i * 32)).add j) = some v) ∧ o.length = 32 ∧ ∀ y ∈ o, y < 256) (by
      intro i hi
      obtain ⟨cs', h1, h2⟩ := hx i (by omega)
      obtain ⟨l, rfl, hl1, hl2⟩ := open_dig h2
      obtain ⟨_, hlen, hc⟩ := World.cells?_some h1
      refine ⟨l, fun j v hv => ?_, hl1, hl2⟩
      have hj := (List.getElem?_eq_some_iff.1 hv).1
      have := hc j (by rw [List.length_map] at hj; omega)
      rw [this, ← hv, List.getElem?_eq_getElem hj])
    refine ⟨_, (List.range len).map f, rfl, ⟨some a, len, cap, rfl, by simp, hl, by omega, ?_, ?_⟩, by simp; omega⟩
    · intro d hd
      obtain ⟨i, hi, rfl⟩ := List.mem_map.1 hd
      exact (hf i (List.mem_range.1 hi)).2
    · intro hp
      obtain ⟨b, off, spot⟩ := a
      have h0 := hf 0 hp
      have hc0 := h0.1 0 (u8 ((f 0).getD 0 0)) (by rw [List.getElem?_map, List.getD_eq_getElem?_getD, List.getElem?_eq_getElem (by omega)]; rfl)
      have hspot : spot = none := by simpa [Addr.add] using World.cell?_spot hc0
      subst hspot
      refine ⟨b, off, rfl, fun i hi j v hv => ?_⟩
      have e9 : ((List.range len).map f).getD i [] = f i := by simp [List.getD_eq_getElem?_getD, hi]
      rw [e9] at hv
      have := (hf i hi).1 j v hv
      rw [Addr.add_mid, Addr.add_mid] at this
      exact this

theorem k_flat_bulk (f : Nat → List Nat × List Nat) (D0 D1 : Nat → DataW H) (l : List Nat) (h : ∀ i ∈ l, (f i).1.length + 1 ≤ Rows.uptoBulk (D0 i) ∧ (f i).2.length + 1 ≤ Rows.uptoBulk (D1 i)) : kwt (l.map f) ≤ Rows.uptoBulkAll (l.map fun i => .agg [D0 i, D1 i]) := by
  induction l with
  | nil => simp [kwt]
  | cons a l ih =>
    have h1 := h a (by simp)
    have h2 := ih (fun i hi => h i (by simp [hi]))
    simp only [kwt, List.map_cons, List.sum_cons, Rows.uptoBulkAll, Rows.uptoBulk] at h2 ⊢
    omega
/-- Pairs that came in. -/
theorem open_pairs {fuel : Nat} {cs : List Value} {x : DataW H × List MemPlace} (h : DataW.trod enc Tryd.prog W 0 (fun _ => true) true fuel 24 cs = some x) (hB : Rows.uptoBulk x.1 ≤ 1048576) :
    ∃ v ps, cs = [v] ∧ RdK W v ps ∧ kwt ps ≤ 1048576 := by
  rcases open_slice_pairs Tryd.underlying24 Tryd.underlying64 (by kernel_rfl) rfl rfl (by kernel_rfl) (by kernel_rfl) h with ⟨rfl, rfl⟩ | ⟨a, len, cap, m, n, V0, V1, D0, D1, P0, P1, rfl, _, hl, hm, hmm, rfl, hx⟩
  · exact ⟨_, [], rfl, ⟨none, 0, 0, [], [], rfl, rfl, Nat.le_refl _, by omega, fun i h => by omega, fun h => by omega⟩, by simp [kwt]⟩
  · simp only [if_true] at hmm
    simp only [Rows.uptoBulk] at hB
    obtain ⟨f, hf⟩ := choose_lt (α := List Nat × List Nat) (n := len) (p := fun i o => (Rd W (V0 i) o.1 ∧ Rd W (V1 i) o.2) ∧ o.1.length + 1 ≤ Rows.uptoBulk (D0 i) ∧ o.2.length + 1 ≤ Rows.uptoBulk (D1 i)) (by
      intro i hi
      obtain ⟨_, _, h0, h1⟩ := hx i (by omega)
      have hDi : Rows.uptoBulk (.agg [D0 i, D1 i]) ≤ Rows.uptoBulkAll ((List.range len).map fun i => .agg [D0 i, D1 i]) := o_bulk_part (List.mem_map.2 ⟨i, List.mem_range.2 hi, rfl⟩)
      simp only [Rows.uptoBulk, Rows.uptoBulkAll] at hDi
      obtain ⟨v, bs, e0, hr0, hb0⟩ := open_bytes h0
      obtain ⟨v', bs', e1, hr1, hb1⟩ := open_bytes h1
      simp only [List.cons.injEq, and_true] at e0 e1
      subst e0
      subst e1
      have g0 := bulk_bytes hb0
      have g1 := bulk_bytes hb1
      exact ⟨(bs, bs'), ⟨hr0 (by simp only at g0; omega), hr1 (by simp only at g1; omega)⟩, g0, g1⟩)
    refine ⟨_, (List.range len).map f, rfl, ⟨some a, len, cap, (List.range len).map V0, (List.range len).map V1, rfl, by simp, hl, by unfold maxLen at hm; omega, ?_, ?_⟩, ?_⟩
    · intro i hi
      have hc := (hf i hi).1
      simpa [List.getD_eq_getElem?_getD, hi] using hc
    · intro hp
      obtain ⟨b, off, spot⟩ := a
      have hc0 := (hx 0 (by omega)).1
      have hspot : spot = none := by simpa [Addr.add] using World.cell?_spot hc0
      subst hspot
      refine ⟨b, off, rfl, fun i hi => ?_⟩
      have hc := hx i (by omega)
      rw [Addr.add_mid, Addr.add_mid] at hc
      have := And.intro hc.1 hc.2.1
      simpa [List.getD_eq_getElem?_getD, hi, Nat.add_assoc] using this
    · have := k_flat_bulk f D0 D1 (List.range len) (fun i hi => (hf i (List.mem_range.1 hi)).2)
      omega
theorem pairB_kwt (ps : List (List Nat × List Nat)) (h : kwt ps ≤ 1048576) : (pairB ps).length ≤ 10 * kwt ps := by
  induction ps with
  | nil => simp [pairB]
  | cons x r ih =>
    have e : pairB (x :: r) = uv x.1.length ++ x.1 ++ (uv x.2.length ++ x.2) ++ pairB r := by simp [pairB]
    have ek : kwt (x :: r) = x.1.length + x.2.length + 2 + kwt r := by simp [kwt]
    have h1 := ih (by omega)
    have u1 := uv_len x.1.length (by omega)
    have u2 := uv_len x.2.length (by omega)
    rw [e, ek]
    simp only [List.length_append]
    omega


theorem OkP.pl {w : World} {ss : List (Nat × List (List Nat))} {ps : List (List Nat × List Nat)} {sv pv : Value} (h : OkP w ss ps sv pv) : ps.length ≤ 1048576 := by have := kwt_len ps; have := h.pw; omega
theorem OkP.pb {w : World} {ss : List (Nat × List (List Nat))} {ps : List (List Nat × List Nat)} {sv pv : Value} (h : OkP w ss ps sv pv) : (pairB ps).length ≤ 1000000000000 := by have := pairB_kwt ps h.pw; have := h.pw; omega

/-- Steps that came in. -/
theorem open_steps {fuel : Nat} {cs : List Value} {x : DataW H × List MemPlace} (h : DataW.trod enc Tryd.prog W 0 (fun _ => true) true fuel 23 cs = some x) (hB : Rows.uptoBulk x.1 ≤ 1048576) :
    ∃ v ss, cs = [v] ∧ RdS W v ss ∧ ss.length ≤ 1048576 ∧ ∀ s ∈ ss, s.2.length ≤ 1048576 := by
  rcases open_slice_pairs Tryd.underlying23 Tryd.underlying43 (by kernel_rfl) rfl rfl (by kernel_rfl) (by kernel_rfl) h with ⟨rfl, rfl⟩ | ⟨a, len, cap, m, n, V0, V1, D0, D1, P0, P1, rfl, _, hl, hm, hmm, rfl, hx⟩
  · exact ⟨_, [], rfl, ⟨none, 0, 0, [], rfl, rfl, Nat.le_refl _, by omega, fun i h => by omega, fun h => by omega⟩, by simp, by simp⟩
  · simp only [if_true] at hmm
    simp only [Rows.uptoBulk] at hB
    have hlen : len ≤ 1048576 := by
      have h1 := bulk_len ((List.range len).map fun i => DataW.agg [D0 i, D1 i])
      simp at h1
      omega
    obtain ⟨f, hf⟩ := choose_lt (α := Nat × List (List Nat)) (n := len) (p := fun i o => V0 i = .int .u16 (o.1 : Int) ∧ o.1 < 65536 ∧ RdD W (V1 i) o.2 ∧ o.2.length ≤ 1048576) (by
      intro i hi
      obtain ⟨_, _, h0, h1⟩ := hx i (by omega)
      have hDi : Rows.uptoBulk (.agg [D0 i, D1 i]) ≤ Rows.uptoBulkAll ((List.range len).map fun i => .agg [D0 i, D1 i]) := o_bulk_part (List.mem_map.2 ⟨i, List.mem_range.2 hi, rfl⟩)
      simp only [Rows.uptoBulk, Rows.uptoBulkAll] at hDi
      obtain ⟨b, e0, _, w0⟩ := DataW.trod_int Tryd.underlying40 h0
      obtain ⟨v', ds, e1, hr1, hb1⟩ := open_digs2 h1 (by show Rows.uptoBulk (D1 i) ≤ _; omega)
      simp only [List.cons.injEq, and_true] at e0 e1
      have hb : 0 ≤ b ∧ b < 65536 := by
        simp [Lit.wf, IntKind.min, IntKind.max, IntKind.signed, IntKind.bits] at w0
        omega
      subst e1
      exact ⟨(b.toNat, ds), by rw [e0, Int.toNat_of_nonneg hb.1], by show b.toNat < 65536; omega, hr1, hb1⟩)
    refine ⟨_, (List.range len).map f, rfl, ⟨some a, len, cap, (List.range len).map V1, rfl, by simp, hl, by unfold maxLen at hm; omega, ?_, ?_⟩, by simpa using hlen, ?_⟩
    · intro i hi
      have hc := hf i hi
      have := And.intro hc.2.1 hc.2.2.1
      simpa [List.getD_eq_getElem?_getD, hi] using this
    · intro hp
      obtain ⟨b, off, spot⟩ := a
      have hc0 := (hx 0 (by omega)).1
      have hspot : spot = none := by simpa [Addr.add] using World.cell?_spot hc0
      subst hspot
      refine ⟨b, off, rfl, fun i hi => ?_⟩
      have hc := hx i (by omega)
      rw [Addr.add_mid, Addr.add_mid, (hf i hi).1] at hc
      have := And.intro hc.1 hc.2.1
      simpa [List.getD_eq_getElem?_getD, hi, Nat.add_assoc] using this
    · intro s hs
      obtain ⟨i, hi, rfl⟩ := List.mem_map.1 hs
      exact (hf i (List.mem_range.1 hi)).2.2.2

/-- A path that came in. -/
theorem open_path {fuel : Nat} {cs : List Value} {x : DataW H × List MemPlace} (h : DataW.trod enc Tryd.prog W 0 (fun _ => true) true fuel 26 cs = some x) (hB : Rows.uptoBulk x.1 ≤ 1048576) :
    ∃ ss ps sv pv, cs = [sv, pv] ∧ OkP W ss ps sv pv := by
  obtain ⟨xs, n, _, rfl, hl, hlen, hf⟩ := DataW.trod_struct Tryd.underlying26 h
  rw [show Tryd.prog.cellsOf 26 = 2 from by kernel_rfl] at hl
  match xs, hlen with
  | [y0, y1], _ =>
    have c0 : Tryd.prog.cellsOf 23 = 1 := by kernel_rfl
    have c1 : Tryd.prog.cellsOf 24 = 1 := by kernel_rfl
    have f0 : DataW.trod enc Tryd.prog W 0 (fun _ => true) true n 23 ((cs.drop 0).take 1) = some y0 := by have this : DataW.trod enc Tryd.prog W 0 (fun _ => true) true n 23 ((cs.drop 0).take (Tryd.prog.cellsOf 23)) = some y0 := hf 0 _ rfl; rw [c0] at this; exact this
    have f1 : DataW.trod enc Tryd.prog W 0 (fun _ => true) true n 24 ((cs.drop 1).take 1) = some y1 := by have this : DataW.trod enc Tryd.prog W 0 (fun _ => true) true n 24 ((cs.drop 1).take (Tryd.prog.cellsOf 24)) = some y1 := hf 1 _ rfl; rw [c1] at this; exact this
    simp only [List.map_cons, List.map_nil, Rows.uptoBulk, Rows.uptoBulkAll] at hB
    obtain ⟨sv, ss, e0, hs, hsl, hkl⟩ := open_steps f0 (by omega)
    obtain ⟨pv, ps, e1, hp, hpw⟩ := open_pairs f1 (by omega)
    refine ⟨ss, ps, sv, pv, ?_, ⟨hs, hp, hsl, hkl, hpw⟩⟩
    have hd : cs.drop 2 = [] := List.drop_eq_nil_of_le (by omega)
    have this := o_split cs 0 1
    rw [e0, o_split cs 1 1, e1, hd, List.drop_zero] at this
    rw [this]; rfl

/-- A question that came in. -/
theorem open_askh {fuel : Nat} {cs : List Value} {x : DataW H × List MemPlace} (h : DataW.trod enc Tryd.prog W 0 (fun _ => true) true fuel 39 cs = some x) (hB : Rows.uptoBulk x.1 ≤ 1048576) :
    ∃ (q : AskH) (kv sv pv : Value), cs = askH q kv sv pv ∧ OkH W q kv sv pv := by
  obtain ⟨xs, n, _, rfl, hl, hlen, hf⟩ := DataW.trod_struct Tryd.underlying39 h
  rw [show Tryd.prog.cellsOf 39 = 36 from by kernel_rfl] at hl
  match xs, hlen with
  | [y0, y1, y2, y3], _ =>
    have c3 : Tryd.prog.cellsOf 3 = 1 := by kernel_rfl
    have cb : Tryd.prog.cellsOf 22 = 1 := by kernel_rfl
    have ck : Tryd.prog.cellsOf 26 = 2 := by kernel_rfl
    have cd : Tryd.prog.cellsOf 29 = 32 := by kernel_rfl
    have f0 : DataW.trod enc Tryd.prog W 0 (fun _ => true) true n 3 ((cs.drop 0).take 1) = some y0 := by have this : DataW.trod enc Tryd.prog W 0 (fun _ => true) true n 3 ((cs.drop 0).take (Tryd.prog.cellsOf 3)) = some y0 := hf 0 _ rfl; rw [c3] at this; exact this
    have f1 : DataW.trod enc Tryd.prog W 0 (fun _ => true) true n 22 ((cs.drop 1).take 1) = some y1 := by have this : DataW.trod enc Tryd.prog W 0 (fun _ => true) true n 22 ((cs.drop 1).take (Tryd.prog.cellsOf 22)) = some y1 := hf 1 _ rfl; rw [cb] at this; exact this
    have f2 : DataW.trod enc Tryd.prog W 0 (fun _ => true) true n 26 ((cs.drop 2).take 2) = some y2 := by have this : DataW.trod enc Tryd.prog W 0 (fun _ => true) true n 26 ((cs.drop 2).take (Tryd.prog.cellsOf 26)) = some y2 := hf 2 _ rfl; rw [ck] at this; exact this
    have f3 : DataW.trod enc Tryd.prog W 0 (fun _ => true) true n 29 ((cs.drop 4).take 32) = some y3 := by have this : DataW.trod enc Tryd.prog W 0 (fun _ => true) true n 29 ((cs.drop 4).take (Tryd.prog.cellsOf 29)) = some y3 := hf 3 _ rfl; rw [cd] at this; exact this
    simp only [List.map_cons, List.map_nil, Rows.uptoBulk, Rows.uptoBulkAll] at hB
    obtain ⟨z, e0, _, w0⟩ := DataW.trod_int Tryd.underlying3 f0
    obtain ⟨kv, bs, e1, hr1, hb1⟩ := open_bytes f1
    have g1 := bulk_bytes hb1
    obtain ⟨ss, ps, sv, pv, e2, hP⟩ := open_path f2 (by omega)
    obtain ⟨r, e3, r1, r2⟩ := open_dig f3
    refine ⟨⟨z, bs, ss, ps, r⟩, kv, sv, pv, ?_, ⟨int_of_wf w0, hr1 (by omega), by show bs.length ≤ _; omega, hP, ⟨r1, r2⟩⟩⟩
    have hd : cs.drop 36 = [] := List.drop_eq_nil_of_le (by omega)
    have this := o_split cs 0 1
    rw [e0, o_split cs 1 1, e1, o_split cs 2 2, e2, o_split cs 4 32, e3, hd, List.drop_zero] at this
    rw [this]
    simp [askH]

set_option maxRecDepth 100000 in
theorem open_askhv {b0 : Nat} {v : Value} {d : DataW H} {ps : List MemPlace} (hv : Value.okWide Tryd.prog W .any b0 39 v) (h : DataW.Trod enc Tryd.prog W 0 (fun _ => true) true 39 v d ps) (hB : Rows.uptoBulk d ≤ 1048576) :
    ∃ (q : AskH) (kv sv pv : Value), v = .agg (askH q kv sv pv).toArray ∧ OkH W q kv sv pv := by
  unfold Value.okWide at hv
  rw [Tryd.underlying39] at hv
  obtain ⟨cs, rfl, _, _⟩ := hv
  obtain ⟨fuel, hf⟩ := h
  obtain ⟨q, kv, sv, pv, e, h1⟩ := open_askh hf hB
  refine ⟨q, kv, sv, pv, ?_, h1⟩
  simp only [Value.cells] at e
  rw [← e]

set_option maxRecDepth 100000 in
theorem open_pathv {b0 : Nat} {v : Value} {d : DataW H} {ps : List MemPlace} (hv : Value.okWide Tryd.prog W .any b0 26 v) (h : DataW.Trod enc Tryd.prog W 0 (fun _ => true) true 26 v d ps) (hB : Rows.uptoBulk d ≤ 1048576) :
    ∃ ss ps sv pv, v = .agg #[sv, pv] ∧ OkP W ss ps sv pv := by
  unfold Value.okWide at hv
  rw [Tryd.underlying26] at hv
  obtain ⟨cs, rfl, _, _⟩ := hv
  obtain ⟨fuel, hf⟩ := h
  obtain ⟨ss, ps, sv, pv, e, h1⟩ := open_path hf hB
  refine ⟨ss, ps, sv, pv, ?_, h1⟩
  simp only [Value.cells] at e
  have := congrArg List.toArray e
  simp only [Array.toArray_toList] at this
  rw [this]
end
end Go.Proofs.YtjafmnemobcipaaDoor
namespace Go.Proofs.YtjafmnemobcipaaDoor
open Go.RowKit Go.BigFrame
set_option linter.unusedVariables false
set_option linter.unusedSimpArgs false

theorem h_mid {w : World} {g n : Nat} {t : TypeId} {fr : Nat × Nat} (a b c : List Value) (h : w.heap[g]? = some (.cells (a ++ (b ++ c)).toArray t fr)) (hn : a.length = n) : w.rangeAt g n b := by
  subst hn
  intro j v hv
  have hj := (List.getElem?_eq_some_iff.1 hv).1
  rw [cell_of_row w g _ _ t fr h, List.getElem?_toArray, List.getElem?_append_right (by omega), Nat.add_sub_cancel_left, List.getElem?_append_left hj, hv]
theorem askH_cells {w : World} {g : Nat} {t : TypeId} {fr : Nat × Nat} {q : AskH} {kv sv pv : Value} (h : w.heap[g]? = some (.cells (askH q kv sv pv).toArray t fr)) :
    w.cell? ⟨g, 0, none⟩ = some (.int .i64 q.z) ∧ w.cell? ⟨g, 1, none⟩ = some kv ∧ w.cell? ⟨g, 2, none⟩ = some sv ∧ w.cell? ⟨g, 3, none⟩ = some pv ∧ w.rangeAt g 4 (q.r.map u8) := by
  unfold askH at h
  have h4 := h_mid (n := 4) [.int .i64 q.z, kv, sv, pv] (q.r.map u8) [] (by simpa using h) rfl
  have c : ∀ j v, ([.int .i64 q.z, kv, sv, pv] : List Value)[j]? = some v → w.cell? ⟨g, j, none⟩ = some v := by
    intro j v hv
    rw [cell_of_row w g _ _ t fr h, List.getElem?_toArray, List.getElem?_append_left (List.getElem?_eq_some_iff.1 hv).1, hv]
  exact ⟨c 0 _ rfl, c 1 _ rfl, c 2 _ rfl, c 3 _ rfl, h4⟩

theorem wpList_load_midG {P : Program} {ops : Array Oper} {rest : List Oper} {op : Oper} {a : Act} {w : World} {Q : Exit → Act → World → Prop} (hw : Region.wanted op (yielded ops a.tmps) = true) (ty : TypeId) (x : Operand) (ho : op.op = .load ty x)
    (b o : Nat) (hx : a.eval x = .pointer (some ⟨b, o, none⟩)) (cs : List Value) (d : TypeDesc) (hc : w.rangeAt b o cs)
    (hu : P.underlying ty = some d) (hd : d.isRow = true) (hi : (P.info? ty).map (·.size) = some cs.length)
    (h : wpList P ops Q rest (a.put op.dst (.agg cs.toArray)) w) : wpList P ops Q (op :: rest) a w :=
  wpList_want hw fun _ hK => wp_load_mid ty x ho b o hx cs d hc hu hd hi (hK _ _ h)

theorem Tryd.size_askh : (Tryd.prog.info? 39).map (·.size) = some 36 := by kernel_rfl
theorem OkP.s9 {w : World} {ss : List (Nat × List (List Nat))} {ps : List (List Nat × List Nat)} {sv pv : Value} (h : OkP w ss ps sv pv) : ss.length ≤ 1000000000000 := by have := h.sl; omega
theorem OkP.p9 {w : World} {ss : List (Nat × List (List Nat))} {ps : List (List Nat × List Nat)} {sv pv : Value} (h : OkP w ss ps sv pv) : ps.length ≤ 1000000000000 := by have := h.pl; omega
theorem OkP.k9 {w : World} {ss : List (Nat × List (List Nat))} {ps : List (List Nat × List Nat)} {sv pv : Value} (h : OkP w ss ps sv pv) : ∀ s ∈ ss, s.2.length ≤ 1000000000 := fun s hs => by have := h.kl s hs; omega
end Go.Proofs.YtjafmnemobcipaaDoor
namespace Go.Proofs.YtjafmnemobcipaaDoor
open Go.RowKit Go.BigFrame
set_option linter.unusedVariables false
set_option linter.unusedSimpArgs false

theorem fitS_len {b n : Nat} {c : Int} {t : Bool} (h : fitS b n c t = true) : n ≤ 16 ∧ (t = true → n ≤ 15) ∧ cnt b 16 = n + (if t then 1 else 0) ∧ b ≠ 0 := by
  unfold fitS at h
  simp only [Bool.and_eq_true, decide_eq_true_eq] at h
  have h9 := cnt_le b 16
  refine ⟨?_, fun ht => ?_, h.2.2, h.1⟩
  · have := h.2.2; split at this <;> omega
  · have := h.2.2; rw [ht] at this; simp at this; omega
theorem prov_lens {z : Int} {ks : List Nat} {ss : List (Nat × List (List Nat))} {ps : List (List Nat × List Nat)} (h : provB z ks ss ps = true) : (∀ s ∈ ss, s.2.length ≤ 16) ∧ (∀ i, i < footN ss ps → (ss.getD i (0, [])).2.length ≤ 15) ∧ ss.length ≤ 2 * z.toNat := by
  unfold provB at h
  simp only [Bool.and_eq_true, decide_eq_true_eq] at h
  have hf := fitsB_at ss.length h.2.1
  refine ⟨fun s hs => ?_, fun i hi => ?_, h.1⟩
  · obtain ⟨i, hi, rfl⟩ := List.getElem_of_mem hs
    have h9 := (fitS_len (hf i hi)).1
    rw [List.getD_eq_getElem?_getD, List.getElem?_eq_getElem hi] at h9
    exact h9
  · unfold footN at hi
    have hi2 : i < ss.length := by split at hi <;> omega
    refine (fitS_len (hf i hi2)).2.1 ?_
    split at hi
    · simp; omega
    · simp; omega
theorem ones_cnt {x : Nat} (hx : x < 65536) : ones x = cnt x 16 := by
  have h : ∀ y, y < 256 → ones y = cnt y 8 := fun y hy => by
    have h1 : Lib.pop8 (y : Int) = (ones y : Int) := Lib.pop8_eq ⟨y, hy⟩
    rw [pop8_cnt hy] at h1; omega
  rw [ones_split x hx, cnt_split, h _ (by omega), h _ (by omega)]
theorem hfE_form {z : Int} {key : List Nat} {ss : List (Nat × List (List Nat))} (h : hfE z key [] ss = 0) : ∀ s ∈ ss, ∀ d ∈ s.2, formB z d = true := by
  obtain ⟨h1, h2⟩ := hfE_zero h
  unfold hfE at h
  rw [if_neg (by simp [h1]), if_neg (by omega)] at h
  have h3 : ss.all (fun s => s.2.all (formB z)) = true := by
    by_cases h9 : ss.all (fun s => s.2.all (formB z)) = true
    · exact h9
    · rw [if_neg (by simpa using h9)] at h; omega
  intro s hs d hd
  exact List.all_eq_true.1 (List.all_eq_true.1 h3 s hs) d hd
theorem branch_zero {k : Nat} (hk : 1 ≤ k ∧ k ≤ 32) {b : Nat} (hb : b < 65536) {M : List (List Nat)} (hM : ∀ d ∈ M, formB (k : Int) d = true) (h0 : b ≠ 0) (hc : cnt b 16 = M.length) : branchE (k : Int) b M = 0 := by
  have hw : widthB (k : Int) = true := by simp [widthB]; omega
  have h1 : formedE (k : Int) M = 0 := by
    unfold formedE
    rw [if_neg (by simp [hw]), if_pos (List.all_eq_true.2 hM)]
  unfold branchE
  rw [if_pos h1, ones_cnt hb, hc, if_neg (by simp [h0])]
end Go.Proofs.YtjafmnemobcipaaDoor
namespace Go.Proofs.YtjafmnemobcipaaDoor
open Go.RowKit Go.BigFrame
set_option linter.unusedVariables false
set_option linter.unusedSimpArgs false

theorem RdD.digs {w : World} {v : Value} {ds : List (List Nat)} (h : RdD w v ds) : ∀ d ∈ ds, d.length = 32 ∧ ∀ x ∈ d, x < 256 := by
  obtain ⟨_, _, _, _, _, _, _, h4, _⟩ := h; exact h4
theorem uv_pre : ∀ (a b : Nat) (x y : List Nat), uv a ++ x = uv b ++ y → a = b ∧ x = y := by
  intro a
  induction a using Nat.strongRecOn with
  | _ a ih =>
    intro b x y h
    by_cases ha : a < 128
    · by_cases hb : b < 128
      · rw [uv_lt ha, uv_lt hb] at h
        simpa using h
      · rw [uv_lt ha, uv_ge (by omega : 128 ≤ b)] at h
        simp at h
        omega
    · by_cases hb : b < 128
      · rw [uv_ge (by omega : 128 ≤ a), uv_lt hb] at h
        simp at h
        omega
      · rw [uv_ge (by omega : 128 ≤ a), uv_ge (by omega : 128 ≤ b)] at h
        simp only [List.cons_append, List.cons.injEq] at h
        obtain ⟨h1, h2⟩ := h
        obtain ⟨h3, h4⟩ := ih (a / 128) (by omega) (b / 128) x y h2
        exact ⟨by omega, h4⟩
theorem blob_pre (p q x y : List Nat) (h : uv p.length ++ (p ++ x) = uv q.length ++ (q ++ y)) : p = q ∧ x = y := by
  obtain ⟨h1, h2⟩ := uv_pre _ _ _ _ h
  exact List.append_inj h2 h1
theorem pairB_inj : ∀ (ps qs : List (List Nat × List Nat)), ps.length = qs.length → pairB ps = pairB qs → ps = qs := by
  intro ps
  induction ps with
  | nil => intro qs hl _; exact (List.eq_nil_of_length_eq_zero hl.symm).symm
  | cons a ps ih =>
    intro qs hl h
    cases qs with
    | nil => simp at hl
    | cons b qs =>
      have e : ∀ (c : List Nat × List Nat) cs, pairB (c :: cs) = uv c.1.length ++ (c.1 ++ (uv c.2.length ++ (c.2 ++ pairB cs))) := by
        intro c cs; simp [pairB]
      rw [e, e] at h
      obtain ⟨h1, h2⟩ := blob_pre _ _ _ _ h
      obtain ⟨h3, h4⟩ := blob_pre _ _ _ _ h2
      rw [ih qs (by simpa using hl) h4, Prod.ext h1 h3]
theorem buckB_inj (ps qs : List (List Nat × List Nat)) : buckB ps = buckB qs ↔ ps = qs := by
  constructor
  · intro h
    unfold buckB at h
    simp only [List.cons.injEq, true_and] at h
    obtain ⟨h1, h2⟩ := uv_pre _ _ _ _ h
    exact pairB_inj _ _ h1 h2
  · rintro rfl; rfl
theorem wideInj (n : Nat) : ∀ A B, A / 256 ^ n = B / 256 ^ n → wide A n = wide B n → A = B := by
  induction n with
  | zero => intro A B h _; simpa using h
  | succ n ih =>
    intro A B h hw
    simp only [wide, List.cons.injEq] at hw
    refine ih A B ?_ hw.2
    rw [Nat.pow_succ, ← Nat.div_div_eq_div_mul, ← Nat.div_div_eq_div_mul] at h
    have := hw.1
    omega
theorem form_take {z : Int} {l m : List Nat} (hl : formB z l = true) (hm : formB z m = true) (h : l.take z.toNat = m.take z.toNat) : l = m := by
  unfold formB at hl hm
  simp only [Bool.and_eq_true, decide_eq_true_eq] at hl hm
  rw [← hl.2, ← hm.2]
  unfold cutL
  rw [h]
theorem formedE_zero {z : Int} {ds : List (List Nat)} (h : formedE z ds = 0) : widthB z = true ∧ ∀ d ∈ ds, formB z d = true := by
  unfold formedE at h
  cases hw : widthB z with
  | false => rw [hw] at h; simp at h
  | true =>
    rw [hw] at h
    simp only [reduceIte, Bool.true_eq_false] at h
    by_cases ha : ds.all (formB z) = true
    · exact ⟨rfl, fun d hd => List.all_eq_true.1 ha d hd⟩
    · rw [if_neg ha] at h; omega
theorem two_takes {k : Nat} {l m l' m' : List Nat} (h1 : l.length = 32) (h2 : m.length = 32) (h3 : l'.length = 32) (h4 : m'.length = 32) (h : l.take k ++ m.take k = l'.take k ++ m'.take k) : l.take k = l'.take k ∧ m.take k = m'.take k :=
  List.append_inj h (by simp [h1, h3])
theorem kidsB_inj {z : Int} : ∀ (ds es : List (List Nat)), ds.length = es.length → (∀ d ∈ ds, d.length = 32) → (∀ d ∈ es, d.length = 32) → (∀ d ∈ ds, formB z d = true) → (∀ d ∈ es, formB z d = true) → kidsB z.toNat ds = kidsB z.toNat es → ds = es := by
  intro ds
  induction ds with
  | nil => intro es hl _ _ _ _ _; exact (List.eq_nil_of_length_eq_zero hl.symm).symm
  | cons a ds ih =>
    intro es hl l1 l2 f1 f2 h
    cases es with
    | nil => simp at hl
    | cons b es =>
      have e : ∀ (c : List Nat) cs, kidsB z.toNat (c :: cs) = c.take z.toNat ++ kidsB z.toNat cs := by intro c cs; simp [kidsB]
      rw [e, e] at h
      obtain ⟨h1, h2⟩ := List.append_inj h (by simp [l1 a (by simp), l2 b (by simp)])
      rw [ih es (by simpa using hl) (fun d hd => l1 d (by simp [hd])) (fun d hd => l2 d (by simp [hd])) (fun d hd => f1 d (by simp [hd])) (fun d hd => f2 d (by simp [hd])) h2,
        form_take (f1 a (by simp)) (f2 b (by simp)) h1]
theorem branchE_zero {z : Int} {x : Nat} {ds : List (List Nat)} (h : branchE z x ds = 0) : formedE z ds = 0 ∧ x ≠ 0 ∧ ones x = ds.length := by
  unfold branchE at h
  by_cases hf : formedE z ds = 0
  · rw [if_pos hf] at h
    by_cases hx : x = 0 ∨ ones x ≠ ds.length
    · rw [if_pos hx] at h; omega
    · refine ⟨hf, fun h9 => hx (Or.inl h9), ?_⟩
      by_cases h7 : ones x = ds.length
      · exact h7
      · exact absurd (Or.inr h7) hx
  · rw [if_neg hf] at h; exact absurd h hf
end Go.Proofs.YtjafmnemobcipaaDoor
namespace Go.Proofs.YtjafmnemobcipaaDoor
open Go.RowKit Go.BigFrame
set_option linter.unusedVariables false
set_option linter.unusedSimpArgs false

/-- The lowest input of a path. -/
def lowB (z : Int) (ss : List (Nat × List (List Nat))) (ps : List (List Nat × List Nat)) : List Nat :=
  if 0 < ps.length then buckB ps else if ss.length = 0 then [5] else branchB z (ss.getD (ss.length - 1) (0, [])).1 (ss.getD (ss.length - 1) (0, [])).2
/-- The children of the step k, with a digest at the child to which the path goes. -/
def stK (z : Int) (ks : List Nat) (ss : List (Nat × List (List Nat))) (k : Nat) (d : List Nat) : List (List Nat) :=
  (ss.getD k (0, [])).2.take (rankB (ss.getD k (0, [])).1 (atC z ks k)) ++ d :: (ss.getD k (0, [])).2.drop (rankB (ss.getD k (0, [])).1 (atC z ks k))
def stB (z : Int) (ks : List Nat) (ss : List (Nat × List (List Nat))) (k : Nat) (d : List Nat) : List Nat := branchB z (ss.getD k (0, [])).1 (stK z ks ss k d)
/-- The inputs from the root down. -/
def inpD (z : Int) (ks : List Nat) (ss : List (Nat × List (List Nat))) : Nat → List Nat → List (List Nat)
  | 0, low => [low]
  | n + 1, low => inpD z ks ss n (stB z ks ss n (sumD z low)) ++ [low]
def inpA (z : Int) (key : List Nat) (ss : List (Nat × List (List Nat))) (ps : List (List Nat × List Nat)) : List (List Nat) := inpD z (keyS z key) ss (footN ss ps) (lowB z ss ps)
/-- What clash answers. -/
def clF (z : Int) : List (List Nat) → List (List Nat) → Bool
  | a :: A, b :: B => if a = b then clF z A B else decide (sumD z a = sumD z b)
  | _, _ => false
theorem clF_at (z : Int) : ∀ (A B : List (List Nat)) (i : Nat), (∀ j, j < i → A.getD j [] = B.getD j []) → i < A.length → i < B.length → A.getD i [] ≠ B.getD i [] → clF z A B = decide (sumD z (A.getD i []) = sumD z (B.getD i []))
  | [], _, i, _, h, _, _ => by simp at h
  | _ :: _, [], i, _, _, h, _ => by simp at h
  | a :: A, b :: B, 0, _, _, _, hne => by
    rw [clF, if_neg (by simpa using hne)]; simp
  | a :: A, b :: B, i + 1, hs, h1, h2, hne => by
    have h0 := hs 0 (by omega)
    simp at h0
    rw [clF, if_pos h0]
    have ih := clF_at z A B i (fun j hj => by have := hs (j + 1) (by omega); simpa using this) (by simpa using h1) (by simpa using h2) (by simpa using hne)
    rw [ih]; simp
theorem clF_end (z : Int) : ∀ (A B : List (List Nat)), (∀ j, j < A.length → j < B.length → A.getD j [] = B.getD j []) → clF z A B = false
  | [], _, _ => by simp [clF]
  | _ :: _, [], _ => by simp [clF]
  | a :: A, b :: B, hs => by
    have h0 := hs 0 (by simp) (by simp)
    simp at h0
    rw [clF, if_pos h0]
    exact clF_end z A B (fun j h1 h2 => by have := hs (j + 1) (by simpa using h1) (by simpa using h2); simpa using this)

theorem inpD_len (z : Int) (ks : List Nat) (ss : List (Nat × List (List Nat))) : ∀ (n : Nat) (low : List Nat), (inpD z ks ss n low).length = n + 1
  | 0, _ => rfl
  | n + 1, low => by rw [inpD, List.length_append, inpD_len z ks ss n]; simp
theorem inpD_last (z : Int) (ks : List Nat) (ss : List (Nat × List (List Nat))) (n : Nat) (low : List Nat) : (inpD z ks ss n low).getD n [] = low := by
  cases n with
  | zero => rfl
  | succ n => rw [inpD, List.getD_eq_getElem?_getD, List.getElem?_append_right (by rw [inpD_len]; omega), inpD_len]; simp
theorem inpD_at (z : Int) (ks : List Nat) (ss : List (Nat × List (List Nat))) : ∀ (n : Nat) (low : List Nat) (i : Nat), i < n → (inpD z ks ss n low).getD i [] = stB z ks ss i (sumD z ((inpD z ks ss n low).getD (i + 1) []))
  | 0, _, i, h => by omega
  | n + 1, low, i, h => by
    have e : ∀ j, j < n + 1 → (inpD z ks ss (n + 1) low).getD j [] = (inpD z ks ss n (stB z ks ss n (sumD z low))).getD j [] := fun j hj => by
      rw [inpD, List.getD_eq_getElem?_getD, List.getElem?_append_left (by rw [inpD_len]; exact hj), ← List.getD_eq_getElem?_getD]
    rw [e i h]
    rcases Nat.lt_or_ge i n with h9 | h9
    · rw [e (i + 1) (by omega)]; exact inpD_at z ks ss n _ i h9
    · obtain rfl : i = n := by omega
      rw [inpD_last, inpD_last]

/-- A path that RootOf takes. -/
structure Pth (z : Int) (ks : List Nat) (ss : List (Nat × List (List Nat))) (ps : List (List Nat × List Nat)) : Prop where
  w : widthB z = true
  b : ∀ i, i < ss.length → (ss.getD i (0, [])).1 < 65536
  d : ∀ i, i < ss.length → ∀ d ∈ (ss.getD i (0, [])).2, d.length = 32 ∧ formB z d = true
  thr : ∀ i, i < footN ss ps → hasB (ss.getD i (0, [])).1 (atC z ks i) = true ∧ cnt (ss.getD i (0, [])).1 16 = (ss.getD i (0, [])).2.length + 1 ∧ rankB (ss.getD i (0, [])).1 (atC z ks i : Nat) ≤ (ss.getD i (0, [])).2.length
  fin : ps.length = 0 → 0 < ss.length → hasB (ss.getD (ss.length - 1) (0, [])).1 (atC z ks (ss.length - 1 : Nat)) = false ∧ cnt (ss.getD (ss.length - 1) (0, [])).1 16 = (ss.getD (ss.length - 1) (0, [])).2.length
  nz : ∀ i, i < ss.length → (ss.getD i (0, [])).1 ≠ 0
  len : ss.length ≤ 2 * z.toNat
theorem footN_le (ss : List (Nat × List (List Nat))) (ps : List (List Nat × List Nat)) : footN ss ps ≤ ss.length := by unfold footN; split <;> omega
theorem getD_mem {α : Type} (l : List α) (i : Nat) (d : α) (h : i < l.length) : l.getD i d ∈ l := by
  rw [List.getD_eq_getElem?_getD, List.getElem?_eq_getElem h]; exact List.getElem_mem _
theorem Pth.of {z : Int} {key : List Nat} {ss : List (Nat × List (List Nat))} {ps : List (List Nat × List Nat)} (h : rtE z key ss ps = 0) (hb : ∀ s ∈ ss, s.1 < 65536) (hd : ∀ s ∈ ss, ∀ d ∈ s.2, d.length = 32) : Pth z (keyS z key) ss ps := by
  obtain ⟨hf, hp⟩ := rtE_zero h
  have hw := (hfE_zero hf).1
  have hform := hfE_form hf
  obtain ⟨_, _, hl⟩ := prov_lens hp
  have hfit := prov_fit hp
  have hp2 := hp
  unfold provB at hp2
  simp only [Bool.and_eq_true, decide_eq_true_eq] at hp2
  have hfa := fitsB_at ss.length hp2.2.1
  refine ⟨hw, fun i hi => hb _ (getD_mem _ _ _ hi), fun i hi d hd' => ⟨hd _ (getD_mem _ _ _ hi) d hd', hform _ (getD_mem _ _ _ hi) d hd'⟩, fun i hi => ?_, fun h0 h1 => ?_, fun i hi => (fitS_len (hfa i hi)).2.2.2, hl⟩
  · have hi2 := footN_le ss ps
    have h9 := hfa i (by omega)
    have e1 : (decide (i + 1 < ss.length) || decide (0 < ps.length)) = true := by
      unfold footN at hi
      split at hi
      · simp; omega
      · simp; omega
    rw [e1] at h9
    refine ⟨?_, (fitS_len h9).2.2.1, hfit i hi⟩
    unfold fitS at h9
    simp only [Bool.and_eq_true, decide_eq_true_eq, beq_iff_eq] at h9
    exact h9.2.1
  · have h9 := hfa (ss.length - 1) (by omega)
    have e1 : (decide (ss.length - 1 + 1 < ss.length) || decide (0 < ps.length)) = false := by rw [decide_eq_false (by omega), decide_eq_false (by omega)]; rfl
    rw [e1] at h9
    refine ⟨?_, by have h7 := (fitS_len h9).2.2.1; rw [if_neg (by decide)] at h7; exact h7⟩
    unfold fitS at h9
    simp only [Bool.and_eq_true, decide_eq_true_eq, beq_iff_eq] at h9
    exact h9.2.1
theorem branchB_inj {z : Int} {x y : Nat} {ds es : List (List Nat)} (hx : x < 65536) (hy : y < 65536) (hl : cnt x 16 = ds.length) (hm : cnt y 16 = es.length) (l1 : ∀ d ∈ ds, d.length = 32 ∧ formB z d = true) (l2 : ∀ d ∈ es, d.length = 32 ∧ formB z d = true) (h : branchB z x ds = branchB z y es) : x = y ∧ ds = es := by
  unfold branchB at h
  simp only [List.cons.injEq, true_and] at h
  obtain ⟨h1, h2⟩ := List.append_inj h (by simp [wide])
  have hxy := wideInj 2 x y (by rw [Nat.div_eq_of_lt (by omega), Nat.div_eq_of_lt (by omega)]) h1
  subst hxy
  exact ⟨rfl, kidsB_inj ds es (by omega) (fun d hd => (l1 d hd).1) (fun d hd => (l2 d hd).1) (fun d hd => (l1 d hd).2) (fun d hd => (l2 d hd).2) h2⟩
theorem stK_len {z : Int} {ks : List Nat} {ss : List (Nat × List (List Nat))} {k : Nat} {d : List Nat} (hr : rankB (ss.getD k (0, [])).1 (atC z ks k : Nat) ≤ (ss.getD k (0, [])).2.length) : (stK z ks ss k d).length = (ss.getD k (0, [])).2.length + 1 := by
  unfold stK; simp; omega
theorem stK_ok {z : Int} {ks : List Nat} {ss : List (Nat × List (List Nat))} {ps : List (List Nat × List Nat)} (h : Pth z ks ss ps) {k : Nat} {d : List Nat} (hk : k < footN ss ps) (hd : d.length = 32 ∧ formB z d = true) : ∀ x ∈ stK z ks ss k d, x.length = 32 ∧ formB z x = true := by
  have h9 := footN_le ss ps
  intro x hx
  unfold stK at hx
  rcases List.mem_append.1 hx with h8 | h8
  · exact h.d k (by omega) x (List.mem_of_mem_take h8)
  · rcases List.mem_cons.1 h8 with rfl | h8
    · exact hd
    · exact h.d k (by omega) x (List.mem_of_mem_drop h8)
theorem sumD_ok {z : Int} (hw : widthB z = true) (p : List Nat) : (sumD z p).length = 32 ∧ formB z (sumD z p) = true := ⟨sumD_len _ _, sumD_form hw p⟩
/-- Two steps of one input: one bitmap, one child's digest, and the other digests too. -/
theorem stB_inj {z : Int} {ks : List Nat} {ss tt : List (Nat × List (List Nat))} {ps qs : List (List Nat × List Nat)} (h : Pth z ks ss ps) (g : Pth z ks tt qs) {k : Nat} (h1 : k < footN ss ps) (h2 : k < footN tt qs) {d c : List Nat} (hd : d.length = 32 ∧ formB z d = true) (hc : c.length = 32 ∧ formB z c = true) (he : stB z ks ss k d = stB z ks tt k c) :
    (ss.getD k (0, [])).1 = (tt.getD k (0, [])).1 ∧ d = c ∧ (ss.getD k (0, [])).2 = (tt.getD k (0, [])).2 := by
  have l1 := footN_le ss ps
  have l2 := footN_le tt qs
  obtain ⟨a1, a2, a3⟩ := h.thr k h1
  obtain ⟨b1, b2, b3⟩ := g.thr k h2
  unfold stB at he
  obtain ⟨hx, hl⟩ := branchB_inj (h.b k (by omega)) (g.b k (by omega)) (by rw [stK_len a3]; exact a2) (by rw [stK_len b3]; exact b2) (stK_ok h h1 hd) (stK_ok g h2 hc) he
  refine ⟨hx, ?_⟩
  unfold stK at hl
  rw [← hx] at hl
  rw [← hx] at b3
  generalize rankB (ss.getD k (0, [])).1 (atC z ks k : Nat) = r at hl a3 b3
  obtain ⟨t1, t2⟩ := List.append_inj hl (by rw [List.length_take, List.length_take]; omega)
  simp only [List.cons.injEq] at t2
  refine ⟨t2.1, ?_⟩
  rw [← List.take_append_drop r (ss.getD k (0, [])).2, t1, t2.2, List.take_append_drop]
theorem brD_eq {z : Int} {x : Nat} {ds : List (List Nat)} (hw : widthB z = true) (hx : x < 65536) (h0 : x ≠ 0) (hl : cnt x 16 = ds.length) (hd : ∀ d ∈ ds, formB z d = true) : branchE z x ds = 0 ∧ brD z x ds = sumD z (branchB z x ds) := by
  have hz := width_le hw
  obtain ⟨k, rfl⟩ : ∃ k : Nat, z = k := ⟨z.toNat, by omega⟩
  have h9 := branch_zero (k := k) (by omega) hx hd h0 hl
  exact ⟨h9, by unfold brD sunD; rw [if_pos h9]⟩
theorem foot_low {z : Int} {ks : List Nat} {ss : List (Nat × List (List Nat))} {ps : List (List Nat × List Nat)} (h : Pth z ks ss ps) : footD z ss ps = sumD z (lowB z ss ps) := by
  unfold footD lowB
  by_cases h1 : 0 < ps.length
  · rw [if_pos h1, if_pos h1]
  · rw [if_neg h1, if_neg h1]
    by_cases h2 : ss.length = 0
    · rw [if_pos h2, if_pos h2]
    · rw [if_neg h2, if_neg h2]
      exact (brD_eq h.w (h.b _ (by omega)) (h.nz _ (by omega)) (h.fin (by omega) (by omega)).2 (fun d hd => (h.d _ (by omega) d hd).2)).2
theorem st_sum {z : Int} {ks : List Nat} {ss : List (Nat × List (List Nat))} {ps : List (List Nat × List Nat)} (h : Pth z ks ss ps) {k : Nat} {d : List Nat} (hk : k < footN ss ps) (hd : d.length = 32 ∧ formB z d = true) :
    branchE z (ss.getD k (0, [])).1 (stK z ks ss k d) = 0 ∧ brD z (ss.getD k (0, [])).1 (stK z ks ss k d) = sumD z (stB z ks ss k d) := by
  have l1 := footN_le ss ps
  obtain ⟨a1, a2, a3⟩ := h.thr k hk
  exact brD_eq h.w (h.b k (by omega)) (h.nz k (by omega)) (by rw [stK_len a3]; exact a2) (fun x hx => (stK_ok h hk hd x hx).2)
theorem cli_inp {z : Int} {ks : List Nat} {ss : List (Nat × List (List Nat))} {ps : List (List Nat × List Nat)} (h : Pth z ks ss ps) : ∀ (n : Nat), n ≤ footN ss ps → ∀ low, cliD z ks ss n (sumD z low) = sumD z ((inpD z ks ss n low).getD 0 [])
  | 0, _, low => rfl
  | n + 1, hn, low => by
    rw [cliD]
    have h9 := (st_sum h (k := n) (d := sumD z low) (by omega) (sumD_ok h.w low)).2
    unfold stK at h9
    rw [h9, cli_inp h n (by omega), inpD, List.getD_eq_getElem?_getD, List.getD_eq_getElem?_getD, List.getElem?_append_left (by rw [inpD_len]; omega)]
theorem roo_inp {z : Int} {key : List Nat} {ss : List (Nat × List (List Nat))} {ps : List (List Nat × List Nat)} (h : Pth z (keyS z key) ss ps) : rooD z key ss ps = sumD z ((inpA z key ss ps).getD 0 []) := by
  unfold rooD inpA
  rw [foot_low h]
  exact cli_inp h _ (Nat.le_refl _) _
/-- As far as the inputs are alike, the next ones have one digest. -/
theorem inp_down {z : Int} {ks : List Nat} {ss tt : List (Nat × List (List Nat))} {ps qs : List (List Nat × List Nat)} (h : Pth z ks ss ps) (g : Pth z ks tt qs) {n m : Nat} (hn : n = footN ss ps) (hm : m = footN tt qs) (la lb : List Nat) (h0 : sumD z ((inpD z ks ss n la).getD 0 []) = sumD z ((inpD z ks tt m lb).getD 0 [])) :
    ∀ i, i ≤ n → i ≤ m → (∀ j, j < i → (inpD z ks ss n la).getD j [] = (inpD z ks tt m lb).getD j []) → sumD z ((inpD z ks ss n la).getD i []) = sumD z ((inpD z ks tt m lb).getD i [])
  | 0, _, _, _ => h0
  | i + 1, h1, h2, hs => by
    have h9 := hs i (by omega)
    rw [inpD_at _ _ _ n la i (by omega), inpD_at _ _ _ m lb i (by omega)] at h9
    exact (stB_inj h g (by omega) (by omega) (sumD_ok h.w _) (sumD_ok h.w _) h9).2.1
theorem inp_split {z : Int} {ks : List Nat} {ss tt : List (Nat × List (List Nat))} {ps qs : List (List Nat × List Nat)} (h : Pth z ks ss ps) (g : Pth z ks tt qs) {n m : Nat} (hn : n = footN ss ps) (hm : m = footN tt qs) (la lb : List Nat) (h0 : sumD z ((inpD z ks ss n la).getD 0 []) = sumD z ((inpD z ks tt m lb).getD 0 [])) :
    clF z (inpD z ks ss n la) (inpD z ks tt m lb) = true ∨ ∀ j, j ≤ n → j ≤ m → (inpD z ks ss n la).getD j [] = (inpD z ks tt m lb).getD j [] := by
  by_cases hall : ∀ j, j ≤ n → j ≤ m → (inpD z ks ss n la).getD j [] = (inpD z ks tt m lb).getD j []
  · exact Or.inr hall
  · left
    have key : ∀ i, (∀ j, j < i → j ≤ n → j ≤ m → (inpD z ks ss n la).getD j [] = (inpD z ks tt m lb).getD j []) ∨ clF z (inpD z ks ss n la) (inpD z ks tt m lb) = true := by
      intro i
      induction i with
      | zero => exact Or.inl (fun j hj => by omega)
      | succ i ih =>
        rcases ih with ih | ih
        · by_cases hi : i ≤ n ∧ i ≤ m
          · by_cases he : (inpD z ks ss n la).getD i [] = (inpD z ks tt m lb).getD i []
            · left
              intro j hj h1 h2
              rcases Nat.lt_or_ge j i with h9 | h9
              · exact ih j h9 h1 h2
              · obtain rfl : j = i := by omega
                exact he
            · right
              have hpre : ∀ j, j < i → (inpD z ks ss n la).getD j [] = (inpD z ks tt m lb).getD j [] := fun j hj => ih j hj (by omega) (by omega)
              rw [clF_at z _ _ i hpre (by rw [inpD_len]; omega) (by rw [inpD_len]; omega) he]
              exact decide_eq_true (inp_down h g hn hm la lb h0 i hi.1 hi.2 hpre)
          · left
            intro j hj h1 h2
            exact ih j (by omega) h1 h2
        · exact Or.inr ih
    rcases key (n + 1) with h9 | h9
    · exact absurd (fun j h1 h2 => h9 j (by omega) h1 h2) hall
    · exact h9
theorem buckB_head (ps : List (List Nat × List Nat)) : ∃ t, buckB ps = 3 :: t := ⟨_, rfl⟩
theorem low_not_through {z : Int} {ks : List Nat} {ss tt : List (Nat × List (List Nat))} {ps qs : List (List Nat × List Nat)} (h : Pth z ks ss ps) (g : Pth z ks tt qs) (hlt : footN ss ps < footN tt qs) (d : List Nat) (hd : d.length = 32 ∧ formB z d = true) : lowB z ss ps ≠ stB z ks tt (footN ss ps) d := by
  intro he
  have l2 := footN_le tt qs
  unfold lowB at he
  by_cases h1 : 0 < ps.length
  · rw [if_pos h1] at he
    unfold buckB stB branchB at he
    simp at he
  · rw [if_neg h1] at he
    by_cases h2 : ss.length = 0
    · rw [if_pos h2] at he
      unfold stB branchB at he
      simp at he
    · rw [if_neg h2] at he
      have hn : footN ss ps = ss.length - 1 := by unfold footN; rw [if_neg h1]
      rw [hn] at he hlt
      obtain ⟨a1, a2⟩ := h.fin (by omega) (by omega)
      obtain ⟨b1, b2, b3⟩ := g.thr _ hlt
      unfold stB at he
      have h9 := (branchB_inj (h.b _ (by omega)) (g.b _ (by omega)) a2 (by rw [stK_len b3]; exact b2) (h.d _ (by omega)) (stK_ok g hlt hd) he).1
      rw [h9, b1] at a1
      simp at a1
theorem low_same {z : Int} {ks key : List Nat} {ss tt : List (Nat × List (List Nat))} {ps qs : List (List Nat × List Nat)} (he : lowB z ss ps = lowB z tt qs) : valH key ps = valH key qs := by
  unfold lowB at he
  have nil : ∀ l : List (List Nat × List Nat), ¬ 0 < l.length → l = [] := fun l h => List.eq_nil_of_length_eq_zero (by omega)
  by_cases h1 : 0 < ps.length
  · rw [if_pos h1] at he
    by_cases h2 : 0 < qs.length
    · rw [if_pos h2] at he
      rw [(buckB_inj ps qs).1 he]
    · rw [if_neg h2] at he
      exfalso
      split at he
      · unfold buckB at he; simp at he
      · unfold buckB branchB at he; simp at he
  · rw [if_neg h1] at he
    by_cases h2 : 0 < qs.length
    · rw [if_pos h2] at he
      exfalso
      split at he
      · unfold buckB at he; simp at he
      · unfold buckB branchB at he; simp at he
    · rw [nil _ h1, nil _ h2]
theorem clF_symm (z : Int) : ∀ (A B : List (List Nat)), clF z A B = clF z B A
  | [], [] => rfl
  | [], _ :: _ => rfl
  | _ :: _, [] => rfl
  | a :: A, b :: B => by
    rw [clF, clF, clF_symm z A B]
    by_cases h : a = b
    · rw [if_pos h, if_pos h.symm]
    · rw [if_neg h, if_neg (fun h9 => h h9.symm)]
      by_cases h9 : sumD z a = sumD z b
      · rw [decide_eq_true h9, decide_eq_true h9.symm]
      · rw [decide_eq_false h9, decide_eq_false (fun h8 => h9 h8.symm)]
/-- P16.3: two paths of one root say one thing of the key, or the first unlike inputs clash. -/
theorem binds {z : Int} {key : List Nat} {ss tt : List (Nat × List (List Nat))} {ps qs : List (List Nat × List Nat)} (h : Pth z (keyS z key) ss ps) (g : Pth z (keyS z key) tt qs) (he : rooD z key ss ps = rooD z key tt qs) :
    valH key ps = valH key qs ∨ clF z (inpA z key ss ps) (inpA z key tt qs) = true := by
  rw [roo_inp h, roo_inp g] at he
  unfold inpA at he ⊢
  rcases inp_split h g rfl rfl _ _ he with h9 | h9
  · exact Or.inr h9
  · left
    rcases Nat.lt_trichotomy (footN ss ps) (footN tt qs) with hl | hl | hl
    · exfalso
      have h8 := h9 (footN ss ps) (Nat.le_refl _) (by omega)
      rw [inpD_last, inpD_at _ _ _ _ _ _ hl] at h8
      exact low_not_through h g hl _ (sumD_ok h.w _) h8
    · have h8 := h9 (footN ss ps) (Nat.le_refl _) (by omega)
      rw [inpD_last, hl, inpD_last] at h8
      exact low_same (ks := keyS z key) h8
    · exfalso
      have h8 := h9 (footN tt qs) (by omega) (Nat.le_refl _)
      rw [inpD_last, inpD_at _ _ _ _ _ _ hl] at h8
      exact low_not_through g h hl _ (sumD_ok h.w _) h8.symm
end Go.Proofs.YtjafmnemobcipaaDoor
namespace Go.Proofs.YtjafmnemobcipaaDoor
open Go.RowKit Go.BigFrame
set_option linter.unusedVariables false
set_option linter.unusedSimpArgs false
section
variable {α : Type}
/-- The cells of elements of two cells. -/
def cells2 (ts : List (α × Value × Value)) : List Value := ts.flatMap fun t => [t.2.1, t.2.2]
theorem cells2_len (ts : List (α × Value × Value)) : (cells2 ts).length = ts.length * 2 := by
  induction ts with
  | nil => rfl
  | cons t r ih => simp only [cells2, List.flatMap_cons, List.length_append, List.length_cons, List.length_nil] at ih ⊢; omega
theorem cells2_app (ts : List (α × Value × Value)) (t : α × Value × Value) : cells2 (ts ++ [t]) = cells2 ts ++ [t.2.1, t.2.2] := by simp [cells2]
theorem cells2_get : ∀ (ts : List (α × Value × Value)) (i : Nat) (h : i < ts.length), (cells2 ts)[2 * i]? = some ts[i].2.1 ∧ (cells2 ts)[2 * i + 1]? = some ts[i].2.2
  | t :: r, 0, _ => by simp [cells2]
  | t :: r, i + 1, h => by
    have h' : i < r.length := by simpa using h
    have := cells2_get r i h'
    have e : cells2 (t :: r) = t.2.1 :: t.2.2 :: cells2 r := by simp [cells2]
    rw [e, show 2 * (i + 1) = 2 * i + 1 + 1 by omega]
    simpa using this
/-- How an element reads, and the blocks that its lists lie in. -/
structure Kind2 (α : Type) where
  T : TypeId
  R : World → α → Value → Value → Prop
  B : α → Value → Value → List Nat
  keep : ∀ {L : List Nat} {w w' : World} {a : α} {x y : Value}, R w a x y → Kept L w w' → (∀ b ∈ B a x y, b ∉ L) → R w' a x y
/-- Elements of two cells in memory of their own, their lists in memory of their own. -/
structure Own2 (K : Kind2 α) (base : Nat) (w : World) (v : Value) (ts : List (α × Value × Value)) : Prop where
  own : w.ownsRow base K.T 2 v ts.length (cells2 ts)
  ok : ∀ t ∈ ts, K.R w t.1 t.2.1 t.2.2
  apart : ∀ t ∈ ts, ∀ b ∈ K.B t.1 t.2.1 t.2.2, v.ownBlock ≠ some b ∧ base ≤ b ∧ b < w.heap.size
theorem Own2.start (K : Kind2 α) (base : Nat) (w : World) : Own2 K base w (.slice none 0 0) [] := ⟨World.ownsRow_nil _ _ _ _, by simp, by simp⟩
theorem Own2.pass {K : Kind2 α} {base : Nat} {w w' : World} {v : Value} {ts : List (α × Value × Value)} {M : List Nat} (h : Own2 K base w v ts) (k : Kept M w w') (hM : ∀ x ∈ M, x < base) : Own2 K base w' v ts :=
  ⟨k.owns h.own (fun g hg hm => by have := (h.own.lt g hg).1; have := hM g hm; omega), fun t ht => K.keep (h.ok t ht) k (fun b hb hm => by have := (h.apart t ht b hb).2.1; have := hM b hm; omega), fun t ht b hb => by have h9 := h.apart t ht b hb; exact ⟨h9.1, h9.2.1, Nat.lt_of_lt_of_le h9.2.2 k.size⟩⟩
theorem Own2.push {K : Kind2 α} {base : Nat} {w W : World} {v : Value} {ts : List (α × Value × Value)} (h : Own2 K base w v ts) {a : α} {x y : Value} (hr : K.R w a x y) (hb : ∀ b ∈ K.B a x y, v.ownBlock ≠ some b ∧ base ≤ b ∧ b < w.heap.size) {g cap : Nat}
    (o : W.ownsRow base K.T 2 (.slice (some ⟨g, 0, none⟩) (ts.length + 1) cap) (ts.length + 1) (cells2 ts ++ [x, y])) (gr : w.grownBy W v.ownBlock) (hg : v.ownBlock = some g ∨ g = w.heap.size) : Own2 K base W (.slice (some ⟨g, 0, none⟩) (ts.length + 1) cap) (ts ++ [(a, x, y)]) := by
  have kW : Kept v.ownBlock.toList w W := (Kept.refl _ w).grown gr (by intro k hk; left; simp [hk])
  have key : ∀ t ∈ ts ++ [(a, x, y)], K.R w t.1 t.2.1 t.2.2 ∧ ∀ b ∈ K.B t.1 t.2.1 t.2.2, v.ownBlock ≠ some b ∧ base ≤ b ∧ b < w.heap.size := by
    intro t ht
    rcases List.mem_append.1 ht with ht | ht
    · exact ⟨h.ok t ht, h.apart t ht⟩
    · rw [List.mem_singleton] at ht; subst ht; exact ⟨hr, hb⟩
  refine ⟨?_, fun t ht => K.keep (key t ht).1 kW (fun b hb hm => ((key t ht).2 b hb).1 (by simpa using hm)), fun t ht b hb => ?_⟩
  · rw [cells2_app, List.length_append]; exact o
  · have h9 := (key t ht).2 b hb
    refine ⟨fun e => ?_, h9.2.1, Nat.lt_of_lt_of_le h9.2.2 kW.size⟩
    simp only [Value.ownBlock, Option.some.injEq] at e
    subst e
    rcases hg with hg | hg
    · exact h9.1 hg
    · omega
end

/-- Blocks of digests: of none none. -/
def dblk (v : Value) (ds : List (List Nat)) : List Nat := if ds = [] then [] else blk v
theorem RdD.keptD {L : List Nat} {w w' : World} {v : Value} {ds : List (List Nat)} (h : RdD w v ds) (k : Kept L w w') (hn : ∀ x ∈ dblk v ds, x ∉ L) : RdD w' v ds := by
  obtain ⟨ao, len, cap, rfl, h1, h2, h3, h4, h5⟩ := h
  refine ⟨ao, len, cap, rfl, h1, h2, h3, h4, fun hp => ?_⟩
  obtain ⟨b, off, rfl, hc⟩ := h5 hp
  have hne : ds ≠ [] := by rintro rfl; simp at h1; omega
  refine ⟨b, off, rfl, fun i hi j u hu => k.cell (hc i hi j u hu) (hn b ?_)⟩
  unfold dblk
  rw [if_neg hne]
  simp [blk]
def eblk (v : Value) (bs : List Nat) : List Nat := if bs = [] then [] else blk v
theorem Rd.keptE {L : List Nat} {w w' : World} {v : Value} {bs : List Nat} (h : Rd w v bs) (k : Kept L w w') (hn : ∀ x ∈ eblk v bs, x ∉ L) : Rd w' v bs := by
  by_cases he : bs = []
  · subst he
    obtain ⟨ao, len, cap, rfl, h1, h2, h3, h4, h5, h6⟩ := h
    exact ⟨ao, len, cap, rfl, h1, h2, h3, h4, h5, fun hp => by simp at h1; omega⟩
  · exact h.kept k (by unfold eblk at hn; rw [if_neg he] at hn; exact hn)
def kStep : Kind2 (Nat × List (List Nat)) := ⟨43, fun w s x y => s.1 < 65536 ∧ x = .int .u16 (s.1 : Int) ∧ RdD w y s.2, fun s x y => dblk y s.2, fun h k hn => ⟨h.1, h.2.1, h.2.2.keptD k hn⟩⟩
def kPair : Kind2 (List Nat × List Nat) := ⟨64, fun w p x y => Rd w x p.1 ∧ Rd w y p.2, fun p x y => eblk x p.1 ++ eblk y p.2, fun h k hn => ⟨h.1.keptE k (fun b hb => hn b (List.mem_append_left _ hb)), h.2.keptE k (fun b hb => hn b (List.mem_append_right _ hb))⟩⟩
theorem Own2.rdS {base : Nat} {w : World} {v : Value} {ts : List ((Nat × List (List Nat)) × Value × Value)} (h : Own2 kStep base w v ts) : RdS w v (ts.map (·.1)) := by
  rcases h.own.2 with ⟨rfl, h0⟩ | ⟨g, cap, cur, rfl, _, hg, hc, hm', hs, ht⟩
  · have : ts = [] := List.eq_nil_of_length_eq_zero h0
    subst this
    exact RdS.nil w
  · refine ⟨some ⟨g, 0, none⟩, ts.length, cap, ts.map (·.2.2), rfl, by simp, hc, by unfold maxLen at hm'; omega, fun i hi => ?_, fun _ => ⟨g, 0, rfl, fun i hi => ?_⟩⟩
    · have h9 := h.ok ts[i] (List.getElem_mem hi)
      have := And.intro h9.1 h9.2.2
      simpa [List.getD_eq_getElem?_getD, hi] using this
    · have h9 := h.ok ts[i] (List.getElem_mem hi)
      have hx := cells2_get ts i hi
      have c0 := h.own.cells (g := g) rfl (2 * i) _ hx.1
      have c1 := h.own.cells (g := g) rfl (2 * i + 1) _ hx.2
      rw [Addr.add_mid] at c0 c1
      rw [h9.2.1] at c0
      rw [show 0 + i * 2 = 0 + 2 * i by omega, show 0 + 2 * i + 1 = 0 + (2 * i + 1) by omega]
      have := And.intro c0 c1
      simpa [List.getD_eq_getElem?_getD, hi] using this
theorem Own2.rdK {base : Nat} {w : World} {v : Value} {ts : List ((List Nat × List Nat) × Value × Value)} (h : Own2 kPair base w v ts) : RdK w v (ts.map (·.1)) := by
  rcases h.own.2 with ⟨rfl, h0⟩ | ⟨g, cap, cur, rfl, _, hg, hc, hm', hs, ht⟩
  · have : ts = [] := List.eq_nil_of_length_eq_zero h0
    subst this
    exact ⟨none, 0, 0, [], [], rfl, rfl, Nat.le_refl _, by omega, fun i h => by simp at h, fun h => by simp at h⟩
  · refine ⟨some ⟨g, 0, none⟩, ts.length, cap, ts.map (·.2.1), ts.map (·.2.2), rfl, by simp, hc, by unfold maxLen at hm'; omega, fun i hi => ?_, fun _ => ⟨g, 0, rfl, fun i hi => ?_⟩⟩
    · have h9 := h.ok ts[i] (List.getElem_mem hi)
      have := And.intro h9.1 h9.2
      simpa [List.getD_eq_getElem?_getD, hi] using this
    · have hx := cells2_get ts i hi
      have c0 := h.own.cells (g := g) rfl (2 * i) _ hx.1
      have c1 := h.own.cells (g := g) rfl (2 * i + 1) _ hx.2
      rw [Addr.add_mid] at c0 c1
      rw [show 0 + i * 2 = 0 + 2 * i by omega, show 0 + 2 * i + 1 = 0 + (2 * i + 1) by omega]
      have := And.intro c0 c1
      simpa [List.getD_eq_getElem?_getD, hi] using this

theorem Tryd.infoS2 : (Tryd.prog.info? 43).map (fun i => (i.zero, i.size, i.bytes)) = some (some (.agg #[.int .u16 0, .slice none 0 0]), 2, 32) := by kernel_rfl
theorem Tryd.infoP2 : (Tryd.prog.info? 64).map (fun i => (i.zero, i.size, i.bytes)) = some (some (.agg #[.slice none 0 0, .slice none 0 0]), 2, 48) := by kernel_rfl
theorem pushS {α : Type} (w : World) (base : Nat) (v : Value) (ts : List (α × Value × Value)) (x y : Value) (H : Nat) (h : w.ownsRow base 43 2 v ts.length (cells2 ts)) (hnew : w.heap[H]? = some (.cells #[x, y] 43 (0, 0))) (hx : x.oneCell' = true) (hy : y.oneCell' = true) (hl : ts.length + 1 ≤ 1000000000) (hb : base ≤ w.heap.size) :
    ∃ g cap w1, (Builtin.append_ #[23, 23] 23 #[v, .slice (some ⟨H, 0, none⟩) 1 1]).run Tryd.prog w = .ok (.slice (some ⟨g, 0, none⟩) (ts.length + 1) cap) w1 ∧
      w1.ownsRow base 43 2 (.slice (some ⟨g, 0, none⟩) (ts.length + 1) cap) (ts.length + 1) (cells2 ts ++ [x, y]) ∧ w.grownBy w1 v.ownBlock ∧ (v.ownBlock = some g ∨ g = w.heap.size) := by
  obtain ⟨i0, hi, hz0, hz1, hz2⟩ := info_parts Tryd.infoS2
  obtain ⟨g, cap, w1, hr, hown, hgrow, hat, hlt⟩ := run_append_lies (P := Tryd.prog) w 23 23 base 43 i0 (.agg #[.int .u16 0, .slice none 0 0]) 2 32 Tryd.underlying23 hi hz0 hz1 hz2 rfl (by decide)
    v ts.length (cells2 ts) h ⟨H, 0, none⟩ 1 1 [x, y] rfl (World.news_of_block hnew) (by intro u hu; simp at hu; rcases hu with rfl | rfl; exact hx; exact hy) (by decide) (by unfold maxLen; omega) (by omega) hb _ rfl
  exact ⟨g, cap, w1, hr, hown, hgrow, hat⟩
theorem pushP {α : Type} (w : World) (base : Nat) (v : Value) (ts : List (α × Value × Value)) (x y : Value) (H : Nat) (h : w.ownsRow base 64 2 v ts.length (cells2 ts)) (hnew : w.heap[H]? = some (.cells #[x, y] 64 (0, 0))) (hx : x.oneCell' = true) (hy : y.oneCell' = true) (hl : ts.length + 1 ≤ 1000000000) (hb : base ≤ w.heap.size) :
    ∃ g cap w1, (Builtin.append_ #[24, 24] 24 #[v, .slice (some ⟨H, 0, none⟩) 1 1]).run Tryd.prog w = .ok (.slice (some ⟨g, 0, none⟩) (ts.length + 1) cap) w1 ∧
      w1.ownsRow base 64 2 (.slice (some ⟨g, 0, none⟩) (ts.length + 1) cap) (ts.length + 1) (cells2 ts ++ [x, y]) ∧ w.grownBy w1 v.ownBlock ∧ (v.ownBlock = some g ∨ g = w.heap.size) := by
  obtain ⟨i0, hi, hz0, hz1, hz2⟩ := info_parts Tryd.infoP2
  obtain ⟨g, cap, w1, hr, hown, hgrow, hat, hlt⟩ := run_append_lies (P := Tryd.prog) w 24 24 base 64 i0 (.agg #[.slice none 0 0, .slice none 0 0]) 2 48 Tryd.underlying24 hi hz0 hz1 hz2 rfl (by decide)
    v ts.length (cells2 ts) h ⟨H, 0, none⟩ 1 1 [x, y] rfl (World.news_of_block hnew) (by intro u hu; simp at hu; rcases hu with rfl | rfl; exact hx; exact hy) (by decide) (by unfold maxLen; omega) (by omega) hb _ rfl
  exact ⟨g, cap, w1, hr, hown, hgrow, hat⟩
theorem wp_append {P : Program} {o : Oper} {a : Act} {w : World} {K : Act → World → Prop} {Q : Exit → Act → World → Prop} {s x : Operand} {t : TypeId} (ho : o.op = .call { callee := .builtin .append, args := #[s, x], argTypes := #[t, t] }) (hty : o.type = t) {v u r : Value} {w1 : World} (hs : a.eval s = v) (hx : a.eval x = u)
    (hrun : (Builtin.append_ #[t, t] t #[v, u]).run P w = .ok r w1) (hK : K (a.put o.dst r) w1) : o.wp P a w K Q := by
  unfold Oper.wp execOp
  simp only [ho, hty, resolve, invoke, builtin, Sem.run_bind, Sem.run_pure, Result.andThen_ok, List.map_toArray, List.map_cons, List.map_nil, hs, hx, hrun]
  exact hK
end Go.Proofs.YtjafmnemobcipaaDoor
namespace Go.Proofs.YtjafmnemobcipaaDoor
open Go.RowKit Go.BigFrame
set_option linter.unusedVariables false
set_option linter.unusedSimpArgs false

/-- Lists of bytes in a row of its own; the lists lie elsewhere. -/
structure OwnV (base : Nat) (w : World) (v : Value) (ts : List (List Nat × Value)) : Prop where
  own : w.ownsRow base 22 1 v ts.length (ts.map (·.2))
  ok : ∀ t ∈ ts, Rd w t.2 t.1
  apart : ∀ t ∈ ts, ∀ b ∈ eblk t.2 t.1, v.ownBlock ≠ some b ∧ b < w.heap.size
theorem OwnV.start (base : Nat) (w : World) : OwnV base w (.slice none 0 0) [] := ⟨World.ownsRow_nil _ _ _ _, by simp, by simp⟩
theorem OwnV.pass {base : Nat} {w w' : World} {v : Value} {ts : List (List Nat × Value)} (h : OwnV base w v ts) (k : Kept [] w w') : OwnV base w' v ts :=
  ⟨k.owns h.own (by simp), fun t ht => (h.ok t ht).old k (by simp), fun t ht b hb => ⟨(h.apart t ht b hb).1, Nat.lt_of_lt_of_le (h.apart t ht b hb).2 k.size⟩⟩
theorem OwnV.push {base : Nat} {w W : World} {v : Value} {ts : List (List Nat × Value)} (h : OwnV base w v ts) {bs : List Nat} {x : Value} (hr : Rd w x bs) (hb : ∀ b ∈ eblk x bs, v.ownBlock ≠ some b ∧ b < w.heap.size) {g cap : Nat} {xs : List Value} (hxs : ts.map (·.2) = xs)
    (o : W.ownsRow base 22 1 (.slice (some ⟨g, 0, none⟩) (xs.length + 1) cap) (xs.length + 1) (xs ++ [x])) (gr : w.grownBy W v.ownBlock) (hg : v.ownBlock = some g ∨ g = w.heap.size) : OwnV base W (.slice (some ⟨g, 0, none⟩) (xs.length + 1) cap) (ts ++ [(bs, x)]) := by
  subst hxs
  have kW : Kept v.ownBlock.toList w W := (Kept.refl _ w).grown gr (by intro k hk; left; simp [hk])
  have key : ∀ t ∈ ts ++ [(bs, x)], Rd w t.2 t.1 ∧ ∀ b ∈ eblk t.2 t.1, v.ownBlock ≠ some b ∧ b < w.heap.size := by
    intro t ht
    rcases List.mem_append.1 ht with ht | ht
    · exact ⟨h.ok t ht, h.apart t ht⟩
    · rw [List.mem_singleton] at ht; subst ht; exact ⟨hr, hb⟩
  refine ⟨?_, fun t ht => (key t ht).1.keptE kW (fun b hb hm => ((key t ht).2 b hb).1 (by simpa using hm)), fun t ht b hb => ?_⟩
  · rw [List.length_map] at o ⊢
    rw [List.length_append, List.map_append]; exact o
  · have h9 := (key t ht).2 b hb
    refine ⟨fun e => ?_, Nat.lt_of_lt_of_le h9.2 kW.size⟩
    simp only [Value.ownBlock, Option.some.injEq] at e
    subst e
    rcases hg with hg | hg
    · exact h9.1 hg
    · omega
theorem OwnV.xs {base : Nat} {w : World} {v : Value} {ts : List (List Nat × Value)} (h : OwnV base w v ts) {xs : List Value} (hxs : ts.map (·.2) = xs) : w.ownsRow base 22 1 v xs.length xs := by
  subst hxs; rw [List.length_map]; exact h.own
theorem OwnV.rdl {base : Nat} {w : World} {v : Value} {ts : List (List Nat × Value)} (h : OwnV base w v ts) : RdL w v (ts.map (·.1)) := by
  have hrd : ∀ j, j < ts.length → Rd w ((ts.map (·.2)).getD j undef) ((ts.map (·.1)).getD j []) := fun j hj => by
    have h9 := h.ok ts[j] (List.getElem_mem hj)
    simpa [List.getD_eq_getElem?_getD, hj] using h9
  rcases h.own.2 with ⟨rfl, h0⟩ | ⟨g, cap, cur, rfl, _, hg, hc, hm', hs, ht⟩
  · have : ts = [] := List.eq_nil_of_length_eq_zero (by omega)
    subst this
    exact ⟨none, 0, 0, [], rfl, rfl, rfl, Nat.le_refl _, by omega, fun h => by omega, fun i h => by omega⟩
  · refine ⟨_, _, _, ts.map (·.2), rfl, by simp, by simp, hc, by unfold maxLen at hm'; omega, fun _ => ⟨g, 0, rfl, fun j hj => ?_⟩, hrd⟩
    have := h.own.cells (g := g) rfl j ((ts.map (·.2)).getD j undef) (by rw [List.getD_eq_getElem?_getD, List.getElem?_eq_getElem (by simpa using hj)]; rfl)
    rw [Addr.add_mid] at this; exact this
theorem newB_eblk {w w' : World} {v : Value} {bs : List Nat} (h : NewB w w' v bs) : ∀ b ∈ eblk v bs, w.heap.size ≤ b ∧ b < w'.heap.size := by
  intro b hb
  unfold eblk at hb
  split at hb
  · simp at hb
  · rcases h.2 with ⟨h0, _⟩ | ⟨g, rfl, hg, hc⟩
    · contradiction
    · simp only [blk, List.mem_singleton] at hb
      subst hb
      exact ⟨hg, lt_of_block hc⟩
end Go.Proofs.YtjafmnemobcipaaDoor
namespace Go.Proofs.YtjafmnemobcipaaDoor
open Go.RowKit Go.BigFrame
set_option linter.unusedVariables false
set_option linter.unusedSimpArgs false

set_option maxRecDepth 100000 in
set_option maxHeartbeats 2000000 in
theorem child_any (z : Int) (kv : Value) (key : List Nat) (i : Nat) (w : World) (hz : -9223372036854775808 ≤ z ∧ z ≤ 9223372036854775807) (hi : i ≤ 1000000000000) (hk : Rd w kv key) (hkl : key.length ≤ 64) (hT : Tabs w) :
    Calls Tryd.prog 23 #[.int .i64 z, kv, .int .i64 i] w fun e w' => e = .returned (.int .i64 (atC z (keyS z key) i : Nat)) ∧ Kept [] w w' := by
  obtain ⟨ka, kn, kc, rfl, hkn, _⟩ := id hk
  have HT := hide hT
  have HKY := hide hk
  clear hk hT hkn
  go_enter Tryd.func23, Tryd.ntmps23
  go_wp2_with fail
  refine Calls.mono (key_all z _ key w hz (unhide HKY) (by omega) (unhide HT)) ?_
  rintro e w2 ⟨rfl, k2⟩
  rw [show sumD z (2 :: key) = keyS z key from rfl]
  have HDG := hide (keyS_dg z key)
  have hd := (unhide HDG).1
  have HSZ := hide (Tryd.szD hd)
  have kN := (k2.alloc (.cells (zb 32) 29)).setRow (g := w2.heap.size) (Or.inr k2.size) (brow (keyS z key))
  have HN2 := hide (setRow_heap (w2.alloc (.cells (zb 32) 29)) w2.heap.size (zb 32) (brow (keyS z key)) 29 (0, 0) (heap_alloc_new _ _))
  have HKN := hide kN
  clear kN k2
  obtain ⟨D, hDe⟩ : ∃ D, keyS z key = D := ⟨_, rfl⟩
  have HDE := hide hDe
  rw [hDe] at HDG hd HSZ HN2 HKN ⊢
  clear hDe
  go_wp2_with (first
    | (rw [zb32]; refine wpList_store_row rfl 29 _ _ rfl w2.heap.size (brow D) rfl rfl _ (zb 32) (heap_alloc_new _ _) (unhide HSZ) (by rw [zb_size, brow_size, hd]) (brow_one _) ?_)
    | (refine wpList_load_row rfl 29 _ rfl w2.heap.size rfl _ (brow D) (0, 0) _ (unhide HN2) Tryd.underlying29 rfl (unhide HSZ) ?_))
  refine Calls.mono (at_any z D i _ hz (by omega) (unhide HDG)) ?_
  rintro e w3 ⟨rfl, k3⟩
  go_wp2_with fail
  go_ret
  rw [unhide HDE]
  exact ⟨rfl, (unhide HKN).trans k3 (by simp)⟩
end Go.Proofs.YtjafmnemobcipaaDoor
namespace Go.Proofs.YtjafmnemobcipaaDoor
open Go.RowKit Go.BigFrame
set_option linter.unusedVariables false
set_option linter.unusedSimpArgs false

theorem appendDA (w : World) (base : Nat) (v : Value) (ds ps : List (List Nat)) (ao : Option Addr) (n c : Nat) (h : w.ownsRow base 29 32 v ds.length (flatD ds)) (hr : RdD w (.slice ao n c) ps) (hl : ds.length + ps.length ≤ 1000000000000) (hb : base ≤ w.heap.size) :
    ∃ ao' cap' w1, (Builtin.append_ #[41, 41] 41 #[v, .slice ao n c]).run Tryd.prog w = .ok (.slice ao' (ds.length + ps.length) cap') w1 ∧
      w1.ownsRow base 29 32 (.slice ao' (ds.length + ps.length) cap') (ds ++ ps).length (flatD (ds ++ ps)) ∧ w.grownBy w1 v.ownBlock ∧ ((Value.slice ao' (ds.length + ps.length) cap').ownBlock = v.ownBlock ∨ (Value.slice ao' (ds.length + ps.length) cap').ownBlock = some w.heap.size) := by
  obtain ⟨i0, hi, hz0, hz1, hz2⟩ := info_parts Tryd.infoD
  have hn := hr.nil_len
  have hdg : ∀ d ∈ ps, d.length = 32 := fun d hd => (hr.dg hd).1
  rw [flatD_app, List.length_append]
  by_cases h0 : n = 0
  · subst h0
    have hp : ps = [] := List.eq_nil_of_length_eq_zero hn
    subst hp
    cases ao with
    | none =>
      have hrun := append_none (P := Tryd.prog) (w := w) base 41 41 29 i0 32 c Tryd.underlying41 hi v ds.length (flatD ds) h
      obtain ⟨ao', cap', rfl⟩ := owns_form h
      exact ⟨ao', cap', w, hrun, by simpa [flatD] using h, World.grownBy.refl _ _, Or.inl rfl⟩
    | some ad =>
      obtain ⟨v', w1, hrun, hown, hgrow, _, hat⟩ := run_append_own_at (P := Tryd.prog) w base 41 41 29 i0 (.agg (zb 32)) 32 32 Tryd.underlying41 hi hz0 hz1 hz2 (by show (zb 32).size = 32; exact zb_size 32) (by decide)
        v ds.length (flatD ds) h ad 0 c (flatD []) (by simp [flatD]) (by intro j u hj; simp [flatD] at hj) (flatD_one _) (by unfold maxLen; omega) (by omega) hb
      obtain ⟨ao', cap', rfl⟩ := owns_form hown
      exact ⟨ao', cap', w1, hrun, hown, hgrow, hat⟩
  · have hr' := hr
    obtain ⟨ao1, n1, c1, he, h1, h2, h3, h4, h5⟩ := hr'
    cases he
    obtain ⟨b, off, rfl, hc⟩ := h5 (by omega)
    obtain ⟨v', w1, hrun, hown, hgrow, _, hat⟩ := run_append_own_at (P := Tryd.prog) w base 41 41 29 i0 (.agg (zb 32)) 32 32 Tryd.underlying41 hi hz0 hz1 hz2 (by show (zb 32).size = 32; exact zb_size 32) (by decide)
      v ds.length (flatD ds) h ⟨b, off, none⟩ n c (flatD ps) (by rw [flatD_len hdg, hn]) hr.news (flatD_one _) (by unfold maxLen; omega) (by omega) hb
    subst h1
    obtain ⟨ao', cap', rfl⟩ := owns_form hown
    exact ⟨ao', cap', w1, hrun, hown, hgrow, hat⟩

end Go.Proofs.YtjafmnemobcipaaDoor
