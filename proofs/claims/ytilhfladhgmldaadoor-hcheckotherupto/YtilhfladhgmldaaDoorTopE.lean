import Derived.Test.YtilhfladhgmldaaDoorRowz
import Derived.Deep.RegionHeld3
import Derived.Test.YtilhfladhgmldaaDoorTopD
import Derived.Lib.SlBytesConst
import Derived.Lib.SmallJoins
import Derived.Lib.ConvBytes
import Derived.Laws.AppendOwn
import Derived.Test.YtilhfladhgmldaaDoorBase
import Derived.Test.YtilhfladhgmldaaDoorCards
import Derived.Test.YtilhfladhgmldaaDoorTie
import Derived.ProofKit
import Derived.OpenShut
import Derived.Deep.Slices
import Derived.SizedLaws
import Derived.Test.YtilhfladhgmldaaDoorTopB
import Derived.Deep.SlicePairs
/-
  One operation: a call, by its contract.
-/
namespace Go.Proofs.YtilhfladhgmldaaDoor
open Go Go.RowKit Go.BigFrame
set_option linter.unusedVariables false
set_option linter.unusedSimpArgs false

theorem wp_callN {o : Oper} {a : Act} {w : World} {K : Act → World → Prop} {Q : Exit → Act → World → Prop} {f : FuncId} {xs : Array Operand} {ts : Array TypeId} (ho : o.op = .call { callee := .value (.func f), args := xs, argTypes := ts })
    (hcl : ∀ args W, (callFunc f args).run Tryd.prog W = .ok (.enter f args) W) (us : List Value) (he : xs.toList.map a.eval = us) {R : Ending → World → Prop}
    (hc : Calls Tryd.prog f us.toArray w R) (h : ∀ e w', R e w' → ∃ v, e = .returned v ∧ K (a.put o.dst v) w') : o.wp Tryd.prog a w K Q := by
  have he2 : xs.map a.eval = us.toArray := by rw [← he]; cases xs; simp only [List.map_toArray]
  unfold Oper.wp execOp
  simp only [ho]
  have hf : a.eval (.func f) = .func (.func f) #[] #[] := rfl
  simp only [resolve, invoke, hf, he2, Sem.run_bind, Sem.run_pure, Result.andThen_ok, hcl]
  simp [Deferred.ofValue, hcl, go_sem]
  refine hc.mono ?_
  intro e w2 h2
  obtain ⟨v, rfl, h3⟩ := h e w2 h2
  exact h3
end Go.Proofs.YtilhfladhgmldaaDoor
namespace Go.Proofs.YtilhfladhgmldaaDoor
open Go.RowKit Go.BigFrame
set_option linter.unusedVariables false
set_option linter.unusedSimpArgs false

theorem bw_kept (w : World) (e : TypeId) (s : ByteArray) : Kept [] w (Lib.bytesWorld w e s) := ⟨rfl, rfl, rfl, by rw [Lib.bytesWorld_size]; omega, fun k hk _ => Lib.bytesWorld_at_old w e s k hk⟩
theorem strOf_size (bs : List Nat) : (strOf bs).size = bs.length := by simp [strOf, ByteArray.size]
theorem bw_rd (w : World) (bs : List Nat) (hb : ∀ x ∈ bs, x < 256) (hl : bs.length ≤ 1000000) : Rd (Lib.bytesWorld w 5 (strOf bs)) (.slice (some ⟨w.heap.size, 0, none⟩) (strOf bs).size (grownCap w (strOf bs).size 0 5)) bs := by
  have h1 := grownCap_ge w (strOf bs).size 0 5
  have h2 := grownCap_le_maxLen w (strOf bs).size 0 5 (by rw [strOf_size]; unfold maxLen; omega)
  rw [strOf_size] at h1 h2 ⊢
  unfold maxLen at h2
  refine ⟨_, _, _, rfl, rfl, h1, ⟨by omega, by omega⟩, fun h => by simp at h, hb, fun hp => ⟨w.heap.size, 0, rfl, fun i hi => ?_⟩⟩
  rw [Nat.zero_add, Lib.bytesWorld_cell w 5 (strOf bs) i (by rw [strOf_size]; exact hi)]
  have hx := hb (bs[i]) (List.getElem_mem hi)
  simp [strOf, List.getD_eq_getElem?_getD, hi, u8]
  omega
theorem conv_str (w : World) (bs : List Nat) (n : Nat) (hn : bs.length = n) (hb : ∀ x ∈ bs, x < 256) (hl : n ≤ 1000000) : ∃ W c, (convert 9 22 (.string (strOf bs))).run Tryd.prog w = .ok (.slice (some ⟨w.heap.size, 0, none⟩) n c) W ∧ Rd W (.slice (some ⟨w.heap.size, 0, none⟩) n c) bs ∧ Kept [] w W ∧ W.heap.size = w.heap.size + 1 := by
  have hu5 : Tryd.prog.underlying 5 = some (.int .u8) := by kernel_rfl
  have hu9 : Tryd.prog.underlying 9 = some .string := by kernel_rfl
  subst hn
  exact ⟨_, _, by rw [Lib.run_convert_string_bytes w 9 22 5 (strOf bs) hu9 Tryd.underlying22 hu5, strOf_size], by have := bw_rd w bs hb hl; rwa [strOf_size] at this, bw_kept w 5 _, Lib.bytesWorld_size w 5 _⟩

set_option maxRecDepth 100000 in
set_option maxHeartbeats 2000000 in
theorem hbucket_any (w : World) :
    Calls Tryd.prog 20 #[.string (strOf [97]), .string (strOf [49])] w fun e w' => (∃ v', e = .returned (.agg #[.slice none 0 0, v']) ∧ RdK w' v' [([97], [49])]) ∧ Kept [] w w' := by
  go_enter Tryd.func20, Tryd.ntmps20
  have hk0 := (Kept.refl [] w).alloc (.cells #[.slice none 0 0, .slice none 0 0] 26)
  have hg0 := heap_alloc_new w (.cells #[.slice none 0 0, .slice none 0 0] 26)
  obtain ⟨W0, hW0⟩ : ∃ W0, w.alloc (.cells #[.slice none 0 0, .slice none 0 0] 26) = W0 := ⟨_, rfl⟩
  rw [hW0] at hk0 hg0
  obtain ⟨W1, n1, hr1, r1, k1, z1⟩ := conv_str W0 [97] 1 rfl (by decide) (by decide)
  obtain ⟨W2, n2, hr2, r2, k2, z2⟩ := conv_str W1 [49] 1 rfl (by decide) (by decide)
  have R1 := hide r1
  have R2 := hide r2
  have K1 := hide k1
  have K2 := hide k2
  have K0 := hide hk0
  clear r1 r2 k1 k2 hk0
  have HG2 := hide ((unhide K2).heap ((unhide K1).heap hg0 (by simp)) (by simp))
  clear hg0
  generalize strOf [97] = s1 at *
  generalize strOf [49] = s2 at *
  have hs2 : w.heap.size < W2.heap.size := lt_of_block (unhide HG2)
  have HG3 := hide (((Kept.refl [] W2).alloc (.cells #[.slice (some ⟨W0.heap.size, 0, none⟩) 1 n1, .slice (some ⟨W0.heap.size + 1, 0, none⟩) 1 n2] 58)).heap (unhide HG2) (by simp))
  have HP3 := hide (heap_alloc_new W2 (.cells #[.slice (some ⟨W0.heap.size, 0, none⟩) 1 n1, .slice (some ⟨W0.heap.size + 1, 0, none⟩) 1 n2] 58))
  have HK3 := hide ((Kept.refl [] W2).alloc (.cells #[.slice (some ⟨W0.heap.size, 0, none⟩) 1 n1, .slice (some ⟨W0.heap.size + 1, 0, none⟩) 1 n2] 58))
  go_wp2_with (first
    | (rw [hW0])
    | (show wpList _ #[_, _, _, _, _, _, _, _] _ [_] _ _; go_must (refine wpList_store_row rfl 26 _ _ rfl w.heap.size #[.slice none 0 0, .slice (some ⟨W0.heap.size + 1 + 1, 0, none⟩) 1 1] rfl rfl _ #[.slice none 0 0, .slice none 0 0] (unhide HG3) (by kernel_rfl) rfl (by simp [Value.oneCell']) ?_)))
  have kF := (((unhide K0).trans (unhide K1) (by simp)).trans (unhide K2) (by simp)).trans (unhide HK3) (by simp)
  have kR := (Kept.refl [w.heap.size] (W2.alloc (.cells #[.slice (some ⟨W0.heap.size, 0, none⟩) 1 n1, .slice (some ⟨W0.heap.size + 1, 0, none⟩) 1 n2] 58))).setRow (g := w.heap.size) (Or.inl (by simp)) #[.slice none 0 0, .slice (some ⟨W0.heap.size + 1 + 1, 0, none⟩) 1 1]
  have hz0 : w.heap.size + 1 = W0.heap.size := by rw [← hW0]; simp
  have e2 : W2.heap.size = W0.heap.size + 1 + 1 := by rw [z2, z1]
  have HPF := hide (kR.heap (unhide HP3) (by simp; omega))
  have hR1 := (((unhide R1).old (unhide K2) (by simp)).old (unhide HK3) (by simp)).kept kR (by simp [blk]; omega)
  have hR2 := ((unhide R2).old (unhide HK3) (by simp)).kept kR (by simp [blk]; omega)
  have HZF := setRow_heap _ w.heap.size _ #[.slice none 0 0, .slice (some ⟨W0.heap.size + 1 + 1, 0, none⟩) 1 1] 26 (0, 0) (unhide HG3)
  refine bodyPost_ret (v := .agg #[.slice none 0 0, .slice (some ⟨W0.heap.size + 1 + 1, 0, none⟩) 1 1]) ?_ rfl ⟨⟨_, rfl, ?_⟩, kF.setRow (g := w.heap.size) (Or.inr (Nat.le_refl _)) _⟩
  · exact results_cell_row rfl _ _ w.heap.size _ #[.slice none 0 0, .slice (some ⟨W0.heap.size + 1 + 1, 0, none⟩) 1 1] (0, 0) _ rfl HZF Tryd.underlying26 rfl (by kernel_rfl)
  · rw [z1] at hR2
    refine ⟨_, 1, 1, [.slice (some ⟨W0.heap.size, 0, none⟩) 1 n1], [.slice (some ⟨W0.heap.size + 1, 0, none⟩) 1 n2], rfl, rfl, Nat.le_refl _, by decide, fun i hi => ?_, fun _ => ⟨W0.heap.size + 1 + 1, 0, rfl, fun i hi => ?_⟩⟩
    · obtain rfl : i = 0 := by omega
      exact ⟨hR1, hR2⟩
    · obtain rfl : i = 0 := by omega
      have h9 := unhide HPF
      rw [e2] at h9
      exact ⟨cell_of_row _ _ _ _ _ _ h9, cell_of_row _ _ _ _ _ _ h9⟩

theorem rd_row {w : World} {g : Nat} (bs : List Nat) {cs : Array Value} {fr : Nat × Nat} (h : w.heap[g]? = some (.cells cs 5 fr)) (hc : cs = (bs.map u8).toArray) (hb : ∀ x ∈ bs, x < 256) (n : Nat) (hn : bs.length = n) (hl : n ≤ 140737488355328) : Rd w (.slice (some ⟨g, 0, none⟩) n n) bs := by
  refine ⟨_, n, n, rfl, hn, Nat.le_refl _, ⟨by omega, hl⟩, fun h => by simp at h, hb, fun hp => ⟨g, 0, rfl, fun i hi => ?_⟩⟩
  subst hc
  have hi' : i < bs.length := by omega
  rw [cell_of_row _ _ _ _ _ _ h, Nat.zero_add, List.getElem?_toArray, List.getElem?_map, List.getElem?_eq_getElem hi', List.getD_eq_getElem?_getD, List.getElem?_eq_getElem hi']
  rfl
def ps1 : List (List Nat × List Nat) := [([97], [49])]
theorem ps1_pb : (pairB ps1).length ≤ 1000000000000 := by
  have u1 := uv_len 1 (by omega)
  have e : pairB ps1 = uv 1 ++ [97] ++ (uv 1 ++ [49]) := by simp [pairB, ps1]
  rw [e]
  simp
  omega
theorem run_conv_at {w : World} {g n c : Nat} {C : Array Value} (h : w.heap[g]? = some (.cells C 5 (0, 0))) : (convert 22 22 (.slice (some ⟨g, 0, none⟩) n c)).run Tryd.prog w = .ok (.slice (some ⟨g, 0, none⟩) n c) (w.freeze ⟨g, C.size, none⟩ 1) := by
  have hsh : w.shape? g = some (5, C.size) := by unfold World.shape?; rw [h]
  simp [convert, run_underlying (P := Tryd.prog) Tryd.underlying22, run_underlying (P := Tryd.prog) Tryd.underlying5, markStringish, hsh]
theorem freeze_at {w : World} {g k : Nat} {C : Array Value} (h : w.heap[g]? = some (.cells C 5 (0, 0))) : (w.freeze ⟨g, k, none⟩ 1).heap[g]? = some (.cells C 5 (k, k + 1)) := by
  unfold World.freeze
  rw [if_neg (by decide)]
  show (w.heap.modify g _)[g]? = _
  rw [Array.getElem?_modify, if_pos rfl, h]
  rfl
theorem freeze_kept {L : List Nat} {X w : World} {g k : Nat} (h : Kept L X w) (hg : g ∈ L ∨ X.heap.size ≤ g) : Kept L X (w.freeze ⟨g, k, none⟩ 1) := by
  unfold World.freeze
  rw [if_neg (by decide)]
  refine ⟨h.os, h.tape, h.output, ?_, fun j hj hn => ?_⟩
  · show X.heap.size ≤ (w.heap.modify g _).size
    rw [Array.size_modify]; exact h.size
  · show (w.heap.modify g _)[j]? = _
    rw [Array.getElem?_modify, if_neg (by rintro rfl; rcases hg with h9 | h9; exact hn h9; omega)]
    exact h.block j hj hn
theorem aw_rt : rtE 2 [97] [] ps1 = 0 ∧ rtD 2 [97] [] ps1 = sumD 2 (buckB ps1) ∧ rtV 2 [97] [] ps1 = some [49] := by
  have h0 : hfE 2 [97] [] [] = 0 := by decide
  have hp : ∀ ks, provB 2 ks [] ps1 = true := by intro ks; simp [provB, fitsB, ps1, risB, hanB]
  have h := rtE_mk h0 (hp (keyS 2 [97]))
  refine ⟨h, ?_, ?_⟩
  · unfold rtD; rw [if_pos h]; rfl
  · unfold rtV; rw [if_pos h]; rfl
theorem aw_ck : ckE 2 (sumD 2 (buckB ps1)) [98] [] ps1 = 0 ∧ ckV 2 (sumD 2 (buckB ps1)) [98] [] ps1 = none := by
  have h0 : hfE 2 [98] [] [] = 0 := by decide
  have hp : ∀ ks, provB 2 ks [] ps1 = true := by intro ks; simp [provB, fitsB, ps1, risB, hanB]
  have h := rtE_mk h0 (hp (keyS 2 [98]))
  have hd : rtD 2 [98] [] ps1 = sumD 2 (buckB ps1) := by unfold rtD; rw [if_pos h]; rfl
  have hc : ckE 2 (sumD 2 (buckB ps1)) [98] [] ps1 = 0 := by rw [← hd]; exact agr_ok h
  refine ⟨hc, ?_⟩
  unfold ckV rtV
  rw [if_pos hc, if_pos h]; rfl

def tupAt : Value → Nat → Value
  | .tuple vs, i => vs.toList.getD i undef
  | _, _ => undef

set_option maxRecDepth 100000 in
set_option maxHeartbeats 2000000 in
theorem hawake_any (w : World) (hT : Tabs w) :
    Calls Tryd.prog 8 #[] w fun e w' => e = .returned (.bool true) ∧ Kept [] w w' := by
  have HT := hide hT
  clear hT
  go_enter Tryd.func8, Tryd.ntmps8
  go_wp2_with fail
  refine Calls.mono (hbucket_any _) ?_
  rintro e w1 ⟨⟨v1, rfl, r1⟩, k1⟩
  have HR1 := hide r1
  obtain ⟨pa, pn, pc, _, _, rfl, _⟩ := id r1
  clear r1
  have kN := (k1.alloc (.cells #[.slice none 0 0, .slice none 0 0] 26)).setRow (g := w1.heap.size) (Or.inr k1.size) #[.slice none 0 0, .slice pa pn pc]
  have HN1 := hide (setRow_heap (w1.alloc (.cells #[.slice none 0 0, .slice none 0 0] 26)) w1.heap.size _ #[.slice none 0 0, .slice pa pn pc] 26 (0, 0) (heap_alloc_new _ _))
  have HK1 := hide kN
  have HP1 := hide ((unhide HR1).old (((Kept.refl [] w1).alloc (.cells #[.slice none 0 0, .slice none 0 0] 26)).setRow (g := w1.heap.size) (Or.inr (Nat.le_refl _)) #[.slice none 0 0, .slice pa pn pc]))
  clear kN k1 HR1
  have hc1 := Go.Joins.run_convert_bytes_const_at (P := Tryd.prog) ((w1.alloc (.cells #[.slice none 0 0, .slice none 0 0] 26)).setRow w1.heap.size #[.slice none 0 0, .slice pa pn pc]) 22 5 #[.int .u8 97] 1 1 (w1.heap.size + 1) (by simp) Tryd.underlying22 Tryd.underlying5
  have kc := (Kept.refl [] ((w1.alloc (.cells #[.slice none 0 0, .slice none 0 0] 26)).setRow w1.heap.size #[.slice none 0 0, .slice pa pn pc])).alloc (.cells #[.int .u8 97] 5 (1, 2))
  have HN2 := hide (kc.heap (unhide HN1) (by simp))
  have HP2 := hide ((unhide HP1).old kc)
  have HK2 := hide ((unhide HK1).trans kc (by simp))
  have hz9 : ((w1.alloc (.cells #[.slice none 0 0, .slice none 0 0] 26)).setRow w1.heap.size #[.slice none 0 0, .slice pa pn pc]).heap.size = w1.heap.size + 1 := by simp
  have HB2 := hide (rd_row (n := 1) [97] (heap_alloc_new ((w1.alloc (.cells #[.slice none 0 0, .slice none 0 0] 26)).setRow w1.heap.size #[.slice none 0 0, .slice pa pn pc]) (.cells #[.int .u8 97] 5 (1, 2))) rfl (by decide) rfl (by decide))
  rw [hz9] at HB2
  clear kc hz9 HN1 HP1 HK1
  go_wp2_with (first
    | (show wpList _ _ _ [_] _ (World.alloc _ _); refine wpList_store_row rfl 26 _ _ rfl w1.heap.size #[.slice none 0 0, .slice pa pn pc] rfl rfl _ #[.slice none 0 0, .slice none 0 0] (heap_alloc_new _ _) (by kernel_rfl) rfl (by simp [Value.oneCell']) ?_)
    | (refine wpList_load_row rfl 26 _ rfl w1.heap.size rfl _ #[.slice none 0 0, .slice pa pn pc] (0, 0) _ (unhide HN2) Tryd.underlying26 rfl (by kernel_rfl) ?_))
  obtain ⟨X, hX⟩ : ∃ X, ((w1.alloc (.cells #[.slice none 0 0, .slice none 0 0] 26)).setRow w1.heap.size #[.slice none 0 0, .slice pa pn pc]).alloc (.cells #[.int .u8 97] 5 (1, 2)) = X := ⟨_, rfl⟩
  have hX' : (#[Value.int IntKind.u8 97] : Array Value).size = 1 := rfl
  simp only [hX', Nat.reduceAdd] at hc1 ⊢
  rw [hX] at HN2 HP2 HK2 HB2 ⊢
  clear hX hX' hc1
  refine Calls.mono (hrootOf_any 2 _ [97] _ _ [] ps1 _ (by decide) (unhide HB2) (RdS.nil _) (unhide HP2) ((unhide HT).k (unhide HK2)) ps1_pb (by decide) (by decide) (by simp)) ?_
  rintro e w2 ⟨⟨v2, rfl, r2⟩, k2⟩
  rw [aw_rt.1, aw_rt.2.1]
  rw [aw_rt.2.2] at r2 ⊢
  have HV2 := hide r2
  obtain ⟨va, vn, vc, rfl, _⟩ := id r2
  have HDG := hide (sumD_dg 2 (buckB ps1))
  generalize hD : sumD 2 (buckB ps1) = D at HDG ⊢
  have HD := hide hD
  clear hD r2
  have hdl := (unhide HDG).1
  have HSZ := hide (Tryd.szD hdl)
  have kN := (k2.alloc (.cells (zb 32) 28)).setRow (g := w2.heap.size) (Or.inr k2.size) (brow D)
  have kS := ((Kept.refl [] w2).alloc (.cells (zb 32) 28)).setRow (g := w2.heap.size) (Or.inr (Nat.le_refl _)) (brow D)
  have HD3 := hide (setRow_heap (w2.alloc (.cells (zb 32) 28)) w2.heap.size (zb 32) (brow D) 28 (0, 0) (heap_alloc_new _ _))
  have HN3 := hide (kN.heap (unhide HN2) (by simp))
  have HP3 := hide ((unhide HP2).old kN)
  have HK3 := hide ((unhide HK2).trans kN (by simp))
  have HV3 := hide ((unhide HV2).old kS (by simp))
  clear kN kS k2 HN2 HP2 HK2 HB2 HV2
  have c3 : ((w2.alloc (.cells (zb 32) 28)).setRow w2.heap.size (brow D)).cell? ⟨w1.heap.size, 1, none⟩ = some (.slice pa pn pc) := cell_of_row _ _ 1 _ _ _ (unhide HN3)
  go_wp2_with (first
    | (rw [zb32]; refine wpList_store_row rfl 28 _ _ rfl w2.heap.size (brow D) rfl rfl _ (zb 32) (heap_alloc_new _ _) (unhide HSZ) (by rw [zb_size, brow_size, hdl]) (brow_one _) ?_))
  have c30 : ((w2.alloc (.cells (zb 32) 28)).setRow w2.heap.size (brow D)).cell? ⟨w1.heap.size, 0, none⟩ = some (.slice none 0 0) := cell_of_row _ _ 0 _ _ _ (unhide HN3)
  obtain ⟨X, hX⟩ : ∃ X, (w2.alloc (.cells (zb 32) 28)).setRow w2.heap.size (brow D) = X := ⟨_, rfl⟩
  rw [hX] at HD3 HN3 HP3 HK3 HV3 c3 c30 ⊢
  clear hX
  have hgx : w1.heap.size < X.heap.size := lt_of_block (unhide HN3)
  have hxx : X.heap.size ≤ X.heap.size ∧ w1.heap.size < X.heap.size := ⟨Nat.le_refl _, hgx⟩
  have HTX := hide ((unhide HT).k (unhide HK3))
  have HCB := hide (fun w0 (hw0 : Kept [] X w0) => refBucket_any 2 (.slice pa pn pc) ps1 w0 (by decide) ((unhide HP3).old hw0) ps1_pb)
  rw [show sumD ((2 : Nat) : Int) (buckB ps1) = D from unhide HD] at HCB
  have HCC := hide (fun w0 (hw0 : Kept [] X w0) kv (hk : Rd w0 kv [98]) => hcheck_any 2 D kv [98] (.slice none 0 0) (.slice pa pn pc) [] ps1 w0 (by decide) (unhide HDG) hk (RdS.nil _) ((unhide HP3).old hw0) ((unhide HTX).k hw0) ps1_pb (by decide) (by decide) (by simp))
  have hck := aw_ck
  rw [unhide HD] at hck
  rw [hck.1, hck.2] at HCC
  clear hck
  refine wp_haw14 (by kernel_rfl) (by kernel_rfl) (by kernel_rfl) (by kernel_rfl) (by kernel_rfl) (by kernel_rfl) (by kernel_rfl) (by kernel_rfl) (by kernel_rfl) (by kernel_rfl) (by kernel_rfl) (by kernel_rfl) (by kernel_rfl) (by kernel_rfl) (by kernel_rfl) (by kernel_rfl) (by kernel_rfl) (by kernel_rfl) (by kernel_rfl) (by kernel_rfl) (by kernel_rfl) (by kernel_rfl) (by kernel_rfl) (by kernel_rfl) (by kernel_rfl) (by kernel_rfl) (by kernel_rfl) (by kernel_rfl) (by kernel_rfl) rfl rfl rfl rfl (by simp) (by simp)
    (.pointer (some ⟨w1.heap.size, 1, none⟩)) (.slice pa pn pc) (.agg #[.slice none 0 0, .slice pa pn pc]) _ _ _
    (fun w' => Kept [] X w')
    (fun w' => Kept [] X w')
    (fun u2 w' => u2 = .agg (brow D) ∧ Kept [] X w')
    (fun u3 w' => ∃ g, u3 = .slice (some ⟨g, 0, none⟩) 1 1 ∧ X.heap.size ≤ g ∧ w'.heap[g]? = some (.cells #[.int .u8 98] 5 (0, 0)) ∧ Kept [] X w')
    (fun u2 u3 w' => u2 = .agg (brow D) ∧ ∃ g, u3 = .slice (some ⟨g, 0, none⟩) 1 1 ∧ X.heap.size ≤ g ∧ w'.heap[g]? = some (.cells #[.int .u8 98] 5 (0, 0)) ∧ Kept [] X w')
    (fun u3 u4 w' => Rd w' u4 [98] ∧ Kept [] X w')
    (fun u2 u3 u4 w' => u2 = .agg (brow D) ∧ Rd w' u4 [98] ∧ Kept [] X w')
    (fun u2 u3 u4 u6 w' => ∃ a c, u6 = .tuple #[.slice a 0 c, .bool false, .int .i64 0] ∧ Kept [] X w')
    (fun u => u) (fun u => tupAt u 0) (fun u => tupAt u 1) (fun u => tupAt u 2) (fun u => tupAt u 0) (fun u => tupAt u 1) (fun u => tupAt u 2)
    (by simp only [Act.put, List.setIfInBounds_toArray, List.set_cons_zero, List.set_cons_succ]; rfl) (by exact Or.inl ⟨by rfl, fun W' hW' => by go_simp⟩)
    (by simp only [Act.put, List.setIfInBounds_toArray, List.set_cons_zero, List.set_cons_succ]; rfl) (by exact Or.inl ⟨by rfl, fun W' hW' => by have h9 := hW'.cell c3 (by simp); go_simp⟩)
    (by simp only [Act.put, List.setIfInBounds_toArray, List.set_cons_zero, List.set_cons_succ]; rfl) (by exact Or.inl ⟨by rfl, fun W' hW' => by have h9 := hW'.cell c3 (by simp); have h8 := hW'.cell c30 (by simp); go_simp⟩)
    (Kept.refl [] X).drew
    ⟨fun w' h => h, fun u2 w' h => h.2, fun u3 w' h => by obtain ⟨g, _, _, _, h⟩ := h; exact h, fun u2 u3 w' h => by obtain ⟨_, g, _, _, _, h⟩ := h; exact h, fun u3 u4 w' h => h.2, fun u2 u3 u4 w' h => h.2.2, fun u2 u3 u4 u6 w' h => by obtain ⟨a, c, _, h⟩ := h; exact h⟩
    (by intro w' i K hK; exact wp_callN rfl Tryd.call21 [.int .i64 2, .slice pa pn pc] rfl (unhide HCB w' i) (fun e w2 h => ⟨_, h.1, hK _ _ ⟨rfl, i.trans h.2 (by simp)⟩⟩))
    (by intro w' i K hK; unfold Oper.wp execOp; go_simp; exact hK _ _ ⟨_, rfl, i.size, heap_alloc_new _ _, i.alloc _⟩)
    (by rintro u2 w' ⟨rfl, i⟩ K hK; unfold Oper.wp execOp; go_simp; exact hK _ _ ⟨rfl, _, rfl, i.size, heap_alloc_new _ _, i.alloc _⟩)
    (by rintro u3 w' ⟨g, rfl, hg, hh, i⟩ K hK; exact wp_callN rfl Tryd.call21 [.int .i64 2, .slice pa pn pc] rfl (unhide HCB w' i) (fun e w2 h => ⟨_, h.1, hK _ _ ⟨rfl, _, rfl, hg, h.2.heap hh (by simp), i.trans h.2 (by simp)⟩⟩))
    (by rintro u3 w' ⟨g, rfl, hg, hh, i⟩ K hK; have hcv := run_conv_at (n := 1) (c := 1) hh; unfold Oper.wp execOp; go_simp; exact hK _ _ ⟨rd_row [98] (freeze_at hh) rfl (by decide) 1 rfl (by decide), freeze_kept i (Or.inr hg)⟩)
    (by rintro u2 u3 w' ⟨rfl, g, rfl, hg, hh, i⟩ K hK; have hcv := run_conv_at (n := 1) (c := 1) hh; unfold Oper.wp execOp; go_simp; exact hK _ _ ⟨rfl, rd_row [98] (freeze_at hh) rfl (by decide) 1 rfl (by decide), freeze_kept i (Or.inr hg)⟩)
    (by rintro u3 u4 w' ⟨hr, i⟩ K hK; exact wp_callN rfl Tryd.call21 [.int .i64 2, .slice pa pn pc] rfl (unhide HCB w' i) (fun e w2 h => ⟨_, h.1, hK _ _ ⟨rfl, hr.old h.2 (by simp), i.trans h.2 (by simp)⟩⟩))
    (by rintro u2 u3 u4 w' ⟨rfl, hr, i⟩ K hK; refine wp_callN rfl Tryd.call14 [.int .i64 2, .agg (brow D), u4, .agg #[.slice none 0 0, .slice pa pn pc]] rfl (unhide HCC w' i _ hr) ?_; rintro e w2 ⟨⟨v', rfl, hv⟩, k⟩; obtain ⟨a, n, c, rfl, hn, _⟩ := id hv; simp at hn; subst hn; exact ⟨_, rfl, hK _ _ ⟨a, c, rfl, i.trans k (by simp)⟩⟩)
    (by rintro u2 u3 u4 u6 w' ⟨a, c, rfl, _⟩; exact Or.inl ⟨by rfl, fun W' hW' => by go_simp⟩)
    (by rintro u2 u3 u4 u6 w' ⟨a, c, rfl, _⟩; exact Or.inl ⟨by rfl, fun W' hW' => by simp only [tupAt]; go_simp⟩)
    (by rintro u2 u3 u4 u6 w' ⟨a, c, rfl, _⟩; exact Or.inl ⟨by rfl, fun W' hW' => by simp only [tupAt]; go_simp⟩)
    (by rintro u2 u3 u4 u6 w' ⟨a, c, rfl, _⟩; exact Or.inl ⟨by rfl, fun W' hW' => by simp only [tupAt]; go_simp⟩)
    (by rintro u2 u3 u4 u6 w' ⟨a, c, rfl, _⟩; exact Or.inl ⟨by rfl, fun W' hW' => by simp only [tupAt]; go_simp⟩)
    (by rintro u2 u3 u4 u6 w' ⟨a, c, rfl, _⟩; exact Or.inl ⟨by rfl, fun W' hW' => by simp only [tupAt]; go_simp⟩)
    (by rintro u2 u3 u4 u6 w' ⟨a, c, rfl, _⟩; exact Or.inl ⟨by rfl, fun W' hW' => by simp only [tupAt]; go_simp⟩)
    ?_
  rintro u2 u3 u4 u6 w6 ⟨sa, sc, rfl, k6⟩
  simp only [Act.put, List.setIfInBounds_toArray, List.set_cons_zero, List.set_cons_succ, tupAt, List.getD_cons_zero, List.getD_cons_succ]
  have HD4 := hide (k6.heap (unhide HD3) (by simp))
  have HN4 := hide (k6.heap (unhide HN3) (by simp))
  have HP4 := hide ((unhide HP3).old k6)
  have HK4 := hide ((unhide HK3).trans k6 (by simp))
  have HV4 := hide ((unhide HV3).old k6 (by simp))
  have c4 := k6.cell c3 (by simp)
  clear k6 HD3 HN3 HP3 HK3 HV3 c3 c30 HCC
  have hne : ∀ p : Prop, (∀ w', Kept [] w6 w' → p) = p := fun p => propext ⟨fun h => h w6 (Kept.refl [] w6), fun h _ _ => h⟩
  have HCK := hide (fun w' (hw' : Kept [] w6 w') => (refBucket_any 2 (.slice pa pn pc) ps1 w' (by decide) ((unhide HP4).old hw') ps1_pb).mono (fun e w2 h2 => ⟨h2.1, hw'.trans h2.2 (by simp)⟩) : ∀ w', Kept [] w6 w' → Calls Tryd.prog 21 #[.int .i64 2, .slice pa pn pc] w' fun e w2 => e = .returned (.agg (brow (sumD ((2 : Nat) : Int) (buckB ps1)))) ∧ Kept [] w6 w2)
  rw [show sumD ((2 : Nat) : Int) (buckB ps1) = D from unhide HD] at HCK
  have heq := fun W => dig_eq W D D hdl hdl
  rw [decide_eq_true rfl] at heq
  have HCV := hide (fun w' (hw' : Kept [] w6 w') => conv_any (.slice va vn vc) [49] w' ((unhide HV4).old hw' (by simp)) (by kernel_rfl) (by kernel_rfl))
  have hst : strOf [49] = ⟨#[49]⟩ := rfl
  rw [hst] at HCV
  clear hst HCB
  go_wp2_with fail
  refine wp_region_keep (by kernel_rfl) (by kernel_rfl) ?_
  iterate 7 (go_big_quiet_step (fail))
  refine wpQuiet_val rfl (.string ⟨#[49]⟩) (fun w' hw' => by have h9 := unhide HCV w' hw'; unfold execOp; go_simp) ?_
  simp only [Act.put, List.setIfInBounds_toArray, List.set_cons_succ, List.set_cons_zero]
  iterate 3 (go_big_quiet_step (fail))
  refine wpQuiet_row rfl 28 (.tmp 2) rfl w2.heap.size rfl _ (brow D) (0, 0) _ (fun w' hw' => hw'.heap (unhide HD4) (by simp)) Tryd.underlying28 rfl (unhide HSZ) ?_
  simp only [Act.put, List.setIfInBounds_toArray, List.set_cons_succ, List.set_cons_zero]
  go_big_quiet_step (fail)
  refine wpQuiet_val rfl (.slice pa pn pc) (fun w' hw' => by have h9 := hw'.cell c4 (by simp); go_simp) ?_
  simp only [Act.put, List.setIfInBounds_toArray, List.set_cons_succ, List.set_cons_zero]
  go_big_quiet_want
  go_big_quiet_op
  apply Exists.intro
  refine ⟨fun w' hw' => ?_, ?_⟩
  · exact unhide HCK w' hw'
  go_big_quiet_on
  refine wpQuiet_val rfl (.bool true) (fun w' hw' => run_eql 28 (.tmp 41) (.tmp 44) _ rfl (brow D) (brow D) rfl rfl w' true (by kernel_rfl) (heq w')) ?_
  simp only [Act.put, List.setIfInBounds_toArray, List.set_cons_succ, List.set_cons_zero]
  repeat (go_big_quiet_step (fail))
  refine wpQuiet_nil ?_
  intro w7 hw7
  have HK7 := hide ((unhide HK4).trans hw7 (by simp))
  clear hw7
  go_wp2
  go_ret
  exact ⟨rfl, unhide HK7⟩
end Go.Proofs.YtilhfladhgmldaaDoor
namespace Go.Proofs.YtilhfladhgmldaaDoor
open Go.ChangeShapes Go.WideShapes Go.ChangeAt Go.RowKit Go.Deep
set_option linter.unusedVariables false
set_option linter.unusedSimpArgs false

theorem own : ownKnob Tryd.prog.godebug = none := by kernel_rfl
theorem laidOut : laidOutB Tryd.prog = true := by kernel_rfl
theorem byte_of_wf {x : Int} (h : (Lit.int .u8 x).wf = true) : 0 ≤ x ∧ x < 256 := by
  simp [Lit.wf, IntKind.min, IntKind.max, IntKind.signed, IntKind.bits] at h
  exact ⟨by omega, by omega⟩
theorem int_of_wf {x : Int} (h : (Lit.int .i64 x).wf = true) : -9223372036854775808 ≤ x ∧ x ≤ 9223372036854775807 := by
  simp [Lit.wf, IntKind.min, IntKind.max, IntKind.signed, IntKind.bits] at h
  exact ⟨by omega, by omega⟩

theorem bulk_one {H : Type} (d : DataW H) : 1 ≤ Rows.uptoBulk d := by
  cases d with
  | lit l => cases l <;> simp [Rows.uptoBulk]
  | nil => simp [Rows.uptoBulk]
  | ptr d => simp [Rows.uptoBulk]
  | slice elems spare => simp [Rows.uptoBulk]
  | agg parts => simp [Rows.uptoBulk]
  | iface t d => simp [Rows.uptoBulk]
  | map entries => simp [Rows.uptoBulk]
  | held h => simp [Rows.uptoBulk]
theorem bulk_len {H : Type} (l : List (DataW H)) : l.length ≤ Rows.uptoBulkAll l := by
  induction l with
  | nil => simp [Rows.uptoBulkAll]
  | cons x r ih => have := bulk_one x; simp only [Rows.uptoBulkAll, List.length_cons]; omega
theorem Tryd.bytes5 : Tryd.prog.bytesOf 5 = 1 := by kernel_rfl

section
variable {H : Type} {enc : TypeId × Value → H} {W : World}

/-- Bytes that came in, as the walks want them, of whatever length. -/
theorem open_bytes {fuel : Nat} {cs : List Value} {x : DataW H × List MemPlace} (h : DataW.trod enc Tryd.prog W 0 (fun _ => true) true fuel 22 cs = some x) :
    ∃ v bs, cs = [v] ∧ (bs.length ≤ 140737488355328 → Rd W v bs) ∧ ((bs = [] ∧ x.1 = .nil) ∨ ∃ elems spare, x.1 = .slice elems spare ∧ elems.length = bs.length) := by
  rcases open_ints Tryd.underlying22 Tryd.underlying5 (by kernel_rfl) h with ⟨rfl, rfl⟩ | ⟨a, len, cap, zs, rfl, _, hl, hm, hz, rfl, hcell, hwz⟩
  · exact ⟨_, [], rfl, fun _ => Rd.nil W, .inl ⟨rfl, rfl⟩⟩
  · have h2 : (lits (H := H) .u8 (zs.take len)).length = len := by simp only [lits, List.length_map, List.length_take]; simp at hz; omega
    have hbl : ((zs.take len).map Int.toNat).length = len := by simp at hz; simp; omega
    refine ⟨_, (zs.take len).map Int.toNat, rfl, fun hB => ⟨_, _, _, rfl, hbl, hl, ⟨by unfold maxLen at hm; omega, by omega⟩, by simp, ?_, ?_⟩, .inr ⟨_, _, rfl, by rw [h2, hbl]⟩⟩
    · intro y hy
      obtain ⟨z, hz1, rfl⟩ := List.mem_map.1 hy
      have := byte_of_wf (hwz z (List.mem_of_mem_take hz1)); omega
    · intro hp
      simp at hz
      have hc0 := hcell 0 (by omega)
      obtain ⟨b, off, spot⟩ := a
      have hspot : spot = none := by simpa [Addr.add] using World.cell?_spot hc0
      subst hspot
      refine ⟨b, off, rfl, fun i hi => ?_⟩
      have hc := hcell i (by omega)
      have hzi : i < zs.length := by omega
      rw [Addr.add_mid] at hc
      rw [hc]
      have hw := byte_of_wf (hwz (zs[i]) (List.getElem_mem hzi))
      simp only [List.getD_eq_getElem?_getD, List.getElem?_eq_getElem hzi, Option.getD_some, List.getElem?_map, List.getElem?_take, hi, if_true, Option.map_some]
      simp [u8]; omega
/-- Their length, by the reach. -/
theorem reach_bytes {ts : List TypeId} {ds : List (DataW H)} (h : (DataW.weightsEach Tryd.prog ts ds).all (· ≤ reachBytes) = true) {j : Nat} (ht : ts[j]? = some 22) {d : DataW H} (hd : ds[j]? = some d) {bs : List Nat}
    (hx : (bs = [] ∧ d = .nil) ∨ ∃ elems spare, d = .slice elems spare ∧ elems.length = bs.length) : bs.length ≤ 140737488351232 := by
  rcases hx with ⟨rfl, _⟩ | ⟨elems, spare, rfl, he⟩
  · simp
  · have := sized_slice h ht hd Tryd.underlying22
    rw [Tryd.bytes5, Nat.mul_one] at this
    unfold reachBytes at this
    omega
/-- Their length, by the bulk. -/
theorem bulk_bytes {d : DataW H} {bs : List Nat} (hx : (bs = [] ∧ d = .nil) ∨ ∃ elems spare, d = .slice elems spare ∧ elems.length = bs.length) : bs.length + 1 ≤ Rows.uptoBulk d := by
  rcases hx with ⟨rfl, rfl⟩ | ⟨elems, spare, rfl, he⟩
  · simp [Rows.uptoBulk]
  · have := bulk_len elems
    simp only [Rows.uptoBulk]; omega
end
end Go.Proofs.YtilhfladhgmldaaDoor
namespace Go.Proofs.YtilhfladhgmldaaDoor
open Go Go.RowKit
set_option linter.unusedVariables false
set_option linter.unusedSimpArgs false
section
variable {H : Type} {enc : TypeId × Value → H} {W : World}

def natOf : Value → Nat
  | .int _ n => n.toNat
  | _ => 0
/-- A digest that came in. -/
theorem open_dig {fuel : Nat} {cs : List Value} {x : DataW H × List MemPlace} (h : DataW.trod enc Tryd.prog W 0 (fun _ => true) true fuel 28 cs = some x) :
    ∃ l : List Nat, cs = l.map u8 ∧ l.length = 32 ∧ ∀ y ∈ l, y < 256 := by
  obtain ⟨xs, m, _, rfl, hl, hn, hc⟩ := DataW.trod_array Tryd.underlying28 h
  rw [show Tryd.prog.cellsOf 28 = 32 from by kernel_rfl] at hl
  rw [show Tryd.prog.cellsOf 5 = 1 from by kernel_rfl] at hc
  have key : ∀ i (hi : i < cs.length), cs[i] = u8 (natOf cs[i]) ∧ natOf cs[i] < 256 := by
    intro i hi
    have h1 := hc i (by omega)
    rw [Nat.mul_one, List.getElem?_eq_getElem (by omega)] at h1
    obtain ⟨n, e, _, hw⟩ := DataW.trod_int Tryd.underlying5 h1
    rw [List.drop_eq_getElem_cons hi, List.take_succ_cons, List.take_zero] at e
    simp only [List.cons.injEq, and_true] at e
    have := byte_of_wf hw
    rw [e]
    refine ⟨?_, ?_⟩
    · simp [u8, natOf]; omega
    · simp [natOf]; omega
  refine ⟨cs.map natOf, ?_, by simp [hl], ?_⟩
  · rw [List.map_map]
    refine List.ext_getElem (by simp) fun i h1 h2 => ?_
    rw [List.getElem_map]
    exact (key i h1).1
  · intro y hy
    obtain ⟨v, hv, rfl⟩ := List.mem_map.1 hy
    obtain ⟨i, hi, rfl⟩ := List.getElem_of_mem hv
    exact (key i hi).2
set_option maxRecDepth 100000 in
theorem open_digv {b0 : Nat} {v : Value} {d : DataW H} {ps : List MemPlace} (hv : Value.okWide Tryd.prog W .any b0 28 v) (h : DataW.Trod enc Tryd.prog W 0 (fun _ => true) true 28 v d ps) :
    ∃ l : List Nat, v = .agg (brow l) ∧ l.length = 32 ∧ ∀ y ∈ l, y < 256 := by
  unfold Value.okWide at hv
  rw [Tryd.underlying28] at hv
  obtain ⟨cs, rfl, _, _⟩ := hv
  obtain ⟨fuel, hf⟩ := h
  obtain ⟨l, e, h1, h2⟩ := open_dig hf
  refine ⟨l, ?_, h1, h2⟩
  simp only [Value.cells] at e
  unfold brow
  rw [← e]
end
end Go.Proofs.YtilhfladhgmldaaDoor
namespace Go.Proofs.YtilhfladhgmldaaDoor
open Go.ChangeShapes Go.WideShapes Go.ChangeAt Go.RowKit Go.Deep
set_option linter.unusedVariables false
set_option linter.unusedSimpArgs false

/-- A question: its width, key, steps, pairs, root. -/
structure AskH where
  z : Int
  k : List Nat
  ss : List (Nat × List (List Nat))
  ps : List (List Nat × List Nat)
  r : List Nat
def askH (q : AskH) (kv sv pv : Value) : List Value := [.int .i64 q.z, kv, sv, pv] ++ q.r.map u8
def zaskh : Array Value := (askH ⟨0, [], [], [], List.replicate 32 0⟩ (.slice none 0 0) (.slice none 0 0) (.slice none 0 0)).toArray
structure OkP (w : World) (ss : List (Nat × List (List Nat))) (ps : List (List Nat × List Nat)) (sv pv : Value) : Prop where
  s : RdS w sv ss
  p : RdK w pv ps
  sl : ss.length ≤ 1048576
  kl : ∀ x ∈ ss, x.2.length ≤ 1048576
  pw : kwt ps ≤ 1048576
theorem OkP.old {w w' : World} {ss : List (Nat × List (List Nat))} {ps : List (List Nat × List Nat)} {sv pv : Value} (h : OkP w ss ps sv pv) (k : Kept [] w w') : OkP w' ss ps sv pv := ⟨h.s.old k, h.p.old k, h.sl, h.kl, h.pw⟩
structure OkH (w : World) (q : AskH) (kv sv pv : Value) : Prop where
  z : -9223372036854775808 ≤ q.z ∧ q.z ≤ 9223372036854775807
  k : Rd w kv q.k
  kl : q.k.length ≤ 1048576
  P : OkP w q.ss q.ps sv pv
  r : Dg q.r
theorem OkH.old {w w' : World} {q : AskH} {kv sv pv : Value} (h : OkH w q kv sv pv) (k : Kept [] w w') : OkH w' q kv sv pv := ⟨h.z, h.k.old k (by simp), h.kl, h.P.old k, h.r⟩
theorem kwt_len (ps : List (List Nat × List Nat)) : 2 * ps.length ≤ kwt ps := by
  induction ps with
  | nil => simp [kwt]
  | cons x r ih =>
    have ek : kwt (x :: r) = x.1.length + x.2.length + 2 + kwt r := by simp [kwt]
    rw [ek, List.length_cons]; omega
section
variable {H : Type} {enc : TypeId × Value → H} {W : World}

theorem o_bulk_part {d : DataW H} {l : List (DataW H)} (h : d ∈ l) : Rows.uptoBulk d ≤ Rows.uptoBulkAll l := by
  induction l with
  | nil => cases h
  | cons x r ih =>
    simp only [Rows.uptoBulkAll]
    cases List.mem_cons.1 h with
    | inl e => subst e; omega
    | inr e => have := ih e; omega
theorem o_split (cs : List Value) (a n : Nat) : cs.drop a = (cs.drop a).take n ++ cs.drop (a + n) := by
  rw [← List.drop_drop, List.take_append_drop]

/-- Digests that came in. -/
theorem open_digs2 {fuel : Nat} {cs : List Value} {x : DataW H × List MemPlace} (h : DataW.trod enc Tryd.prog W 0 (fun _ => true) true fuel 49 cs = some x) (hB : Rows.uptoBulk x.1 ≤ 1048576) :
    ∃ v ds, cs = [v] ∧ RdD W v ds ∧ ds.length ≤ 1048576 := by
  rcases open_slice Tryd.underlying49 h with ⟨rfl, rfl⟩ | ⟨a, len, cap, m, n, D, Pl, rfl, _, hl, hm, hmm, rfl, hx⟩
  · exact ⟨_, [], rfl, ⟨none, 0, 0, rfl, rfl, Nat.le_refl _, by omega, fun d hd => by simp at hd, fun h => by omega⟩, by simp⟩
  · have hC : Tryd.prog.cellsOf 28 = 32 := by kernel_rfl
    rw [hC] at hx
    simp only [if_true] at hmm
    simp only [Rows.uptoBulk] at hB
    have hcap : cap ≤ 1048576 := by
      have h1 := bulk_len ((List.range len).map D)
      have h2 := bulk_len ((List.range (m - len)).map fun j => D (len + j))
      simp at h1 h2
      omega
    obtain ⟨f, hf⟩ := choose_lt (α := List Nat) (n := len) (p := fun i o => (∀ j v, (o.map u8)[j]? = some v → W.cell? ((a.add (i * 32)).add j) = some v) ∧ o.length = 32 ∧ ∀ y ∈ o, y < 256) (by
      intro i hi
      obtain ⟨cs', h1, h2⟩ := hx i (by omega)
      obtain ⟨l, rfl, hl1, hl2⟩ := open_dig h2
      obtain ⟨_, hlen, hc⟩ := World.cells?_some h1
      refine ⟨l, fun j v hv => ?_, hl1, hl2⟩
      have hj := (List.getElem?_eq_some_iff.1 hv).1
      have := hc j (by rw [List.length_map] at hj; omega)
      rw [this, ← hv, List.getElem?_eq_getElem hj])
    refine ⟨_, (List.range len).map f, rfl, ⟨some a, len, cap, rfl, by simp, hl, by omega, ?_, ?_⟩, by simp; omega⟩
    · intro d hd
      obtain ⟨i, hi, rfl⟩ := List.mem_map.1 hd
      exact (hf i (List.mem_range.1 hi)).2
    · intro hp
      obtain ⟨b, off, spot⟩ := a
      have h0 := hf 0 hp
      have hc0 := h0.1 0 (u8 ((f 0).getD 0 0)) (by rw [List.getElem?_map, List.getD_eq_getElem?_getD, List.getElem?_eq_getElem (by omega)]; rfl)
      have hspot : spot = none := by simpa [Addr.add] using World.cell?_spot hc0
      subst hspot
      refine ⟨b, off, rfl, fun i hi j v hv => ?_⟩
      have e9 : ((List.range len).map f).getD i [] = f i := by simp [List.getD_eq_getElem?_getD, hi]
      rw [e9] at hv
      have := (hf i hi).1 j v hv
      rw [Addr.add_mid, Addr.add_mid] at this
      exact this

theorem k_flat_bulk (f : Nat → List Nat × List Nat) (D0 D1 : Nat → DataW H) (l : List Nat) (h : ∀ i ∈ l, (f i).1.length + 1 ≤ Rows.uptoBulk (D0 i) ∧ (f i).2.length + 1 ≤ Rows.uptoBulk (D1 i)) : kwt (l.map f) ≤ Rows.uptoBulkAll (l.map fun i => .agg [D0 i, D1 i]) := by
  induction l with
  | nil => simp [kwt]
  | cons a l ih =>
    have h1 := h a (by simp)
    have h2 := ih (fun i hi => h i (by simp [hi]))
    simp only [kwt, List.map_cons, List.sum_cons, Rows.uptoBulkAll, Rows.uptoBulk] at h2 ⊢
    omega
/-- Pairs that came in. -/
theorem open_pairs {fuel : Nat} {cs : List Value} {x : DataW H × List MemPlace} (h : DataW.trod enc Tryd.prog W 0 (fun _ => true) true fuel 24 cs = some x) (hB : Rows.uptoBulk x.1 ≤ 1048576) :
    ∃ v ps, cs = [v] ∧ RdK W v ps ∧ kwt ps ≤ 1048576 := by
  rcases open_slice_pairs Tryd.underlying24 Tryd.underlying58 (by kernel_rfl) rfl rfl (by kernel_rfl) (by kernel_rfl) h with ⟨rfl, rfl⟩ | ⟨a, len, cap, m, n, V0, V1, D0, D1, P0, P1, rfl, _, hl, hm, hmm, rfl, hx⟩
  · exact ⟨_, [], rfl, ⟨none, 0, 0, [], [], rfl, rfl, Nat.le_refl _, by omega, fun i h => by omega, fun h => by omega⟩, by simp [kwt]⟩
  · simp only [if_true] at hmm
    simp only [Rows.uptoBulk] at hB
    obtain ⟨f, hf⟩ := choose_lt (α := List Nat × List Nat) (n := len) (p := fun i o => (Rd W (V0 i) o.1 ∧ Rd W (V1 i) o.2) ∧ o.1.length + 1 ≤ Rows.uptoBulk (D0 i) ∧ o.2.length + 1 ≤ Rows.uptoBulk (D1 i)) (by
      intro i hi
      obtain ⟨_, _, h0, h1⟩ := hx i (by omega)
      have hDi : Rows.uptoBulk (.agg [D0 i, D1 i]) ≤ Rows.uptoBulkAll ((List.range len).map fun i => .agg [D0 i, D1 i]) := o_bulk_part (List.mem_map.2 ⟨i, List.mem_range.2 hi, rfl⟩)
      simp only [Rows.uptoBulk, Rows.uptoBulkAll] at hDi
      obtain ⟨v, bs, e0, hr0, hb0⟩ := open_bytes h0
      obtain ⟨v', bs', e1, hr1, hb1⟩ := open_bytes h1
      simp only [List.cons.injEq, and_true] at e0 e1
      subst e0
      subst e1
      have g0 := bulk_bytes hb0
      have g1 := bulk_bytes hb1
      exact ⟨(bs, bs'), ⟨hr0 (by simp only at g0; omega), hr1 (by simp only at g1; omega)⟩, g0, g1⟩)
    refine ⟨_, (List.range len).map f, rfl, ⟨some a, len, cap, (List.range len).map V0, (List.range len).map V1, rfl, by simp, hl, by unfold maxLen at hm; omega, ?_, ?_⟩, ?_⟩
    · intro i hi
      have hc := (hf i hi).1
      simpa [List.getD_eq_getElem?_getD, hi] using hc
    · intro hp
      obtain ⟨b, off, spot⟩ := a
      have hc0 := (hx 0 (by omega)).1
      have hspot : spot = none := by simpa [Addr.add] using World.cell?_spot hc0
      subst hspot
      refine ⟨b, off, rfl, fun i hi => ?_⟩
      have hc := hx i (by omega)
      rw [Addr.add_mid, Addr.add_mid] at hc
      have := And.intro hc.1 hc.2.1
      simpa [List.getD_eq_getElem?_getD, hi, Nat.add_assoc] using this
    · have := k_flat_bulk f D0 D1 (List.range len) (fun i hi => (hf i (List.mem_range.1 hi)).2)
      omega
theorem pairB_kwt (ps : List (List Nat × List Nat)) (h : kwt ps ≤ 1048576) : (pairB ps).length ≤ 10 * kwt ps := by
  induction ps with
  | nil => simp [pairB]
  | cons x r ih =>
    have e : pairB (x :: r) = uv x.1.length ++ x.1 ++ (uv x.2.length ++ x.2) ++ pairB r := by simp [pairB]
    have ek : kwt (x :: r) = x.1.length + x.2.length + 2 + kwt r := by simp [kwt]
    have h1 := ih (by omega)
    have u1 := uv_len x.1.length (by omega)
    have u2 := uv_len x.2.length (by omega)
    rw [e, ek]
    simp only [List.length_append]
    omega


theorem OkP.pl {w : World} {ss : List (Nat × List (List Nat))} {ps : List (List Nat × List Nat)} {sv pv : Value} (h : OkP w ss ps sv pv) : ps.length ≤ 1048576 := by have := kwt_len ps; have := h.pw; omega
theorem OkP.pb {w : World} {ss : List (Nat × List (List Nat))} {ps : List (List Nat × List Nat)} {sv pv : Value} (h : OkP w ss ps sv pv) : (pairB ps).length ≤ 1000000000000 := by have := pairB_kwt ps h.pw; have := h.pw; omega

/-- Steps that came in. -/
theorem open_steps {fuel : Nat} {cs : List Value} {x : DataW H × List MemPlace} (h : DataW.trod enc Tryd.prog W 0 (fun _ => true) true fuel 23 cs = some x) (hB : Rows.uptoBulk x.1 ≤ 1048576) :
    ∃ v ss, cs = [v] ∧ RdS W v ss ∧ ss.length ≤ 1048576 ∧ ∀ s ∈ ss, s.2.length ≤ 1048576 := by
  rcases open_slice_pairs Tryd.underlying23 Tryd.underlying51 (by kernel_rfl) rfl rfl (by kernel_rfl) (by kernel_rfl) h with ⟨rfl, rfl⟩ | ⟨a, len, cap, m, n, V0, V1, D0, D1, P0, P1, rfl, _, hl, hm, hmm, rfl, hx⟩
  · exact ⟨_, [], rfl, ⟨none, 0, 0, [], rfl, rfl, Nat.le_refl _, by omega, fun i h => by omega, fun h => by omega⟩, by simp, by simp⟩
  · simp only [if_true] at hmm
    simp only [Rows.uptoBulk] at hB
    have hlen : len ≤ 1048576 := by
      have h1 := bulk_len ((List.range len).map fun i => DataW.agg [D0 i, D1 i])
      simp at h1
      omega
    obtain ⟨f, hf⟩ := choose_lt (α := Nat × List (List Nat)) (n := len) (p := fun i o => V0 i = .int .u16 (o.1 : Int) ∧ o.1 < 65536 ∧ RdD W (V1 i) o.2 ∧ o.2.length ≤ 1048576) (by
      intro i hi
      obtain ⟨_, _, h0, h1⟩ := hx i (by omega)
      have hDi : Rows.uptoBulk (.agg [D0 i, D1 i]) ≤ Rows.uptoBulkAll ((List.range len).map fun i => .agg [D0 i, D1 i]) := o_bulk_part (List.mem_map.2 ⟨i, List.mem_range.2 hi, rfl⟩)
      simp only [Rows.uptoBulk, Rows.uptoBulkAll] at hDi
      obtain ⟨b, e0, _, w0⟩ := DataW.trod_int Tryd.underlying48 h0
      obtain ⟨v', ds, e1, hr1, hb1⟩ := open_digs2 h1 (by show Rows.uptoBulk (D1 i) ≤ _; omega)
      simp only [List.cons.injEq, and_true] at e0 e1
      have hb : 0 ≤ b ∧ b < 65536 := by
        simp [Lit.wf, IntKind.min, IntKind.max, IntKind.signed, IntKind.bits] at w0
        omega
      subst e1
      exact ⟨(b.toNat, ds), by rw [e0, Int.toNat_of_nonneg hb.1], by show b.toNat < 65536; omega, hr1, hb1⟩)
    refine ⟨_, (List.range len).map f, rfl, ⟨some a, len, cap, (List.range len).map V1, rfl, by simp, hl, by unfold maxLen at hm; omega, ?_, ?_⟩, by simpa using hlen, ?_⟩
    · intro i hi
      have hc := hf i hi
      have := And.intro hc.2.1 hc.2.2.1
      simpa [List.getD_eq_getElem?_getD, hi] using this
    · intro hp
      obtain ⟨b, off, spot⟩ := a
      have hc0 := (hx 0 (by omega)).1
      have hspot : spot = none := by simpa [Addr.add] using World.cell?_spot hc0
      subst hspot
      refine ⟨b, off, rfl, fun i hi => ?_⟩
      have hc := hx i (by omega)
      rw [Addr.add_mid, Addr.add_mid, (hf i hi).1] at hc
      have := And.intro hc.1 hc.2.1
      simpa [List.getD_eq_getElem?_getD, hi, Nat.add_assoc] using this
    · intro s hs
      obtain ⟨i, hi, rfl⟩ := List.mem_map.1 hs
      exact (hf i (List.mem_range.1 hi)).2.2.2

/-- A path that came in. -/
theorem open_path {fuel : Nat} {cs : List Value} {x : DataW H × List MemPlace} (h : DataW.trod enc Tryd.prog W 0 (fun _ => true) true fuel 26 cs = some x) (hB : Rows.uptoBulk x.1 ≤ 1048576) :
    ∃ ss ps sv pv, cs = [sv, pv] ∧ OkP W ss ps sv pv := by
  obtain ⟨xs, n, _, rfl, hl, hlen, hf⟩ := DataW.trod_struct Tryd.underlying26 h
  rw [show Tryd.prog.cellsOf 26 = 2 from by kernel_rfl] at hl
  match xs, hlen with
  | [y0, y1], _ =>
    have c0 : Tryd.prog.cellsOf 23 = 1 := by kernel_rfl
    have c1 : Tryd.prog.cellsOf 24 = 1 := by kernel_rfl
    have f0 : DataW.trod enc Tryd.prog W 0 (fun _ => true) true n 23 ((cs.drop 0).take 1) = some y0 := by have this : DataW.trod enc Tryd.prog W 0 (fun _ => true) true n 23 ((cs.drop 0).take (Tryd.prog.cellsOf 23)) = some y0 := hf 0 _ rfl; rw [c0] at this; exact this
    have f1 : DataW.trod enc Tryd.prog W 0 (fun _ => true) true n 24 ((cs.drop 1).take 1) = some y1 := by have this : DataW.trod enc Tryd.prog W 0 (fun _ => true) true n 24 ((cs.drop 1).take (Tryd.prog.cellsOf 24)) = some y1 := hf 1 _ rfl; rw [c1] at this; exact this
    simp only [List.map_cons, List.map_nil, Rows.uptoBulk, Rows.uptoBulkAll] at hB
    obtain ⟨sv, ss, e0, hs, hsl, hkl⟩ := open_steps f0 (by omega)
    obtain ⟨pv, ps, e1, hp, hpw⟩ := open_pairs f1 (by omega)
    refine ⟨ss, ps, sv, pv, ?_, ⟨hs, hp, hsl, hkl, hpw⟩⟩
    have hd : cs.drop 2 = [] := List.drop_eq_nil_of_le (by omega)
    have this := o_split cs 0 1
    rw [e0, o_split cs 1 1, e1, hd, List.drop_zero] at this
    rw [this]; rfl

/-- A question that came in. -/
theorem open_askh {fuel : Nat} {cs : List Value} {x : DataW H × List MemPlace} (h : DataW.trod enc Tryd.prog W 0 (fun _ => true) true fuel 30 cs = some x) (hB : Rows.uptoBulk x.1 ≤ 1048576) :
    ∃ (q : AskH) (kv sv pv : Value), cs = askH q kv sv pv ∧ OkH W q kv sv pv := by
  obtain ⟨xs, n, _, rfl, hl, hlen, hf⟩ := DataW.trod_struct Tryd.underlying30 h
  rw [show Tryd.prog.cellsOf 30 = 36 from by kernel_rfl] at hl
  match xs, hlen with
  | [y0, y1, y2, y3], _ =>
    have c3 : Tryd.prog.cellsOf 3 = 1 := by kernel_rfl
    have cb : Tryd.prog.cellsOf 22 = 1 := by kernel_rfl
    have ck : Tryd.prog.cellsOf 26 = 2 := by kernel_rfl
    have cd : Tryd.prog.cellsOf 28 = 32 := by kernel_rfl
    have f0 : DataW.trod enc Tryd.prog W 0 (fun _ => true) true n 3 ((cs.drop 0).take 1) = some y0 := by have this : DataW.trod enc Tryd.prog W 0 (fun _ => true) true n 3 ((cs.drop 0).take (Tryd.prog.cellsOf 3)) = some y0 := hf 0 _ rfl; rw [c3] at this; exact this
    have f1 : DataW.trod enc Tryd.prog W 0 (fun _ => true) true n 22 ((cs.drop 1).take 1) = some y1 := by have this : DataW.trod enc Tryd.prog W 0 (fun _ => true) true n 22 ((cs.drop 1).take (Tryd.prog.cellsOf 22)) = some y1 := hf 1 _ rfl; rw [cb] at this; exact this
    have f2 : DataW.trod enc Tryd.prog W 0 (fun _ => true) true n 26 ((cs.drop 2).take 2) = some y2 := by have this : DataW.trod enc Tryd.prog W 0 (fun _ => true) true n 26 ((cs.drop 2).take (Tryd.prog.cellsOf 26)) = some y2 := hf 2 _ rfl; rw [ck] at this; exact this
    have f3 : DataW.trod enc Tryd.prog W 0 (fun _ => true) true n 28 ((cs.drop 4).take 32) = some y3 := by have this : DataW.trod enc Tryd.prog W 0 (fun _ => true) true n 28 ((cs.drop 4).take (Tryd.prog.cellsOf 28)) = some y3 := hf 3 _ rfl; rw [cd] at this; exact this
    simp only [List.map_cons, List.map_nil, Rows.uptoBulk, Rows.uptoBulkAll] at hB
    obtain ⟨z, e0, _, w0⟩ := DataW.trod_int Tryd.underlying3 f0
    obtain ⟨kv, bs, e1, hr1, hb1⟩ := open_bytes f1
    have g1 := bulk_bytes hb1
    obtain ⟨ss, ps, sv, pv, e2, hP⟩ := open_path f2 (by omega)
    obtain ⟨r, e3, r1, r2⟩ := open_dig f3
    refine ⟨⟨z, bs, ss, ps, r⟩, kv, sv, pv, ?_, ⟨int_of_wf w0, hr1 (by omega), by show bs.length ≤ _; omega, hP, ⟨r1, r2⟩⟩⟩
    have hd : cs.drop 36 = [] := List.drop_eq_nil_of_le (by omega)
    have this := o_split cs 0 1
    rw [e0, o_split cs 1 1, e1, o_split cs 2 2, e2, o_split cs 4 32, e3, hd, List.drop_zero] at this
    rw [this]
    simp [askH]

set_option maxRecDepth 100000 in
theorem open_askhv {b0 : Nat} {v : Value} {d : DataW H} {ps : List MemPlace} (hv : Value.okWide Tryd.prog W .any b0 30 v) (h : DataW.Trod enc Tryd.prog W 0 (fun _ => true) true 30 v d ps) (hB : Rows.uptoBulk d ≤ 1048576) :
    ∃ (q : AskH) (kv sv pv : Value), v = .agg (askH q kv sv pv).toArray ∧ OkH W q kv sv pv := by
  unfold Value.okWide at hv
  rw [Tryd.underlying30] at hv
  obtain ⟨cs, rfl, _, _⟩ := hv
  obtain ⟨fuel, hf⟩ := h
  obtain ⟨q, kv, sv, pv, e, h1⟩ := open_askh hf hB
  refine ⟨q, kv, sv, pv, ?_, h1⟩
  simp only [Value.cells] at e
  rw [← e]

set_option maxRecDepth 100000 in
theorem open_pathv {b0 : Nat} {v : Value} {d : DataW H} {ps : List MemPlace} (hv : Value.okWide Tryd.prog W .any b0 26 v) (h : DataW.Trod enc Tryd.prog W 0 (fun _ => true) true 26 v d ps) (hB : Rows.uptoBulk d ≤ 1048576) :
    ∃ ss ps sv pv, v = .agg #[sv, pv] ∧ OkP W ss ps sv pv := by
  unfold Value.okWide at hv
  rw [Tryd.underlying26] at hv
  obtain ⟨cs, rfl, _, _⟩ := hv
  obtain ⟨fuel, hf⟩ := h
  obtain ⟨ss, ps, sv, pv, e, h1⟩ := open_path hf hB
  refine ⟨ss, ps, sv, pv, ?_, h1⟩
  simp only [Value.cells] at e
  have := congrArg List.toArray e
  simp only [Array.toArray_toList] at this
  rw [this]
end
end Go.Proofs.YtilhfladhgmldaaDoor
namespace Go.Proofs.YtilhfladhgmldaaDoor
open Go.RowKit Go.BigFrame
set_option linter.unusedVariables false
set_option linter.unusedSimpArgs false

theorem h_mid {w : World} {g n : Nat} {t : TypeId} {fr : Nat × Nat} (a b c : List Value) (h : w.heap[g]? = some (.cells (a ++ (b ++ c)).toArray t fr)) (hn : a.length = n) : w.rangeAt g n b := by
  subst hn
  intro j v hv
  have hj := (List.getElem?_eq_some_iff.1 hv).1
  rw [cell_of_row w g _ _ t fr h, List.getElem?_toArray, List.getElem?_append_right (by omega), Nat.add_sub_cancel_left, List.getElem?_append_left hj, hv]
theorem askH_cells {w : World} {g : Nat} {t : TypeId} {fr : Nat × Nat} {q : AskH} {kv sv pv : Value} (h : w.heap[g]? = some (.cells (askH q kv sv pv).toArray t fr)) :
    w.cell? ⟨g, 0, none⟩ = some (.int .i64 q.z) ∧ w.cell? ⟨g, 1, none⟩ = some kv ∧ w.cell? ⟨g, 2, none⟩ = some sv ∧ w.cell? ⟨g, 3, none⟩ = some pv ∧ w.rangeAt g 4 (q.r.map u8) := by
  unfold askH at h
  have h4 := h_mid (n := 4) [.int .i64 q.z, kv, sv, pv] (q.r.map u8) [] (by simpa using h) rfl
  have c : ∀ j v, ([.int .i64 q.z, kv, sv, pv] : List Value)[j]? = some v → w.cell? ⟨g, j, none⟩ = some v := by
    intro j v hv
    rw [cell_of_row w g _ _ t fr h, List.getElem?_toArray, List.getElem?_append_left (List.getElem?_eq_some_iff.1 hv).1, hv]
  exact ⟨c 0 _ rfl, c 1 _ rfl, c 2 _ rfl, c 3 _ rfl, h4⟩

theorem wpList_load_midG {P : Program} {ops : Array Oper} {rest : List Oper} {op : Oper} {a : Act} {w : World} {Q : Exit → Act → World → Prop} (hw : Region.wanted op (yielded ops a.tmps) = true) (ty : TypeId) (x : Operand) (ho : op.op = .load ty x)
    (b o : Nat) (hx : a.eval x = .pointer (some ⟨b, o, none⟩)) (cs : List Value) (d : TypeDesc) (hc : w.rangeAt b o cs)
    (hu : P.underlying ty = some d) (hd : d.isRow = true) (hi : (P.info? ty).map (·.size) = some cs.length)
    (h : wpList P ops Q rest (a.put op.dst (.agg cs.toArray)) w) : wpList P ops Q (op :: rest) a w :=
  wpList_want hw fun _ hK => wp_load_mid ty x ho b o hx cs d hc hu hd hi (hK _ _ h)

theorem Tryd.size_askh : (Tryd.prog.info? 30).map (·.size) = some 36 := by kernel_rfl
theorem OkP.s9 {w : World} {ss : List (Nat × List (List Nat))} {ps : List (List Nat × List Nat)} {sv pv : Value} (h : OkP w ss ps sv pv) : ss.length ≤ 1000000000000 := by have := h.sl; omega
theorem OkP.p9 {w : World} {ss : List (Nat × List (List Nat))} {ps : List (List Nat × List Nat)} {sv pv : Value} (h : OkP w ss ps sv pv) : ps.length ≤ 1000000000000 := by have := h.pl; omega
theorem OkP.k9 {w : World} {ss : List (Nat × List (List Nat))} {ps : List (List Nat × List Nat)} {sv pv : Value} (h : OkP w ss ps sv pv) : ∀ s ∈ ss, s.2.length ≤ 1000000000 := fun s hs => by have := h.kl s hs; omega
end Go.Proofs.YtilhfladhgmldaaDoor
namespace Go.Proofs.YtilhfladhgmldaaDoor
open Go.RowKit Go.BigFrame
set_option linter.unusedVariables false
set_option linter.unusedSimpArgs false

theorem comC_le (z : Int) (a b : List Nat) (hw : widthB z = true) : comC z a b ≤ 64 := by
  have h := width_le hw
  have h9 : ∀ n i, comL a b n i ≤ i + n := by
    intro n
    induction n with
    | zero => intro i; exact Nat.le_refl _
    | succ n ih =>
      intro i
      rw [comL]
      split
      · have := ih (i + 1); omega
      · omega
  unfold comC
  split
  · have := h9 (2 * z.toNat) 0; omega
  · omega
theorem valH_hit {key : List Nat} {ps : List (List Nat × List Nat)} {i : Nat} (hi : i < ps.length) (hn : ∀ j, j < i → (ps.getD j ([], [])).1 ≠ key) (h : (ps.getD i ([], [])).1 = key) : valH key ps = some (ps.getD i ([], [])).2 := by
  rw [valH_skip ps i (by omega) hn, List.drop_eq_getElem_cons hi, valH]
  rw [List.getD_eq_getElem?_getD, List.getElem?_eq_getElem hi] at h ⊢
  simp only [Option.getD_some] at h ⊢
  rw [if_pos h]
theorem valH_miss {key : List Nat} {ps : List (List Nat × List Nat)} (hn : ∀ j, j < ps.length → (ps.getD j ([], [])).1 ≠ key) : valH key ps = none := by
  rw [valH_skip ps ps.length (Nat.le_refl _) hn, List.drop_length]; rfl

set_option maxRecDepth 100000 in
set_option maxHeartbeats 4000000 in
theorem hcheckOther_walk (q : AskH) (ov : Value) (other : List Nat) (kv sv pv : Value) (w : World) (hq : OkH w q kv sv pv) (ho : Rd w ov other) (hol : other.length ≤ 1048576) (hT : Tabs w) :
    Calls Tryd.prog 7 #[.agg (askH q kv sv pv).toArray, ov] w fun e w' => e = .returned (.bool true) ∧ Below w.heap.size w w' := by
  have HT := hide hT
  have HQ := hide hq
  have HO := hide ho
  obtain ⟨ka, kn, kc, rfl, _⟩ := id hq.k
  obtain ⟨sa, sn, sc, _, rfl, hsn, _⟩ := id hq.P.s
  obtain ⟨pa, pn, pc, _, _, rfl, hpn, _⟩ := id hq.P.p
  obtain ⟨oa, on, oc, rfl, hon, _⟩ := id ho
  have HP4 := hide (hq.P.p.cells.2.2.2)
  have hslb := hq.P.sl
  have hplb := hq.P.pl
  have HSN := hide hsn
  have HPN := hide hpn
  have HON := hide hon
  have hsb : sn ≤ 1048576 := by omega
  have hpb9 : pn ≤ 1048576 := by omega
  have hob : on ≤ 1048576 := by omega
  clear hT hq ho hsn hpn hon hslb hplb hol
  have HG := hide (heap_alloc_new w (.cells (askH q (.slice ka kn kc) (.slice sa sn sc) (.slice pa pn pc)).toArray 30))
  have HK0 := hide ((Kept.refl [] w).alloc (.cells (askH q (.slice ka kn kc) (.slice sa sn sc) (.slice pa pn pc)).toArray 30))
  obtain ⟨W, hW⟩ : ∃ W, w.alloc (.cells (askH q (.slice ka kn kc) (.slice sa sn sc) (.slice pa pn pc)).toArray 30) = W := ⟨_, rfl⟩
  rw [hW] at HG HK0
  go_enter Tryd.func7, Tryd.ntmps7
  go_wp2_with fail
  clear hW
  refine Calls.mono (hawake_any W ((unhide HT).k (unhide HK0))) ?_
  rintro e w1 ⟨rfl, k1⟩
  have HG1 := hide (k1.heap (unhide HG) (by simp))
  have HK1 := hide ((unhide HK0).trans k1 (by simp))
  clear HG HK0 k1
  obtain ⟨c0, c1, c2, c3, r4⟩ := askH_cells (unhide HG1)
  clear r4
  go_wp2_with fail
  refine Calls.mono (hrootOf_any q.z _ q.k _ _ q.ss q.ps _ (unhide HQ).z ((unhide HQ).k.old (unhide HK1) (by simp)) ((unhide HQ).P.s.old (unhide HK1)) ((unhide HQ).P.p.old (unhide HK1)) ((unhide HT).k (unhide HK1)) (unhide HQ).P.pb (unhide HQ).P.s9 (unhide HQ).P.p9 (unhide HQ).P.k9) ?_
  rintro e w2 ⟨⟨v2, rfl, r2⟩, k2⟩
  have HM1 := hide (fun h h1 h2 h3 => oth (z := q.z) (key := q.k) (other := other) (ss := q.ss) (ps := q.ps) h h1 h2 h3)
  have HM2 := hide (fun h => hfE_zero (rtE_zero (z := q.z) (key := q.k) (ss := q.ss) (ps := q.ps) h).1)
  have HM3 := hide (by unfold rtV; rfl : rtV q.z other q.ss q.ps = if rtE q.z other q.ss q.ps = 0 then valH other q.ps else none)
  have HDG := hide (rtD_dg q.z q.k q.ss q.ps)
  have HCO := hide (fun w0 (hw0 : Kept [] w w0) => hrootOf_any q.z (.slice oa on oc) other (.slice sa sn sc) (.slice pa pn pc) q.ss q.ps w0 (unhide HQ).z ((unhide HO).old hw0 (by simp)) ((unhide HQ).P.s.old hw0) ((unhide HQ).P.p.old hw0) ((unhide HT).k hw0) (unhide HQ).P.pb (unhide HQ).P.s9 (unhide HQ).P.p9 (unhide HQ).P.k9)
  have HDO := hide (rtD_dg q.z other q.ss q.ps)
  obtain ⟨va, vn, vc, rfl, _⟩ := id r2
  clear r2
  generalize rtV q.z other q.ss q.ps = VO at *
  generalize rtD q.z other q.ss q.ps = DO at *
  generalize rtE q.z other q.ss q.ps = EO at *
  generalize rtD q.z q.k q.ss q.ps = D at *
  generalize rtE q.z q.k q.ss q.ps = E at *
  generalize (rtV q.z q.k q.ss q.ps).isSome = bV at *
  have hdl := (unhide HDG).1
  have HSZ := hide (Tryd.szD hdl)
  have kN := (k2.alloc (.cells (zb 32) 28)).setRow (g := w2.heap.size) (Or.inr k2.size) (brow D)
  have HD3 := hide (setRow_heap (w2.alloc (.cells (zb 32) 28)) w2.heap.size (zb 32) (brow D) 28 (0, 0) (heap_alloc_new _ _))
  have HG3 := hide (kN.heap (unhide HG1) (by simp))
  have HK3 := hide ((unhide HK1).trans kN (by simp))
  clear kN k2 HG1 HK1 c0 c1 c2 c3
  obtain ⟨c0, c1, c2, c3, r4⟩ := askH_cells (unhide HG3)
  clear r4
  by_cases hE : E = 0
  case neg =>
    have hE' : ¬ (E : Int) = 0 := by omega
    clear hE
    go_wp2_with (first
      | (rw [zb32]; refine wpList_store_row rfl 28 _ _ rfl w2.heap.size (brow D) rfl rfl _ (zb 32) (heap_alloc_new _ _) (unhide HSZ) (by rw [zb_size, brow_size, hdl]) (brow_one _) ?_))
    go_ret
    exact ⟨rfl, (unhide HK3).below (Nat.le_refl _) (by simp)⟩
  case pos =>
    obtain ⟨hw, hk64⟩ := unhide HM2 hE
    by_cases hp : pn = 0
    · have hp' : ((pn : Int) == 0) = true := by simp; omega
      have HP := hide hp
      subst hE
      clear hp
      go_wp2_with (first
        | (rw [zb32]; refine wpList_store_row rfl 28 _ _ rfl w2.heap.size (brow D) rfl rfl _ (zb 32) (heap_alloc_new _ _) (unhide HSZ) (by rw [zb_size, brow_size, hdl]) (brow_one _) ?_))
      go_ret
      exact ⟨rfl, (unhide HK3).below (Nat.le_refl _) (by simp)⟩
    · have hp' : ((pn : Int) == 0) = false := by simp; omega
      by_cases hoo : 64 < on
      · have hoo' : decide ((64 : Int) < on) = true := by simp; omega
        have HP := hide hp
        subst hE
        clear hp
        go_wp2_with (first
          | (rw [zb32]; refine wpList_store_row rfl 28 _ _ rfl w2.heap.size (brow D) rfl rfl _ (zb 32) (heap_alloc_new _ _) (unhide HSZ) (by rw [zb_size, brow_size, hdl]) (brow_one _) ?_))
        go_ret
        exact ⟨rfl, (unhide HK3).below (Nat.le_refl _) (by simp)⟩
      · have hoo' : decide ((64 : Int) < on) = false := by simp; omega
        have HM4 := hide (fun h3 => unhide HM1 hE (by rw [unhide HPN]; exact hp) (by rw [unhide HON]; omega) h3)
        have HP := hide hp
        subst hE
        clear hp hoo
        go_wp2_with (first
          | (rw [zb32]; refine wpList_store_row rfl 28 _ _ rfl w2.heap.size (brow D) rfl rfl _ (zb 32) (heap_alloc_new _ _) (unhide HSZ) (by rw [zb_size, brow_size, hdl]) (brow_one _) ?_))
        obtain ⟨X, hX⟩ : ∃ X, (w2.alloc (.cells (zb 32) 28)).setRow w2.heap.size (brow D) = X := ⟨_, rfl⟩
        rw [hX] at HD3 HG3 HK3 ⊢
        clear hX c0 c1 c2 c3 HM1 HM2
        refine Calls.mono (key_all q.z _ q.k _ (unhide HQ).z ((unhide HQ).k.old (unhide HK3) (by simp)) (by omega) ((unhide HT).k (unhide HK3))) ?_
        rintro e w4 ⟨rfl, k4⟩
        rw [show sumE q.z = 0 by unfold sumE; rw [hw]; rfl, show sumD q.z (2 :: q.k) = keyS q.z q.k from rfl]
        have HA := hide (keyS_dg q.z q.k)
        have hal := (unhide HA).1
        have HSA := hide (Tryd.szD hal)
        have kN := (k4.alloc (.cells (zb 32) 28)).setRow (g := w4.heap.size) (Or.inr k4.size) (brow (keyS q.z q.k))
        have HA5 := hide (setRow_heap (w4.alloc (.cells (zb 32) 28)) w4.heap.size (zb 32) (brow (keyS q.z q.k)) 28 (0, 0) (heap_alloc_new _ _))
        have HD5 := hide (kN.heap (unhide HD3) (by simp))
        have HG5 := hide (kN.heap (unhide HG3) (by simp))
        have HK5 := hide ((unhide HK3).trans kN (by simp))
        have hl5 := Nat.lt_of_lt_of_le (lt_of_block (unhide HD3)) k4.size
        clear kN k4 HD3 HG3 HK3
        obtain ⟨c0, c1, c2, c3, r4⟩ := askH_cells (unhide HG5)
        clear r4
        go_wp2_with (first
          | (rw [zb32]; refine wpList_store_row rfl 28 _ _ rfl w4.heap.size (brow (keyS q.z q.k)) rfl rfl _ (zb 32) (heap_alloc_new _ _) (unhide HSA) (by rw [zb_size, brow_size, hal]) (brow_one _) ?_))
        obtain ⟨X5, hX5⟩ : ∃ X, (w4.alloc (.cells (zb 32) 28)).setRow w4.heap.size (brow (keyS q.z q.k)) = X := ⟨_, rfl⟩
        rw [hX5] at HA5 HD5 HG5 HK5 ⊢
        clear hX5 c0 c1 c2 c3
        refine Calls.mono (key_all q.z _ other _ (unhide HQ).z ((unhide HO).old (unhide HK5) (by simp)) (by rw [unhide HON]; omega) ((unhide HT).k (unhide HK5))) ?_
        rintro e w6 ⟨rfl, k6⟩
        rw [show sumE q.z = 0 by unfold sumE; rw [hw]; rfl, show sumD q.z (2 :: other) = keyS q.z other from rfl]
        have HB := hide (keyS_dg q.z other)
        have hbl := (unhide HB).1
        have HSB := hide (Tryd.szD hbl)
        have kN := (k6.alloc (.cells (zb 32) 28)).setRow (g := w6.heap.size) (Or.inr k6.size) (brow (keyS q.z other))
        have HB7 := hide (setRow_heap (w6.alloc (.cells (zb 32) 28)) w6.heap.size (zb 32) (brow (keyS q.z other)) 28 (0, 0) (heap_alloc_new _ _))
        have HA7 := hide (kN.heap (unhide HA5) (by simp))
        have HD7 := hide (kN.heap (unhide HD5) (by simp))
        have HG7 := hide (kN.heap (unhide HG5) (by simp))
        have HK7 := hide ((unhide HK5).trans kN (by simp))
        clear kN k6 HD5 HG5 HK5 HA5
        obtain ⟨c0, c1, c2, c3, r4⟩ := askH_cells (unhide HG7)
        clear r4
        have HFE := hide (by simp [formedE, hw, keyS_form hw q.k, keyS_form hw other] : formedE q.z [keyS q.z q.k, keyS q.z other] = 0)
        have HCL := hide (comC_le q.z (keyS q.z q.k) (keyS q.z other) hw)
        generalize keyS q.z q.k = A9 at *
        generalize keyS q.z other = B9 at *
        go_wp2_with (first
          | (rw [zb32]; refine wpList_store_row rfl 28 _ _ rfl w6.heap.size (brow B9) rfl rfl _ (zb 32) (heap_alloc_new _ _) (unhide HSB) (by rw [zb_size, brow_size, hbl]) (brow_one _) ?_)
          | (refine wpList_load_row rfl 28 _ rfl w6.heap.size rfl _ (brow B9) (0, 0) _ (unhide HB7) Tryd.underlying28 rfl (unhide HSB) ?_)
          | (refine wpList_load_row rfl 28 _ rfl w4.heap.size rfl _ (brow A9) (0, 0) _ (unhide HA7) Tryd.underlying28 rfl (unhide HSA) ?_))
        obtain ⟨X7, hX7⟩ : ∃ X, (w6.alloc (.cells (zb 32) 28)).setRow w6.heap.size (brow B9) = X := ⟨_, rfl⟩
        rw [hX7] at HA7 HB7 HD7 HG7 HK7 ⊢
        clear hX7 c0 c1 c2 c3
        refine Calls.mono (common_any q.z A9 B9 _ (unhide HQ).z (unhide HA) (unhide HB)) ?_
        rintro e w8 ⟨rfl, k8⟩
        rw [unhide HFE]
        have HD8 := hide (k8.heap (unhide HD7) (by simp))
        have HG8 := hide (k8.heap (unhide HG7) (by simp))
        have HK8 := hide ((unhide HK7).trans k8 (by simp))
        clear k8 HA7 HB7 HD7 HG7 HK7 HFE
        obtain ⟨c0, c1, c2, c3, r4⟩ := askH_cells (unhide HG8)
        clear r4
        have hcl := unhide HCL
        clear HCL
        generalize comC q.z A9 B9 = CC at *
        go_wp2_with fail
        clear c0 c1 c2 c3
        refine Calls.mono (unhide HCO w8 (unhide HK8)) ?_
        rintro e w9 ⟨⟨v9, rfl, r9⟩, k9⟩
        have HV9 := hide r9
        obtain ⟨ua, un, uc, rfl, hun, _⟩ := id r9
        have HUN := hide hun
        clear r9 hun
        have hdo := (unhide HDO).1
        have HSO := hide (Tryd.szD hdo)
        have kN := (k9.alloc (.cells (zb 32) 28)).setRow (g := w9.heap.size) (Or.inr k9.size) (brow DO)
        have kS := ((Kept.refl [] w9).alloc (.cells (zb 32) 28)).setRow (g := w9.heap.size) (Or.inr (Nat.le_refl _)) (brow DO)
        have HO10 := hide (setRow_heap (w9.alloc (.cells (zb 32) 28)) w9.heap.size (zb 32) (brow DO) 28 (0, 0) (heap_alloc_new _ _))
        have HD10 := hide (kN.heap (unhide HD8) (by simp))
        have HG10 := hide (kN.heap (unhide HG8) (by simp))
        have HK10 := hide ((unhide HK8).trans kN (by simp))
        have HV10 := hide ((unhide HV9).old kS (by simp))
        clear kN kS k9 HD8 HG8 HK8 HV9 HCO
        obtain ⟨c0, c1, c2, c3, r4⟩ := askH_cells (unhide HG10)
        clear r4
        by_cases hcs : CC < sn
        · have hcs' : (CC : Int) < sn := by omega
          go_wp2_with (first
            | (rw [zb32]; refine wpList_store_row rfl 28 _ _ rfl w9.heap.size (brow DO) rfl rfl _ (zb 32) (heap_alloc_new _ _) (unhide HSO) (by rw [zb_size, brow_size, hdo]) (brow_one _) ?_))
          go_ret
          exact ⟨rfl, (unhide HK10).below (Nat.le_refl _) (by simp)⟩
        · have hcs' : ¬ (CC : Int) < sn := by omega
          obtain ⟨hEO, hDO⟩ := unhide HM4 (by rw [unhide HSN]; omega)
          have HVO := hide (by rw [unhide HM3, if_pos hEO] : VO = valH other q.ps)
          have heq := fun W => dig_eq W DO D hdo hdl
          rw [decide_eq_true hDO] at heq
          subst hEO
          clear hDO hcs
          go_wp2_with (first
            | (rw [zb32]; refine wpList_store_row rfl 28 _ _ rfl w9.heap.size (brow DO) rfl rfl _ (zb 32) (heap_alloc_new _ _) (unhide HSO) (by rw [zb_size, brow_size, hdo]) (brow_one _) ?_))
          obtain ⟨X9, hX9⟩ : ∃ X, (w9.alloc (.cells (zb 32) 28)).setRow w9.heap.size (brow DO) = X := ⟨_, rfl⟩
          rw [hX9] at HO10 HD10 HG10 HK10 HV10 ⊢
          clear hX9 c0 c1 c2 c3 HG10 hp' hoo'
          rw [show decide (CC < sn) = false from decide_eq_false (by omega)]
          clear hcs'
          go_loopw [103] (fun t103 wr => ∃ (i : Nat), i ≤ pn ∧ t103 = .int .i64 i ∧ Hid (∀ j, j < i → (q.ps.getD j ([], [])).1 ≠ other) ∧ Hid (Kept [] w wr) ∧ Hid (wr.heap[w9.heap.size]? = some (.cells (brow DO) 28 (0, 0))) ∧ Hid (wr.heap[w2.heap.size]? = some (.cells (brow D) 28 (0, 0))) ∧ Hid (Rd wr (.slice ua un uc) (VO.getD []))) (fun t _ => pn - (intOf t).toNat)
          case atStart => exact ⟨0, Nat.zero_le _, rfl, hide (by intro j hj; omega), HK10, HO10, HD10, HV10⟩
          case round =>
            obtain ⟨i, hi, rfl, HN, HK, HOr, HDr, HVr⟩ := hrel
            by_cases hlt : i < pn
            · have hlt' : (i : Int) < pn := by omega
              obtain ⟨b, o, x, y, rfl, d1, d2, r1, r2⟩ := unhide HP4 i hlt
              have q1 := (unhide HK).cell d1 (by simp)
              have q2 := (unhide HK).cell d2 (by simp)
              have HX := hide (r1.old (unhide HK) (by simp))
              have HY := hide (r2.old (unhide HK) (by simp))
              have HHit := hide (fun h => valH_hit (key := other) (ps := q.ps) (i := i) (by rw [unhide HPN]; exact hlt) (unhide HN) h)
              clear d1 d2 r1 r2
              generalize hpi : q.ps.getD i ([], []) = pi at HX HY HHit
              have HPI := hide hpi
              clear hpi
              obtain ⟨pk, pw⟩ := pi
              simp only at HX HY HHit
              obtain ⟨a8, m8, c8, rfl, hm8, _⟩ := id (unhide HX)
              obtain ⟨a9, m9, c9, rfl, hm9, _⟩ := id (unhide HY)
              have HKa := hide ((Kept.refl [] wr).alloc (.cells #[.slice a8 m8 c8, .slice a9 m9 c9] 58))
              have HCW := hide (heap_alloc_new wr (.cells #[.slice a8 m8 c8, .slice a9 m9 c9] 58))
              have HKB := hide ((unhide HK).trans (unhide HKa) (by simp))
              clear hm8 hm9
              go_wp2_with fail
              refine Calls.mono (same_any _ _ pk other _ ((unhide HX).old (unhide HKa) (by simp)) ((unhide HO).old (unhide HKB) (by simp))) ?_
              rintro e w11 ⟨rfl, n11, rfl⟩
              have k11 := (unhide HKa).trans ((Kept.refl [] _).drewN n11) (by simp)
              have HK11 := hide ((unhide HK).trans k11 (by simp))
              have HO11 := hide (k11.heap (unhide HOr) (by simp))
              have HD11 := hide (k11.heap (unhide HDr) (by simp))
              have HV11 := hide ((unhide HVr).old k11 (by simp))
              have HY11 := hide ((unhide HY).old k11 (by simp))
              have HC11 := hide (((Kept.refl [] (wr.alloc (.cells #[.slice a8 m8 c8, .slice a9 m9 c9] 58))).drewN n11).heap (unhide HCW) (by simp))
              clear k11 q1 q2 HKa HCW HKB HX HY
              generalize (wr.alloc (.cells #[.slice a8 m8 c8, .slice a9 m9 c9] 58)).drewN n11 = w11 at *
              have cy := cell_of_row _ wr.heap.size 1 _ _ _ (unhide HC11)
              by_cases hE : pk = other
              · rw [decide_eq_true hE]
                have HVh := hide ((unhide HVO).trans (unhide HHit hE))
                have hsome : VO.isSome = true := by rw [unhide HVh]; rfl
                rw [unhide HVh] at HV11
                rw [hsome]
                clear hE hsome
                go_wp2_with (first
                  | (refine wpList_load_rowG rfl 28 _ rfl w9.heap.size rfl _ (brow DO) (0, 0) _ (unhide HO11) Tryd.underlying28 rfl (unhide HSO) ?_)
                  | (refine wpList_load_rowG rfl 28 _ rfl w2.heap.size rfl _ (brow D) (0, 0) _ (unhide HD11) Tryd.underlying28 rfl (unhide HSZ) ?_))
                refine Calls.mono (same_any _ _ pw pw _ (unhide HV11) (unhide HY11)) ?_
                rintro e w12 ⟨rfl, n12, rfl⟩
                rw [decide_eq_true rfl]
                have HK12 := hide ((unhide HK11).drewN n12)
                go_wp2
                go_ret
                exact ⟨by simp, (unhide HK12).below (Nat.le_refl _) (by simp)⟩
              · rw [decide_eq_false hE]
                have HN2 := hide (fun j (hj : j < i + 1) => by
                  rcases Nat.lt_or_ge j i with h9 | h9
                  · exact unhide HN j h9
                  · obtain rfl : j = i := by omega
                    rw [unhide HPI]; exact hE : ∀ j, j < i + 1 → (q.ps.getD j ([], [])).1 ≠ other)
                clear hE
                go_wp2
                go_roundw
                case rel => exact ⟨i + 1, hlt, by go_num, HN2, HK11, HO11, HD11, HV11⟩
                case measure => simp [intOf]; omega
            · have hlt' : ¬ (i : Int) < pn := by omega
              obtain rfl : i = pn := by omega
              have HVm := hide ((unhide HVO).trans (valH_miss (key := other) (ps := q.ps) (by rw [unhide HPN]; exact unhide HN)))
              have hsome : VO.isSome = false := by rw [unhide HVm]; rfl
              rw [hsome]
              have hun : un = 0 := by have h9 := unhide HUN; rw [unhide HVm] at h9; simpa using h9.symm
              subst hun
              clear hsome
              go_wp2_with (first
                | (refine wpList_load_rowG rfl 28 _ rfl w9.heap.size rfl _ (brow DO) (0, 0) _ (unhide HOr) Tryd.underlying28 rfl (unhide HSO) ?_)
                | (refine wpList_load_rowG rfl 28 _ rfl w2.heap.size rfl _ (brow D) (0, 0) _ (unhide HDr) Tryd.underlying28 rfl (unhide HSZ) ?_))
              go_ret
              exact ⟨by simp, (unhide HK).below (Nat.le_refl _) (by simp)⟩
end Go.Proofs.YtilhfladhgmldaaDoor
