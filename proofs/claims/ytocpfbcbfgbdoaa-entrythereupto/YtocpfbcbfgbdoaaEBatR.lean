import Derived.Test.YtocpfbcbfgbdoaaEAw
namespace Go.Proofs.Ytocpfbcbfgbdoaa
open Go.RowKit Go.BigFrame
set_option linter.unusedVariables false
set_option linter.unusedSimpArgs false

set_option maxRecDepth 100000 in
set_option maxHeartbeats 2000000 in
theorem twinEntries_any (v : Value) (es : List En) (w : World) (h : RdN w v es) (hl : es.length ≤ 1048576) :
    Calls Try.prog 35 #[v] w fun r w' => ∃ v', r = .returned v' ∧ NewN w.heap.size w' v' es ∧ Kept [] w w' := by
  obtain ⟨ao, len, cap, kv, vv, rfl, h1, h2, h3, h4, h5⟩ := h
  have H4 := hide h4
  have H5 := hide h5
  clear h4 h5
  subst h1
  go_enter Try.func35, Try.ntmps35
  go_wp2_with fail
  go_loopw [8, 3] (fun t12 t3 wr => ∃ (i : Nat) (ts : List (En × Value × Value)), i ≤ es.length ∧ t12 = .int .i64 i ∧ Hid (ts.map (·.1) = es.take i) ∧ Hid (OwnN [] w wr t3 ts)) (fun t _ _ => es.length - (intOf t).toNat)
  case atStart => exact ⟨0, [], Nat.zero_le _, rfl, hide (by simp), hide (OwnN.start (Kept.refl [] w))⟩
  case round =>
    obtain ⟨i, ts, hi, rfl, HTS, HO⟩ := hrel
    have HTL := hide (by have h9 := congrArg List.length (unhide HTS); simp only [List.length_map, List.length_take] at h9; omega : ts.length ≤ 1048576)
    by_cases hlt : i < es.length
    · have hlt' : (i : Int) < es.length := by omega
      obtain ⟨b, off, rfl, hcc⟩ := unhide H5 (by omega)
      have hr := hcc i hlt
      have q0 := (unhide HO).kept.cell (hr 0 _ rfl) (by simp)
      have q1 := (unhide HO).kept.cell (hr 1 _ rfl) (by simp)
      have q2 := (unhide HO).kept.cell (hr 2 _ rfl) (by simp)
      rw [Nat.add_zero] at q0
      have HE := hide ((unhide H4 i hlt).old (unhide HO).kept)
      have HSN := hide (by rw [List.take_succ_eq_append_getElem hlt] : es.take (i + 1) = es.take i ++ [es[i]])
      clear hcc hr
      generalize kv i = kvi at q1 HE
      generalize vv i = vvi at q2 HE
      generalize es[i] = e at q0 HE HSN
      obtain ⟨a8, m8, c8, rfl, _⟩ := id (unhide HE).key
      obtain ⟨a9, m9, c9, rfl, _⟩ := id (unhide HE).val
      have HSZ := hide (unhide HO).kept.size
      go_wp2_with fail
      have k1 := (Kept.refl [] wr).alloc (.cells #[.int .u8 (e.k : Int), .slice a8 m8 c8, .slice a9 m9 c9] 26)
      refine Calls.mono (twinEntry_any e _ _ _ ((unhide HE).old k1)) ?_
      rintro r w2 ⟨kv2, vv2, rfl, ok2, k2, n2⟩
      obtain ⟨a3, m3, c3, hu3, _⟩ := id ok2.key
      subst hu3
      obtain ⟨a4, m4, c4, hu4, _⟩ := id ok2.val
      subst hu4
      have HN2 := hide (fun y hy => by have h9 := n2 y hy; rw [show (wr.alloc (.cells #[.int .u8 (e.k : Int), .slice a8 m8 c8, .slice a9 m9 c9] 26)).heap.size = wr.heap.size + 1 from Array.size_push _] at h9; exact h9 : ∀ y, y ∈ blk (.slice a3 m3 c3) ∨ y ∈ blk (.slice a4 m4 c4) → wr.heap.size + 1 ≤ y)
      have HO2 := hide (((unhide HO).old (M := []) (k1.trans k2 (by simp)) (by simp)).old (M := []) ((Kept.refl [] w2).alloc (.cells #[.int .u8 (e.k : Int), .slice a3 m3 c3, .slice a4 m4 c4] 26)) (by simp))
      have HK2 := hide (ok2.old ((Kept.refl [] w2).alloc (.cells #[.int .u8 (e.k : Int), .slice a3 m3 c3, .slice a4 m4 c4] 26)))
      have HB2 := hide (unhide HO2).kept.size
      have HOL := hide (fun g hg => ((unhide HO).own.lt g hg).2 : ∀ g, u3.ownBlock = some g → g < wr.heap.size)
      clear k1 k2 n2 ok2
      simp only [enC]
      go_wp2_with (at_builtin; refine wpList_pushN rfl _ _ rfl rfl _ w.heap.size u3 ts e (.slice a3 m3 c3) (.slice a4 m4 c4) w2.heap.size (unhide HO2).own (heap_alloc_new _ _) rfl rfl (by have := unhide HTL; omega) (unhide HB2) rfl rfl ?_; intro g cap2 w5 HO5 HG5 HA5)
      refine ⟨⟨i + 1, ts ++ [(e, .slice a3 m3 c3, .slice a4 m4 c4)], by omega, by go_num, hide ?_, hide ?_⟩, ?_⟩
      · rw [List.map_append, unhide HTS, unhide HSN]; rfl
      · refine (unhide HO2).push (unhide HK2) (fun b' hb' => ?_) (unhide HO5) (unhide HG5) (unhide HA5)
        have h9 : wr.heap.size + 1 ≤ b' := by
          rcases hb' with hb' | hb'
          · exact unhide HN2 b' (Or.inl (mem_nblk hb').1)
          · exact unhide HN2 b' (Or.inr (mem_nblk hb').1)
        have h8 := unhide HSZ
        exact ⟨fun e9 => by have h7 := unhide HOL b' e9; omega, by omega⟩
      · simp [intOf]; omega
    · have hlt' : ¬ (i : Int) < es.length := by omega
      have hie : i = es.length := by omega
      subst hie
      rw [List.take_length] at HTS
      go_wp2
      go_ret
      exact ⟨_, rfl, ⟨[], w, ts, (unhide HTS).symm, unhide HO, Nat.le_refl _⟩, (unhide HO).kept⟩

set_option maxRecDepth 100000 in
set_option maxHeartbeats 1000000 in
theorem twinBatch_any (f : Nat) (v : Value) (es : List En) (w : World) (h : RdN w v es) (hl : es.length ≤ 1048576) :
    Calls Try.prog 13 #[.agg #[.int .u64 f, v]] w fun r w' => ∃ v', r = .returned (.agg #[.int .u64 f, v']) ∧ NewN w.heap.size w' v' es ∧ Kept [] w w' := by
  have H := hide h
  obtain ⟨a1, m1, c1, _, _, rfl, _⟩ := h
  have HG := hide (((Kept.refl [] (w.alloc (.cells #[.int .u64 (f : Int), .slice a1 m1 c1] 34))).alloc (.cells #[.int .u64 0, .slice none 0 0] 34)).heap (heap_alloc_new w (.cells #[.int .u64 (f : Int), .slice a1 m1 c1] 34)) (by simp))
  have HZ := hide (alloc_at w (.cells #[.int .u64 (f : Int), .slice a1 m1 c1] 34) (.cells #[.int .u64 0, .slice none 0 0] 34))
  have HK0 := hide (((Kept.refl [] w).alloc (.cells #[.int .u64 (f : Int), .slice a1 m1 c1] 34)).alloc (.cells #[.int .u64 0, .slice none 0 0] 34))
  have HSZ := hide (show ((w.alloc (.cells #[.int .u64 (f : Int), .slice a1 m1 c1] 34)).alloc (.cells #[.int .u64 0, .slice none 0 0] 34)).heap.size = w.heap.size + 2 by simp)
  go_enter Try.func13, Try.ntmps13
  go_wp2_with fail
  obtain ⟨W, hW⟩ : ∃ W, (w.alloc (.cells #[.int .u64 (f : Int), .slice a1 m1 c1] 34)).alloc (.cells #[.int .u64 0, .slice none 0 0] 34) = W := ⟨_, rfl⟩
  rw [hW] at HG HZ HK0 HSZ ⊢
  clear hW
  have x0 : W.cell? ⟨w.heap.size, 0, none⟩ = some (.int .u64 (f : Int)) := by rw [cell_of_row _ _ _ _ _ _ (unhide HG)]; rfl
  have x1 : W.cell? ⟨w.heap.size, 1, none⟩ = some (.slice a1 m1 c1) := by rw [cell_of_row _ _ _ _ _ _ (unhide HG)]; rfl
  have HX0 := hide x0
  have HX1 := hide x1
  have HHW := hide (((unhide H).old (unhide HK0)).old (Kept.refl [] W).drew)
  have hne : w.heap.size ≠ w.heap.size + 1 := by omega
  go_region_held3 (fun w' => w'.cell? ⟨w.heap.size, 0, none⟩ = some (.int .u64 (f : Int)) ∧ w'.cell? ⟨w.heap.size, 1, none⟩ = some (.slice a1 m1 c1)) (go_keep) (first
    | (go_at_call 35; refine (twinEntries_any _ es _ (by exact unhide HHW) hl).mono ?_; rintro e w3 ⟨v3, rfl, r3, k3⟩; obtain ⟨a3, m3, c3, _, _, hu3, _⟩ := id r3.rdN; subst hu3; have HR3 := hide (show NewN W.heap.size w3 (.slice a3 m3 c3) es from r3); have K3 := (Kept.refl [] W).drew.trans k3 (by simp); have HK3 := hide K3; have y0 := K3.cell (unhide HX0) (by simp); have y1 := K3.cell (unhide HX1) (by simp); have HZ3 := hide (K3.heap (unhide HZ) (by simp)); have t0 := cell_of_row _ _ 0 _ _ _ (unhide HZ3); have t1 := cell_of_row _ _ 1 _ _ _ (unhide HZ3); have f0 := frozen_of_row _ _ 0 _ _ (unhide HZ3); have f1 := frozen_of_row _ _ 1 _ _ (unhide HZ3); clear K3 k3 r3))
  all_goals go_wp2
  all_goals
    refine bodyPost_ret (v := .agg #[.int .u64 (f : Int), .slice a3 m3 c3]) ?_ rfl ⟨.slice a3 m3 c3, rfl, ?_, ?_⟩
    · exact results_cell_row rfl _ _ (w.heap.size + 1) _ #[.int .u64 (f : Int), .slice a3 m3 c3] (0, 0) _ rfl (by exact eput2_heap (unhide HZ3) _ _) Try.underlying34 rfl Try.size_batch
    · have h7 := unhide HSZ
      exact ((unhide HR3).kept (eput2_kept (Kept.refl [w.heap.size + 1] w3) (w.heap.size + 1) (Or.inl (by simp)) _ _) (by simp; omega)).weak (by omega)
    · exact eput2_kept ((unhide HK0).trans (unhide HK3) (by simp)) (w.heap.size + 1) (Or.inr (by omega)) _ _
end Go.Proofs.Ytocpfbcbfgbdoaa
