import Derived.Test.YtcijeplafknokabDoorTopD
import Derived.Test.YtcijeplafknokabDoorTopA
import Derived.Test.YtcijeplafknokabDoorTopB
import Derived.Test.YtcijeplafknokabDoorBase
import Derived.Test.YtcijeplafknokabDoorCards
import Derived.Test.YtcijeplafknokabDoorTie
import Derived.ProofKit
import Derived.OpenShut
import Derived.Deep.Slices
import Derived.SizedLaws
import Derived.Test.YtcijeplafknokabDoorTopC
import Derived.Test.YtcijeplafknokabDoorRowz
import Derived.Test.YtcijeplafknokabDoorDForm
namespace Go.Proofs.YtcijeplafknokabDoor
open Go.RowKit Go.BigFrame
set_option linter.unusedVariables false
set_option linter.unusedSimpArgs false

theorem appendT_nil (lv : Value) (w : World) : Calls Tryd.prog 9 #[.pointer none, lv] w fun e w' => e = .returned (.tuple #[.pointer none, .int .i64 5]) ∧ w' = w := by
  go_enter Tryd.func9, Tryd.ntmps9
  go_wp2
  exact bodyPost_ret (results_tmp2 rfl _ _ _) rfl ⟨rfl, rfl⟩

/-- What Append answers. -/
def AppD (z : Int) (ps : List Pk) (ls : List (List Nat)) (w : World) (e : Ending) (w' : World) : Prop :=
  (ls.all (formB z) = true → ∃ t' v' qs, e = .returned (.tuple #[.pointer (some ⟨t', 0, none⟩), .int .i64 0]) ∧ w.heap.size ≤ t' ∧ TreeAt z w' t' v' qs ∧ leavesK qs = leavesK ps ++ ls ∧ (qs = [] → v' = .slice none 0 0)) ∧
  (ls.all (formB z) = false → e = .returned (.tuple #[.pointer none, .int .i64 3])) ∧ Kept [] w w'

set_option maxRecDepth 100000 in
set_option maxHeartbeats 1000000 in
theorem appendT_any (z : Int) (t : Nat) (v lv : Value) (ps : List Pk) (ls : List (List Nat)) (w : World) (h : TreeAt z w t v ps) (hnil : ps = [] → v = .slice none 0 0) (hl : RdD w lv ls) (hN : (leavesK ps).length + ls.length ≤ 1000000000) (hT : Tabs w) (h6 : Tab6 w) :
    Calls Tryd.prog 9 #[.pointer (some ⟨t, 0, none⟩), lv] w (AppD z ps ls w) := by
  have hz : 1 ≤ z ∧ z ≤ 32 := by simpa [widthB] using h.wid
  have hz2 : -9223372036854775808 ≤ z ∧ z ≤ 9223372036854775807 := by omega
  have HT := hide h
  have HL := hide hl
  obtain ⟨ao, len, cap, rfl, h1, h2, h3, h4, h5⟩ := hl
  subst h1
  clear h4 h5 h
  have cz := cell_of_row _ _ 0 _ _ _ (unhide HT).row
  simp at cz
  have HTB := hide hT
  have H6B := hide h6
  have HNL := hide hnil
  clear hT h6 hnil
  go_enter Tryd.func9, Tryd.ntmps9
  go_wp2_with fail
  go_loopw [15] (fun t15 wr => ∃ (i : Nat), i ≤ ls.length ∧ t15 = .int .i64 i ∧ Hid ((ls.take i).all (formB z) = true) ∧ Hid (Kept [] w wr)) (fun t _ => ls.length - (intOf t).toNat)
  case atStart => exact ⟨0, Nat.zero_le _, rfl, hide (by simp), hide (Kept.refl _ _)⟩
  case round =>
    obtain ⟨j, hj, rfl, HAJ, HKJ⟩ := hrel
    by_cases hjl : j < ls.length
    · have hjl' : (j : Int) < ls.length := by omega
      obtain ⟨ra, rl, rc, re, r1, r2, r3, r4, r5⟩ := unhide HL
      cases re
      obtain ⟨b, o, rfl, hcell⟩ := r5 (by omega)
      have HD := hide (r4 (ls.getD j []) (by rw [List.getD_eq_getElem?_getD, List.getElem?_eq_getElem hjl]; exact List.getElem_mem hjl))
      have HRG := hide (fun u v hv => (unhide HKJ).cell (hcell j hjl u v hv) (by simp) : wr.rangeAt b (o + j * 32) ((ls.getD j []).map Go.Proofs.YtcijeplafknokabDoor.u8))
      have HN := hide (by rw [List.take_succ_eq_append_getElem hjl, List.all_append, unhide HAJ, List.getD_eq_getElem?_getD, List.getElem?_eq_getElem hjl]; simp : (ls.take (j + 1)).all (formB z) = formB z (ls.getD j []))
      have HM := hide (fun (h : formB z (ls.getD j []) = false) => by
        rw [List.all_eq_false]
        exact ⟨ls.getD j [], by rw [List.getD_eq_getElem?_getD, List.getElem?_eq_getElem hjl]; exact List.getElem_mem hjl, by rw [h]; decide⟩ : formB z (ls.getD j []) = false → ls.all (formB z) = false)
      clear hcell r4 r5
      obtain ⟨d, hd⟩ : ∃ d, ls.getD j [] = d := ⟨_, rfl⟩
      rw [hd] at HD HRG HN HM
      clear hd
      have hdl := (unhide HD).1
      have HSZ := hide (by rw [brow_size, hdl]; exact Tryd.size_dig : (Tryd.prog.info? 29).map (·.size) = some (brow d).size)
      have HNW := hide (setRow_heap (wr.alloc (.cells (zb 32) 29)) wr.heap.size (zb 32) (brow d) 29 (0, 0) (heap_alloc_new _ _))
      have HKN := hide (((unhide HKJ).alloc (.cells (zb 32) 29)).setRow (g := wr.heap.size) (Or.inr (unhide HKJ).size) (brow d))
      go_wp2_with (first
        | (refine wpList_load_mid rfl 29 (.tmp 17) rfl b (o + j * 32) rfl (d.map Go.Proofs.YtcijeplafknokabDoor.u8) _ (unhide HRG) Tryd.underlying29 rfl (by rw [List.length_map, hdl]; exact Tryd.size_dig) ?_)
        | (rw [zb32]; refine wpList_store_row rfl 29 (.tmp 7) _ rfl wr.heap.size (brow d) rfl rfl _ (zb 32) (heap_alloc_new _ _) (unhide HSZ) (by rw [zb_size, brow_size, hdl]) (brow_one _) ?_))
      obtain ⟨W, hW⟩ : ∃ W, (wr.alloc (.cells (zb 32) 29)).setRow wr.heap.size (brow d) = W := ⟨_, rfl⟩
      rw [hW] at HNW HKN ⊢
      clear hW
      have cz4 := (unhide HKN).cell cz (by simp)
      have HFO := hide (fun w' (hw' : Kept [] W w') => (form_any z d w' hz2 hdl (unhide HD).2).mono (fun e w2 (h2 : _ ∧ _) => (⟨h2.1, hw'.trans h2.2 (by simp)⟩ : _ ∧ Kept [] W w2)))
      cases hf : formB z d with
      | true =>
        rw [hf] at HN HFO
        clear hf
        have hne : ∀ p : Prop, (∀ w', Kept [] W w' → p) = p := fun p => propext ⟨fun h => h W (Kept.refl [] W), fun h _ _ => h⟩
        refine wp_region_keep (by kernel_rfl) (by kernel_rfl) ?_
        iterate 3 (go_big_quiet_step (fail))
        refine wpQuiet_val rfl (.int .i64 z) (fun w' hw' => run_load1 3 (.tmp 21) rfl ⟨t, 0, none⟩ rfl w' _ .i64 Tryd.underlying3 (hw'.cell cz4 (by simp))) ?_
        simp only [Act.put, List.setIfInBounds_toArray, List.set_cons_succ, List.set_cons_zero]
        refine wpQuiet_row rfl 29 (.tmp 7) rfl wr.heap.size rfl _ (brow d) (0, 0) _ (fun w' hw' => hw'.heap (unhide HNW) (by simp)) Tryd.underlying29 rfl (unhide HSZ) ?_
        simp only [Act.put, List.setIfInBounds_toArray, List.set_cons_succ, List.set_cons_zero]
        go_big_quiet_want
        go_big_quiet_op
        apply Exists.intro
        refine ⟨fun w' hw' => ?_, ?_⟩
        · exact unhide HFO w' hw'
        go_big_quiet_on
        repeat (go_big_quiet_step (fail))
        refine wpQuiet_nil ?_
        intro w6 hw6
        have HK6 := hide ((unhide HKN).trans hw6 (by simp))
        clear hw6
        go_wp2_with fail
        refine ⟨⟨j + 1, by omega, by go_num, HN, HK6⟩, ?_⟩
        simp [intOf]; omega
      | false =>
        have HF := hide (unhide HM hf)
        rw [hf] at HFO
        clear hf
        have hne : ∀ p : Prop, (∀ w', Kept [] W w' → p) = p := fun p => propext ⟨fun h => h W (Kept.refl [] W), fun h _ _ => h⟩
        refine wp_region_keep (by kernel_rfl) (by kernel_rfl) ?_
        iterate 3 (go_big_quiet_step (fail))
        refine wpQuiet_val rfl (.int .i64 z) (fun w' hw' => run_load1 3 (.tmp 21) rfl ⟨t, 0, none⟩ rfl w' _ .i64 Tryd.underlying3 (hw'.cell cz4 (by simp))) ?_
        simp only [Act.put, List.setIfInBounds_toArray, List.set_cons_succ, List.set_cons_zero]
        refine wpQuiet_row rfl 29 (.tmp 7) rfl wr.heap.size rfl _ (brow d) (0, 0) _ (fun w' hw' => hw'.heap (unhide HNW) (by simp)) Tryd.underlying29 rfl (unhide HSZ) ?_
        simp only [Act.put, List.setIfInBounds_toArray, List.set_cons_succ, List.set_cons_zero]
        go_big_quiet_want
        go_big_quiet_op
        apply Exists.intro
        refine ⟨fun w' hw' => ?_, ?_⟩
        · exact unhide HFO w' hw'
        go_big_quiet_on
        repeat (go_big_quiet_step (fail))
        refine wpQuiet_nil ?_
        intro w6 hw6
        have HK6 := hide ((unhide HKN).trans hw6 (by simp))
        clear hw6
        go_wp2_with fail
        exact bodyPost_ret (results_tmp2 rfl _ _ _) rfl ⟨fun h => absurd h (by rw [unhide HF]; decide), fun _ => rfl, unhide HK6⟩
    · have hjl' : ¬ (j : Int) < ls.length := by omega
      have hje : j = ls.length := by omega
      subst hje
      rw [List.take_length] at HAJ
      go_wp2_with fail
      have hN0 : (leavesK ps).length ≤ 1000000000 := by omega
      obtain ⟨va, vn, vc, rfl⟩ : ∃ a n c, v = .slice a n c := by obtain ⟨a, c, h9, _⟩ := (unhide HT).rd; exact ⟨_, _, _, h9⟩
      have c0 := (unhide HKJ).cell cz (by simp)
      have c1 : wr.cell? ⟨t, 1, none⟩ = some (.int .u64 ((leavesK ps).length : Int)) := (unhide HKJ).cell (by have := cell_of_row _ _ 1 _ _ _ (unhide HT).row; simpa using this) (by simp)
      have c2 : wr.cell? ⟨t, 2, none⟩ = some (.slice va vn vc) := (unhide HKJ).cell (by have := cell_of_row _ _ 2 _ _ _ (unhide HT).row; simpa using this) (by simp)
      have hpl : ps.length ≤ 1000000000 := by
        have h8 := len_le_sum (ps.reverse.map (·.h)); rw [← leavesK_len (unhide HT).pk.ok] at h8; simp at h8; omega
      have HCL := hide (fun w' (k : Kept [] wr w') => cloneK_any z (.slice va vn vc) ps w' (((unhide HT).rd.old (unhide HKJ)).old k) (((unhide HT).pk.old (unhide HKJ)).old k) (unhide HNL) hpl)
      refine wp_ap16 (by kernel_rfl) (by kernel_rfl) (by kernel_rfl) (by kernel_rfl) (by kernel_rfl) (by kernel_rfl) (by kernel_rfl) (by kernel_rfl) (by kernel_rfl) (by kernel_rfl) (by kernel_rfl) (by kernel_rfl) (by kernel_rfl) (by kernel_rfl) (by kernel_rfl) (by kernel_rfl) (by kernel_rfl) (by kernel_rfl) (by kernel_rfl) (by kernel_rfl) (by kernel_rfl) (by kernel_rfl) (by kernel_rfl) (by kernel_rfl) (by kernel_rfl) (by kernel_rfl) (by kernel_rfl) (by kernel_rfl) (by kernel_rfl) (by kernel_rfl) (by kernel_rfl) (by kernel_rfl) (by kernel_rfl) rfl rfl
        (.pointer (some ⟨t, 0, none⟩)) (.pointer (some ⟨t, 0, none⟩)) (.pointer (some ⟨t, 0, none⟩)) (.int .i64 z) (.pointer (some ⟨t, 0, none⟩)) (.pointer (some ⟨t, 0, none⟩)) (.pointer (some ⟨t, 1, none⟩)) (.int .u64 ((leavesK ps).length : Int)) (.pointer (some ⟨t, 0, none⟩)) (.pointer (some ⟨t, 0, none⟩)) (.pointer (some ⟨t, 2, none⟩)) (.slice va vn vc) _ _ _ _ _ _ _ _ _ _ _ _
        (fun w' => Kept [] wr w')
        (fun w' => Kept [] wr w')
        (fun u w' => (∃ a n c, u = .slice a n c ∧ w'.ownsRow wr.heap.size 53 33 (.slice a n c) ps.length (cellsK ps) ∧ (ps = [] → Value.slice a n c = .slice none 0 0)) ∧ Kept [] wr w')
        (fun u x w' => (∃ a n c t', u = .slice a n c ∧ w'.ownsRow wr.heap.size 53 33 (.slice a n c) ps.length (cellsK ps) ∧ (ps = [] → Value.slice a n c = .slice none 0 0) ∧ x = .pointer (some ⟨t', 0, none⟩) ∧ wr.heap.size ≤ t' ∧ w'.heap[t']? = some (.cells #[.int .i64 z, .int .u64 ((leavesK ps).length : Int), .slice a n c] 49 (0, 0))) ∧ Kept [] wr w')
        (fun u => .agg #[.int .i64 z, .int .u64 ((leavesK ps).length : Int), u]) (fun x => x)
        (by simp only [Act.put, List.setIfInBounds_toArray, List.set_cons_zero, List.set_cons_succ]; rfl) (by exact Or.inl ⟨by rfl, fun W' hW' => by go_simp⟩)
        (by simp only [Act.put, List.setIfInBounds_toArray, List.set_cons_zero, List.set_cons_succ]; rfl) (by exact Or.inl ⟨by rfl, fun W' hW' => by go_simp⟩)
        (by simp only [Act.put, List.setIfInBounds_toArray, List.set_cons_zero, List.set_cons_succ]; rfl) (by exact Or.inl ⟨by rfl, fun W' hW' => by go_simp⟩)
        (by simp only [Act.put, List.setIfInBounds_toArray, List.set_cons_zero, List.set_cons_succ]; rfl) (by exact Or.inl ⟨by rfl, fun W' hW' => by have h9 := hW'.cell c0 (by simp); go_simp⟩)
        (by simp only [Act.put, List.setIfInBounds_toArray, List.set_cons_zero, List.set_cons_succ]; rfl) (by exact Or.inl ⟨by rfl, fun W' hW' => by go_simp⟩)
        (by simp only [Act.put, List.setIfInBounds_toArray, List.set_cons_zero, List.set_cons_succ]; rfl) (by exact Or.inl ⟨by rfl, fun W' hW' => by go_simp⟩)
        (by simp only [Act.put, List.setIfInBounds_toArray, List.set_cons_zero, List.set_cons_succ]; rfl) (by exact Or.inl ⟨by rfl, fun W' hW' => by go_simp⟩)
        (by simp only [Act.put, List.setIfInBounds_toArray, List.set_cons_zero, List.set_cons_succ]; rfl) (by exact Or.inl ⟨by rfl, fun W' hW' => by have h9 := hW'.cell c1 (by simp); go_simp⟩)
        (by simp only [Act.put, List.setIfInBounds_toArray, List.set_cons_zero, List.set_cons_succ]; rfl) (by exact Or.inl ⟨by rfl, fun W' hW' => by go_simp⟩)
        (by simp only [Act.put, List.setIfInBounds_toArray, List.set_cons_zero, List.set_cons_succ]; rfl) (by exact Or.inl ⟨by rfl, fun W' hW' => by go_simp⟩)
        (by simp only [Act.put, List.setIfInBounds_toArray, List.set_cons_zero, List.set_cons_succ]; rfl) (by exact Or.inl ⟨by rfl, fun W' hW' => by go_simp⟩)
        (by simp only [Act.put, List.setIfInBounds_toArray, List.set_cons_zero, List.set_cons_succ]; rfl) (by exact Or.inl ⟨by rfl, fun W' hW' => by have h9 := hW'.cell c2 (by simp); go_simp⟩)
        (Kept.refl [] wr).drew
        ⟨fun w' h => h, fun u w' h => h.2, fun u x w' h => h.2⟩
        (by intro w' i K hK; refine wp_callN rfl Tryd.call21 [.slice va vn vc] rfl (unhide HCL w' i) ?_; rintro e w2 ⟨v', rfl, ho, hn, k2⟩; obtain ⟨a, n, c, rfl⟩ : ∃ a n c, v' = .slice a n c := by (rcases ho.2 with ⟨h9, _⟩ | ⟨g, cp, cur, h9, _⟩ <;> exact ⟨_, _, _, h9⟩)
            exact ⟨_, rfl, hK _ _ ⟨⟨a, n, c, rfl, owns_baseK ho i.size, hn⟩, i.trans k2 (by simp)⟩⟩)
        (by
          intro u w' hh K hK
          simp only [Act.put, List.setIfInBounds_toArray, List.set_cons_zero, List.set_cons_succ] at hK ⊢
          obtain ⟨⟨a, n, c, rfl, ho, hn⟩, i⟩ := hh
          unfold Oper.wp execOp
          go_simp
          exact hK _ _ ⟨⟨a, n, c, _, rfl, ((Kept.refl [] w').alloc _).owns ho (by simp), hn, rfl, i.size, heap_alloc_new _ _⟩, i.alloc _⟩)
        (by rintro u w' ⟨⟨a, n, c, rfl, _⟩, _⟩; exact Or.inl ⟨by rfl, fun W' hW' => by unfold execOp; go_simp⟩)
        (by rintro u x w' ⟨⟨a, n, c, t', rfl, _, _, rfl, _⟩, _⟩; exact Or.inl ⟨by rfl, fun W' hW' => by go_simp⟩)
        ?_
      rintro u x Y ⟨⟨a, n, c, t', rfl, ho, hn, rfl, ht', hrow⟩, kY⟩
      simp only [Act.put, List.setIfInBounds_toArray, List.set_cons_zero, List.set_cons_succ]
      have HO := hide ho
      have HNN := hide hn
      have HRW := hide hrow
      have HKY := hide ((unhide HKJ).trans kY (by simp))
      have HPK := hide ((unhide HT).pk.old ((unhide HKJ).trans kY (by simp)))
      have hszw := (unhide HKJ).size
      clear ho hn hrow kY HCL c0 c1 c2
      go_wp2_with fail
      have HI0 := hide (⟨by simpa using unhide HRW, unhide HO, unhide HPK, by simp, unhide HNN, unhide HKY, hszw, Nat.le_trans hszw ht', by have := (unhide HO).lt; have := lt_of_block (unhide HRW); omega⟩ : AppI z ps ls w t' wr.heap.size 0 (.slice a n c) ps Y)
      have hwid := hide (unhide HT).wid
      clear HO HNN HRW HKY HPK hpl HNL
      obtain ⟨base, hbase⟩ : ∃ base, base = wr.heap.size := ⟨_, rfl⟩
      rw [← hbase] at HI0
      clear hszw ht' hbase
      go_loopw [44] (fun t44 wq => ∃ (i : Nat) (v' : Value) (qs : List Pk), i ≤ ls.length ∧ t44 = .int .i64 i ∧ Hid (AppI z ps ls w t' base i v' qs wq)) (fun t _ => ls.length - (intOf t).toNat)
      case atStart => exact ⟨0, _, _, Nat.zero_le _, rfl, HI0⟩
      case round =>
        obtain ⟨i, v', qs, hi, rfl, HI⟩ := hrel
        by_cases hil : i < ls.length
        · have hil' : (i : Int) < ls.length := by omega
          obtain ⟨ra, rl, rc, re, r1, r2, r3, r4, r5⟩ := unhide HL
          cases re
          obtain ⟨b, o, rfl, hcell⟩ := r5 (by omega)
          have hmem : ls.getD i [] ∈ ls := by rw [List.getD_eq_getElem?_getD, List.getElem?_eq_getElem hil]; exact List.getElem_mem hil
          have HD := hide (r4 (ls.getD i []) hmem)
          have HFD := hide (List.all_eq_true.1 (unhide HAJ) _ hmem)
          have HRG := hide (fun u v hv => (unhide HI).kept.cell (hcell i hil u v hv) (by simp) : wr.rangeAt b (o + i * 32) ((ls.getD i []).map Go.Proofs.YtcijeplafknokabDoor.u8))
          clear hcell r4 r5 hmem
          obtain ⟨d, hd⟩ : ∃ d, ls.getD i [] = d := ⟨_, rfl⟩
          have HDD := hide hd
          rw [hd] at HD HRG HFD
          clear hd
          have hdl := (unhide HD).1
          have HSZ := hide (by rw [brow_size, hdl]; exact Tryd.size_dig : (Tryd.prog.info? 29).map (·.size) = some (brow d).size)
          have HNW := hide (setRow_heap (wr.alloc (.cells (zb 32) 29)) wr.heap.size (zb 32) (brow d) 29 (0, 0) (heap_alloc_new _ _))
          have HKN := hide (((Kept.refl [] wr).alloc (.cells (zb 32) 29)).setRow (g := wr.heap.size) (Or.inr (Nat.le_refl _)) (brow d))
          go_wp2_with (first
            | (refine wpList_load_mid rfl 29 (.tmp 46) rfl b (o + i * 32) rfl (d.map Go.Proofs.YtcijeplafknokabDoor.u8) _ (unhide HRG) Tryd.underlying29 rfl (by rw [List.length_map, hdl]; exact Tryd.size_dig) ?_)
            | (rw [zb32]; refine wpList_store_row rfl 29 (.tmp 10) _ rfl wr.heap.size (brow d) rfl rfl _ (zb 32) (heap_alloc_new _ _) (unhide HSZ) (by rw [zb_size, brow_size, hdl]) (brow_one _) ?_)
            | (refine wpList_load_row rfl 29 (.tmp 10) rfl wr.heap.size rfl _ (brow d) (0, 0) _ (unhide HNW) Tryd.underlying29 rfl (unhide HSZ) ?_))
          obtain ⟨W, hW⟩ : ∃ W, (wr.alloc (.cells (zb 32) 29)).setRow wr.heap.size (brow d) = W := ⟨_, rfl⟩
          rw [hW] at HKN ⊢
          clear hW HNW
          refine Calls.mono (push_any z t' ((leavesK ps).length + i) base v' qs d W ((unhide HKN).heap (unhide HI).row (by simp)) ((unhide HKN).owns (unhide HI).own (by simp)) ((unhide HI).pk.old (unhide HKN)) ((unhide HI).len hi) (by omega) (Nat.le_trans (unhide HI).br (unhide HKN).size) (unhide hwid) ((unhide HI).far (unhide HTB) (unhide H6B)) ⟨hdl, (unhide HD).2⟩ (unhide HFD) ((unhide HTB).kept ((unhide HI).kept.trans (unhide HKN) (by simp)) (by simp) (by simp)) ((unhide H6B).kept ((unhide HI).kept.trans (unhide HKN) (by simp)))) ?_
          rintro e w4 ⟨rfl, hpd⟩
          obtain ⟨v2, rs, hi2⟩ := (unhide HI).step hil (unhide HKN) (by rw [unhide HDD]; exact hpd)
          have HI2 := hide hi2
          clear hpd hi2 HI HKN
          go_wp2_with fail
          refine ⟨⟨i + 1, _, _, by omega, by go_num, HI2⟩, ?_⟩
          simp [intOf]; omega
        · have hil' : ¬ (i : Int) < ls.length := by omega
          have hie : i = ls.length := by omega
          subst hie
          have HF := hide ((unhide HI).fin (unhide hwid))
          go_wp2_with fail
          exact bodyPost_ret (results_tmp2 rfl _ _ _) rfl ⟨fun _ => ⟨t', v', qs, rfl, (unhide HI).bt, (unhide HF).1, (unhide HF).2, (unhide HI).nil⟩, fun h => absurd h (by rw [unhide HAJ]; decide), (unhide HI).kept⟩

end Go.Proofs.YtcijeplafknokabDoor
namespace Go.Proofs.YtcijeplafknokabDoor
open Go.RowKit Go.BigFrame
set_option linter.unusedVariables false
set_option linter.unusedSimpArgs false

def d7 : List Nat := 7 :: List.replicate 31 0
def d9 : List Nat := 9 :: List.replicate 31 0
theorem d7_dg : Dg d7 := ⟨rfl, by decide⟩
theorem d9_dg : Dg d9 := ⟨rfl, by decide⟩
theorem d79_form : [d7, d9].all (formB 1) = true := by decide +kernel
theorem rg79 : rgD 1 [d7, d9] 0 2 = nodS 1 d7 d9 := by
  unfold rgD
  rw [if_neg (by decide)]
  rw [rngD_cut (by decide) (by decide)]
  rfl

set_option maxRecDepth 100000 in
set_option maxHeartbeats 1000000 in
theorem mtawake_any (w : World) (hT : Tabs w) (h6 : Tab6 w) :
    Calls Tryd.prog 5 #[] w fun e w' => e = .returned (.bool true) ∧ Kept [] w w' := by
  have HTB := hide hT
  have H6 := hide h6
  clear hT h6
  go_enter Tryd.func5, Tryd.ntmps5
  go_wp2_with fail
  refine (newT_any 1 w (by decide)).mono ?_
  rintro e w1 ⟨t, rfl, ht, htr, k1⟩
  have HT1 := hide htr
  have HK1 := hide k1
  clear htr k1 ht
  go_wp2_with fail
  have HG := hide (heap_alloc_new w1 (.cells (d7.map Go.Proofs.YtcijeplafknokabDoor.u8 ++ d9.map Go.Proofs.YtcijeplafknokabDoor.u8).toArray 29))
  have kA := (Kept.refl [] w1).alloc (.cells (d7.map Go.Proofs.YtcijeplafknokabDoor.u8 ++ d9.map Go.Proofs.YtcijeplafknokabDoor.u8).toArray 29)
  have kB := (unhide HK1).trans kA (by simp)
  refine Calls.mono (appendT_any 1 t (.slice none 0 0) (.slice (some ⟨w1.heap.size, 0, none⟩) 2 2) [] [d7, d9] (w1.alloc (.cells (d7.map Go.Proofs.YtcijeplafknokabDoor.u8 ++ d9.map Go.Proofs.YtcijeplafknokabDoor.u8).toArray 29)) ((unhide HT1).old kA) (fun _ => rfl) (RdD.two (unhide HG) d7_dg.1 d9_dg.1 d7_dg.2 d9_dg.2) (by decide) ((unhide HTB).kept kB (by simp) (by simp)) ((unhide H6).kept kB)) ?_
  rintro e w2 ⟨ha, _, k2⟩
  obtain ⟨t2, v2, qs, rfl, ht2, htr2, hlv, _⟩ := ha d79_form
  have hlv2 : leavesK qs = [d7, d9] := hlv
  have HT2 := hide htr2
  have HT1b := hide (((unhide HT1).old kA).old k2)
  have HK2 := hide (kB.trans k2 (by simp))
  have HLV := hide hlv2
  clear htr2 k2 ha hlv hlv2 HG kA kB HK1 HT1 ht2
  have HL1 := hide (by rw [unhide HLV]; rfl : ((leavesK qs).length : Int) = 2)
  have HB := hide (by rw [unhide HLV]; decide : (leavesK qs).length < 4096)
  go_wp2_with fail
  refine (sizeT_any t2 1 v2 qs w2 (unhide HT2)).mono ?_
  rintro e _ ⟨rfl, rfl⟩
  rw [unhide HL1]
  go_wp2_with fail
  refine (sizeT_any t 1 (.slice none 0 0) [] _ (unhide HT1b)).mono ?_
  rintro e _ ⟨rfl, rfl⟩
  rw [show ((leavesK []).length : Int) = 0 from rfl]
  go_wp2_with fail
  refine (widthT_any t2 1 v2 qs _ (unhide HT2)).mono ?_
  rintro e _ ⟨rfl, rfl⟩
  go_wp2_with fail
  refine (leafT_all 1 t2 v2 qs 1 _ (unhide HT2) (unhide HB)).mono ?_
  rintro e w3 ⟨rfl, k3⟩
  rw [show lfD (leavesK qs) 1 = d9 from by rw [unhide HLV]; rfl, show lfE (leavesK qs) 1 = 0 from by rw [unhide HLV]; rfl]
  have HT3 := hide ((unhide HT2).old k3)
  have HK3 := hide ((unhide HK2).trans k3 (by simp))
  clear k3 HT2 HT1b HK2
  have HN3 := hide (cell_new w3 d9)
  have HO3 := hide (kept_old w3 d9)
  have h9l : d9.length = 32 := rfl
  go_wp2_with (rw [zb32]; refine wpList_store_row rfl 29 (.tmp 5) _ rfl w3.heap.size (brow d9) rfl rfl _ (zb 32) (heap_alloc_new _ _) (Tryd.szD h9l) rfl (brow_one _) ?_)
  obtain ⟨w4, hw4⟩ : ∃ w4, (w3.alloc (.cells (zb 32) 29)).setRow w3.heap.size (brow d9) = w4 := ⟨_, rfl⟩
  rw [hw4] at HN3 HO3 ⊢
  clear hw4
  have HT4 := hide ((unhide HT3).old (unhide HO3))
  have HK4 := hide ((unhide HK3).trans (unhide HO3) (by simp))
  refine (rootT_all 1 t2 v2 qs 2 _ (unhide HT4) (unhide HB) ((unhide HTB).kept (unhide HK4) (by simp) (by simp)) ((unhide H6).kept (unhide HK4))).mono ?_
  rintro e w5 ⟨rfl, k5⟩
  rw [show rgD 1 (leavesK qs) 0 2 = nodS 1 d7 d9 from by rw [unhide HLV]; exact rg79, show rgE (leavesK qs) 0 2 = 0 from by rw [unhide HLV]; rfl]
  have HR := hide (fun W => refNode_any 1 d7 d9 W (by omega) d7_dg d9_dg)
  have hnl := (nodS_dg 1 d7 d9).1
  have HR2 := hide (fun W => (unhide HR W : Calls Tryd.prog 17 #[.int .i64 1, .agg (brow d7), .agg (brow d9)] W fun e w' => e = .returned (.agg (brow (nodS 1 d7 d9))) ∧ Kept [] W w'))
  generalize nodS 1 d7 d9 = D at HR2 hnl ⊢
  have HN5 := hide (k5.heap (unhide HN3) (by simp))
  have HK5 := hide ((unhide HK4).trans k5 (by simp))
  clear k5 HR HN3 HO3 HT3 HT4 HK4
  have HN6 := hide (cell_new w5 D)
  have HO6 := hide (kept_old w5 D)
  go_wp2_with (rw [zb32]; refine wpList_store_row rfl 29 (.tmp 7) _ rfl w5.heap.size (brow D) rfl rfl _ (zb 32) (heap_alloc_new _ _) (Tryd.szD hnl) (by rw [zb_size, brow_size, hnl]) (brow_one _) ?_)
  obtain ⟨w6, hw6⟩ : ∃ w6, (w5.alloc (.cells (zb 32) 29)).setRow w5.heap.size (brow D) = w6 := ⟨_, rfl⟩
  rw [hw6] at HN6 HO6 ⊢
  clear hw6
  have HM6 := hide ((unhide HO6).heap (unhide HN5) (by simp))
  have HK6 := hide ((unhide HK5).trans (unhide HO6) (by simp))
  clear HN5 HK5 HO6
  have hne : ∀ p : Prop, (∀ w', Kept [] w6 w' → p) = p := fun p => propext ⟨fun h => h w6 (Kept.refl [] w6), fun h _ _ => h⟩
  refine wp_region_keep (by kernel_rfl) (by kernel_rfl) ?_
  iterate 3 (go_big_quiet_step (fail))
  have HCT := hide (fun w' (hw' : Kept [] w6 w') => (unhide HR2 w').mono (fun e w2 (h2 : _ ∧ _) => (⟨h2.1, hw'.trans h2.2 (by simp)⟩ : _ ∧ Kept [] w6 w2)))
  refine wpQuiet_row rfl 29 (.tmp 5) rfl w3.heap.size rfl _ (brow d9) (0, 0) _ (fun w' hw' => hw'.heap (unhide HM6) (by simp)) Tryd.underlying29 rfl (Tryd.szD h9l) ?_
  simp only [Act.put, List.setIfInBounds_toArray, List.set_cons_succ, List.set_cons_zero]
  go_big_quiet_step (fail)
  refine wpQuiet_val rfl (.bool true) (fun w' _ => run_eql 29 (.tmp 61) (.tmp 62) 29 rfl (brow d9) (brow d9) rfl rfl w' true (by kernel_rfl) (by rw [dig_eq w' d9 d9 rfl rfl]; simp)) ?_
  simp only [Act.put, List.setIfInBounds_toArray, List.set_cons_succ, List.set_cons_zero]
  iterate 6 (go_big_quiet_step (fail))
  refine wpQuiet_row rfl 29 (.tmp 7) rfl w5.heap.size rfl _ (brow D) (0, 0) _ (fun w' hw' => hw'.heap (unhide HN6) (by simp)) Tryd.underlying29 rfl (Tryd.szD hnl) ?_
  simp only [Act.put, List.setIfInBounds_toArray, List.set_cons_succ, List.set_cons_zero]
  iterate 2 (go_big_quiet_step (fail))
  go_big_quiet_want
  go_big_quiet_op
  apply Exists.intro
  refine ⟨fun w' hw' => ?_, ?_⟩
  · exact unhide HCT w' hw'
  go_big_quiet_on
  refine wpQuiet_val rfl (.bool true) (fun w' _ => run_eql 29 (.tmp 70) (.tmp 73) 29 rfl (brow D) (brow D) rfl rfl w' true (by kernel_rfl) (by rw [dig_eq w' D D hnl hnl]; simp)) ?_
  simp only [Act.put, List.setIfInBounds_toArray, List.set_cons_succ, List.set_cons_zero]
  repeat (go_big_quiet_step (fail))
  refine wpQuiet_nil ?_
  intro w7 hw7
  have HK7 := hide ((unhide HK6).trans hw7 (by simp))
  clear hw7 hne
  go_wp2_with fail
  go_ret
  exact ⟨rfl, unhide HK7⟩
end Go.Proofs.YtcijeplafknokabDoor
namespace Go.Proofs.YtcijeplafknokabDoor
open Go.RowKit Go.BigFrame
set_option linter.unusedVariables false
set_option linter.unusedSimpArgs false

end Go.Proofs.YtcijeplafknokabDoor
namespace Go.Proofs.YtcijeplafknokabDoor
open Go.RowKit Go.BigFrame
set_option linter.unusedVariables false
set_option linter.unusedSimpArgs false

/-- Are the width and all leaves fit? -/
def fitB (z : Int) (ls : List (List Nat)) : Bool := widthB z && ls.all (formB z)

set_option maxRecDepth 100000 in
set_option maxHeartbeats 1000000 in
theorem fit_any (z : Int) (lv : Value) (ls : List (List Nat)) (w : World) (hz : -9223372036854775808 ≤ z ∧ z ≤ 9223372036854775807) (hl : RdD w lv ls) :
    Calls Tryd.prog 7 #[.int .i64 z, lv] w fun e w' => e = .returned (.bool (fitB z ls)) ∧ Kept [] w w' := by
  have HL := hide hl
  obtain ⟨ao, len, cap, rfl, h1, h2, h3, h4, h5⟩ := hl
  subst h1
  clear h4 h5
  obtain ⟨E, hE⟩ : ∃ E, fitB z ls = E := ⟨_, rfl⟩
  rw [hE]
  have HE := hide hE
  clear hE
  go_enter Tryd.func7, Tryd.ntmps7
  go_wp2_with fail
  refine (rwidth_any z w hz).mono ?_
  rintro e w0 ⟨rfl, rfl⟩
  cases hwd : widthB z with
  | false =>
    have HE1 := hide (by rw [← unhide HE]; unfold fitB; rw [hwd]; rfl : E = false)
    go_wp2_with fail
    go_ret
    exact ⟨by rw [unhide HE1]; rfl, Kept.refl _ _⟩
  | true =>
    have HWD := hide hwd
    clear hwd
    go_wp2_with fail
    go_loopw [12] (fun t12 wr => ∃ (i : Nat), i ≤ ls.length ∧ t12 = .int .i64 i ∧ Hid ((ls.take i).all (formB z) = true) ∧ Hid (Kept [] w0 wr)) (fun t _ => ls.length - (intOf t).toNat)
    case atStart => exact ⟨0, Nat.zero_le _, rfl, hide (by simp), hide (Kept.refl _ _)⟩
    case round =>
      obtain ⟨j, hj, rfl, HAJ, HKJ⟩ := hrel
      by_cases hjl : j < ls.length
      · have hjl' : (j : Int) < ls.length := by omega
        obtain ⟨ra, rl, rc, re, r1, r2, r3, r4, r5⟩ := unhide HL
        cases re
        obtain ⟨b, o, rfl, hcell⟩ := r5 (by omega)
        have HD := hide (r4 (ls.getD j []) (by rw [List.getD_eq_getElem?_getD, List.getElem?_eq_getElem hjl]; exact List.getElem_mem hjl))
        have HRG := hide (fun u v hv => (unhide HKJ).cell (hcell j hjl u v hv) (by simp) : wr.rangeAt b (o + j * 32) ((ls.getD j []).map Go.Proofs.YtcijeplafknokabDoor.u8))
        have HN := hide (by rw [List.take_succ_eq_append_getElem hjl, List.all_append, unhide HAJ, List.getD_eq_getElem?_getD, List.getElem?_eq_getElem hjl]; simp : (ls.take (j + 1)).all (formB z) = formB z (ls.getD j []))
        have HM := hide (fun (h : formB z (ls.getD j []) = false) => by
          have h9 : ls.all (formB z) = false := by
            rw [List.all_eq_false]
            exact ⟨ls.getD j [], by rw [List.getD_eq_getElem?_getD, List.getElem?_eq_getElem hjl]; exact List.getElem_mem hjl, by rw [h]; decide⟩
          rw [← unhide HE]; unfold fitB; rw [h9, Bool.and_false] : formB z (ls.getD j []) = false → E = false)
        clear hcell r4 r5
        obtain ⟨d, hd⟩ : ∃ d, ls.getD j [] = d := ⟨_, rfl⟩
        rw [hd] at HD HRG HN HM
        clear hd
        have hdl := (unhide HD).1
        have HSZ := hide (by rw [brow_size, hdl]; exact Tryd.size_dig : (Tryd.prog.info? 29).map (·.size) = some (brow d).size)
        have HNW := hide (setRow_heap (wr.alloc (.cells (zb 32) 29)) wr.heap.size (zb 32) (brow d) 29 (0, 0) (heap_alloc_new _ _))
        have HKN := hide (((unhide HKJ).alloc (.cells (zb 32) 29)).setRow (g := wr.heap.size) (Or.inr (unhide HKJ).size) (brow d))
        go_wp2_with (first
          | (refine wpList_load_mid rfl 29 (.tmp 14) rfl b (o + j * 32) rfl (d.map Go.Proofs.YtcijeplafknokabDoor.u8) _ (unhide HRG) Tryd.underlying29 rfl (by rw [List.length_map, hdl]; exact Tryd.size_dig) ?_)
          | (rw [zb32]; refine wpList_store_row rfl 29 (.tmp 6) _ rfl wr.heap.size (brow d) rfl rfl _ (zb 32) (heap_alloc_new _ _) (unhide HSZ) (by rw [zb_size, brow_size, hdl]) (brow_one _) ?_)
          | (refine wpList_load_row rfl 29 (.tmp 6) rfl wr.heap.size rfl _ (brow d) (0, 0) _ (unhide HNW) Tryd.underlying29 rfl (unhide HSZ) ?_))
        refine Calls.mono (docForm_any z d _ hz hdl (unhide HD).2) ?_
        rintro e w4 ⟨rfl, k4⟩
        have HK4 := hide ((unhide HKN).trans k4 (by simp))
        clear k4
        cases hf : formB z d with
        | true =>
          rw [hf] at HN
          clear hf
          go_wp2
          go_roundw
          case rel => exact ⟨j + 1, by omega, by go_num, HN, HK4⟩
          case measure => simp [intOf]; omega
        | false =>
          have HF := hide (unhide HM hf)
          clear hf
          go_wp2
          go_ret
          exact ⟨by rw [unhide HF]; rfl, unhide HK4⟩
      · have hjl' : ¬ (j : Int) < ls.length := by omega
        have hje : j = ls.length := by omega
        subst hje
        rw [List.take_length] at HAJ
        have HE1 := hide (by rw [← unhide HE]; unfold fitB; rw [unhide HWD, unhide HAJ]; rfl : E = true)
        go_wp2
        go_ret
        exact ⟨by rw [unhide HE1]; rfl, unhide HKJ⟩

theorem newT_all (z : Int) (w : World) :
    Calls Tryd.prog 14 #[.int .i64 z] w fun e w' => ∃ p er, e = .returned (.tuple #[.pointer p, .int .i64 er]) ∧ (widthB z = true → ∃ t, p = some ⟨t, 0, none⟩ ∧ TreeAt z w' t (.slice none 0 0) []) ∧ Kept [] w w' := by
  cases hw : widthB z with
  | false => exact (newT_bad z w hw).mono fun e w' h => ⟨_, _, h.1, fun h9 => by simp at h9, h.2⟩
  | true => exact (newT_any z w hw).mono fun e w' ⟨t, h1, _, h2, h3⟩ => ⟨_, _, h1, fun _ => ⟨t, rfl, h2⟩, h3⟩

/-- What grown answers. -/
def GrD (z : Int) (ls : List (List Nat)) (w : World) (e : Ending) (w' : World) : Prop :=
  (fitB z ls = true ∧ ls.length ≤ 400 → ∃ t v qs, e = .returned (.tuple #[.pointer (some ⟨t, 0, none⟩), .bool true]) ∧ TreeAt z w' t v qs ∧ leavesK qs = ls ∧ (qs = [] → v = .slice none 0 0)) ∧
  (¬ (fitB z ls = true ∧ ls.length ≤ 400) → e = .returned (.tuple #[.pointer none, .bool false])) ∧ Kept [] w w'

set_option maxRecDepth 100000 in
set_option maxHeartbeats 1000000 in
theorem grown_any (z : Int) (lv : Value) (ls : List (List Nat)) (st : Nat) (w : World) (hz : -9223372036854775808 ≤ z ∧ z ≤ 9223372036854775807) (hst : 1 ≤ st ∧ st ≤ 1000) (hl : RdD w lv ls) (hT : Tabs w) (h6 : Tab6 w) :
    Calls Tryd.prog 6 #[.int .i64 z, lv, .int .i64 st] w (GrD z ls w) := by
  have HL := hide hl
  have HTB := hide hT
  have H6 := hide h6
  obtain ⟨ao, len, cap, rfl, h1, h2, h3, h4, h5⟩ := hl
  subst h1
  clear h4 h5 hT h6
  go_enter Tryd.func6, Tryd.ntmps6
  go_wp2_with fail
  refine (newT_all z w).mono ?_
  rintro e w1 ⟨p, er, rfl, hp, k1⟩
  have HP := hide hp
  have HK1 := hide k1
  clear hp k1
  by_cases h400 : 400 < ls.length
  · have h400' : (400 : Int) < ls.length := by omega
    go_wp2_with fail
    exact bodyPost_ret (results_tmp2 rfl _ _ _) rfl ⟨fun h => by omega, fun _ => rfl, unhide HK1⟩
  · have h400' : ¬ (400 : Int) < ls.length := by omega
    go_wp2_with fail
    refine (fit_any z (.slice ao ls.length cap) ls w1 hz ((unhide HL).old (unhide HK1))).mono ?_
    rintro e w2 ⟨rfl, k2⟩
    have HK2 := hide ((unhide HK1).trans k2 (by simp))
    cases hfit : fitB z ls with
    | false =>
      clear k2
      go_wp2_with fail
      exact bodyPost_ret (results_tmp2 rfl _ _ _) rfl ⟨fun h => by rw [hfit] at h; simp at h, fun _ => rfl, unhide HK2⟩
    | true =>
      have hfit2 := hfit
      unfold fitB at hfit2
      rw [Bool.and_eq_true] at hfit2
      obtain ⟨t0, rfl, htr⟩ := unhide HP hfit2.1
      have HT0 := hide (htr.old k2)
      have HALL := hide hfit2.2
      have HFIT := hide hfit
      clear k2 hfit hfit2 htr HP
      go_wp2_with fail
      go_loopw [8, 10] (fun t8 t10 wr => ∃ (at_ t : Nat) (v : Value) (qs : List Pk), t8 = .pointer (some ⟨t, 0, none⟩) ∧ t10 = .int .i64 (at_ : Int) ∧ at_ ≤ 2000 ∧ Hid (TreeAt z wr t v qs) ∧ Hid (leavesK qs = ls.take at_) ∧ Hid (qs = [] → v = .slice none 0 0) ∧ Hid (Kept [] w wr)) (fun _ t _ => ls.length - (intOf t).toNat)
      case atStart => exact ⟨0, t0, _, [], rfl, rfl, by omega, HT0, hide rfl, hide (fun _ => rfl), HK2⟩
      case round =>
        obtain ⟨at_, t, v, qs, rfl, rfl, hat, HT, HLV, HNL, HKR⟩ := hrel
        by_cases hlt : at_ < ls.length
        · have hlt' : (at_ : Int) < ls.length := by omega
          obtain ⟨hi, hhi⟩ : ∃ hi, min (at_ + st) ls.length = hi := ⟨_, rfl⟩
          have hmin : min ((at_ : Int) + (st : Int)) (ls.length : Int) = (hi : Int) := by omega
          have hh1 : at_ ≤ hi ∧ hi ≤ ls.length := by omega
          have HPC := hide (fun (ao' : Option Addr) (ho : at_ < hi → ∀ b off, ao = some ⟨b, off, none⟩ → ao' = some ⟨b, off + at_ * 32, none⟩) => (RdD.piece (c' := cap - at_) (unhide HL) hh1.1 hh1.2 (by omega) ao' ho).old (unhide HKR))
          have HPF := hide (List.all_eq_true.2 (fun d hd => List.all_eq_true.1 (unhide HALL) d (List.mem_of_mem_drop (List.mem_of_mem_take hd))) : ((ls.drop at_).take (hi - at_)).all (formB z) = true)
          have HTK := hide (by
            have e1 : ls.take (at_ + st) = ls.take hi := by
              rcases Nat.le_total (at_ + st) ls.length with h9 | h9
              · rw [show hi = at_ + st by omega]
              · rw [List.take_of_length_le h9, List.take_of_length_le (by omega)]
            rw [e1]
            have e2 : hi = at_ + (hi - at_) := by omega
            conv => rhs; rw [e2, List.take_add]
            : ls.take at_ ++ (ls.drop at_).take (hi - at_) = ls.take (at_ + st))
          have HLN := hide (by rw [unhide HLV, List.length_take, List.length_take]; omega : (leavesK qs).length + ((ls.drop at_).take (hi - at_)).length ≤ 1000000000)
          have q1 : ¬ (hi : Int) < at_ := by omega
          have q2 : ¬ (cap : Int) < hi := by omega
          have q3 : ¬ cap = at_ := by omega
          have q4 : ¬ at_ = cap := by omega
          have q5 : ¬ (cap : Int) = at_ := by omega
          have q6 : ¬ (hi : Int) < 0 := by omega
          have w1' : IntKind.i64.wrap ((at_ : Int) + (st : Int)) = (at_ : Int) + (st : Int) := by simp [IntKind.wrap, IntKind.signed, IntKind.bits]; omega
          go_wp2_with (simp only [hmin])
          refine (appendT_any z t v (.slice (Option.map (fun x => x.add (at_ * 32)) ao) (hi - at_) (cap - at_)) qs ((ls.drop at_).take (hi - at_)) wr (unhide HT) (unhide HNL) (unhide HPC _ (fun _ b off e => by rw [e]; simp [Addr.add_mid])) (unhide HLN) ((unhide HTB).kept (unhide HKR) (by simp) (by simp)) ((unhide H6).kept (unhide HKR))).mono ?_
          rintro e w4 ⟨ha, _, k4⟩
          obtain ⟨t2, v2, rs, rfl, _, htr2, hlv2, hnl2⟩ := ha (unhide HPF)
          have HT2 := hide htr2
          have HLV2 := hide (by rw [hlv2, unhide HLV]; exact unhide HTK : leavesK rs = ls.take (at_ + st))
          have HNL2 := hide hnl2
          have HKR2 := hide ((unhide HKR).trans k4 (by simp))
          clear htr2 hlv2 hnl2 k4 ha HT HLV HNL HKR HPC HPF HTK HLN
          go_wp2_with fail
          refine ⟨⟨at_ + st, t2, v2, rs, rfl, by simp, by omega, HT2, HLV2, HNL2, HKR2⟩, ?_⟩
          simp [intOf]
          omega
        · have hlt' : ¬ (at_ : Int) < ls.length := by omega
          have HLV2 := hide (by rw [unhide HLV, List.take_of_length_le (by omega)] : leavesK qs = ls)
          go_wp2_with fail
          exact bodyPost_ret (results_tmp2 rfl _ _ _) rfl ⟨fun _ => ⟨t, v, qs, rfl, unhide HT, unhide HLV2, unhide HNL⟩, fun h => absurd ⟨unhide HFIT, by omega⟩ h, unhide HKR⟩
end Go.Proofs.YtcijeplafknokabDoor
namespace Go.Proofs.YtcijeplafknokabDoor
open Go.RowKit Go.BigFrame
set_option linter.unusedVariables false
set_option linter.unusedSimpArgs false

set_option maxRecDepth 100000 in
set_option maxHeartbeats 400000 in
theorem rooted_any (z : Int) (t : Nat) (v : Value) (ps : List Pk) (n : Nat) (w : World) (hT : TreeAt z w t v ps) (hn : n ≤ (leavesK ps).length) (hb : (leavesK ps).length < 4096) (hTb : Tabs w) (h6 : Tab6 w) :
    Calls Tryd.prog 8 #[.pointer (some ⟨t, 0, none⟩), .int .i64 n] w fun e w' => e = .returned (.tuple #[.agg (brow (rgD z (leavesK ps) 0 n)), .bool true]) ∧ Kept [] w w' := by
  have hdl := (rgD_len hT.pk 0 n).1
  have hE : rgE (leavesK ps) 0 n = 0 := if_neg (by omega)
  have k0 := (Kept.refl [] w).alloc (.cells (zb 32) 29)
  have HR := hide (rootT_all z t v ps n _ (hT.old k0) hb (hTb.kept k0 (by simp) (by simp)) (h6.kept k0))
  rw [hE] at HR
  have HZ := hide (heap_alloc_new w (.cells (zb 32) 29))
  have HK := hide k0
  have hwn : IntKind.u64.wrap (n : Int) = (n : Int) := by rw [wrU]; omega
  generalize rgD z (leavesK ps) 0 n = D at HR hdl ⊢
  clear k0 hT
  go_enter Tryd.func8, Tryd.ntmps8
  go_wp2_with (simp only [hwn])
  rw [zb32]
  refine (unhide HR).mono ?_
  rintro e w3 ⟨rfl, k3⟩
  have HZ3 := hide (k3.heap (unhide HZ) (by simp))
  have HK3 := hide ((unhide HK).trans k3 (by simp))
  clear k3
  have HN3 := hide (cell_new w3 D)
  have HO3 := hide (kept_old w3 D)
  have HZ4 := hide ((unhide HO3).heap (unhide HZ3) (by simp))
  have HK5 := hide (((unhide HK3).trans (unhide HO3) (by simp)).setRow (g := w.heap.size) (Or.inr (Nat.le_refl _)) (brow D))
  go_wp2_with (first
    | (rw [zb32]; refine wpList_store_row rfl 29 (.tmp 6) _ rfl w3.heap.size (brow D) rfl rfl _ (zb 32) (heap_alloc_new _ _) (Tryd.szD hdl) (by rw [zb_size, brow_size, hdl]) (brow_one _) ?_)
    | (refine wpList_load_row rfl 29 (.tmp 6) rfl w3.heap.size rfl _ (brow D) (0, 0) _ (unhide HN3) Tryd.underlying29 rfl (Tryd.szD hdl) ?_)
    | (refine wpList_store_row rfl 29 (.tmp 4) _ rfl w.heap.size (brow D) rfl rfl _ (zb 32) (unhide HZ4) (Tryd.szD hdl) (by rw [zb_size, brow_size, hdl]) (brow_one _) ?_))
  refine bodyPost_ret (v := .tuple #[.agg (brow D), .bool true]) ?_ rfl ⟨rfl, unhide HK5⟩
  exact results_cell_tmp rfl _ _ w.heap.size _ (brow D) (0, 0) _ rfl (setRow_heap _ _ _ _ _ _ (unhide HZ4)) Tryd.underlying29 rfl (Tryd.szD hdl) _ rfl
end Go.Proofs.YtcijeplafknokabDoor
namespace Go.Proofs.YtcijeplafknokabDoor
open Go.RowKit Go.BigFrame
set_option linter.unusedVariables false
set_option linter.unusedSimpArgs false

theorem rgD_prefix {z : Int} {ls xs : List (List Nat)} {i : Nat} (h : i ≤ ls.length) : rgD z (ls ++ xs) 0 i = rgD z ls 0 i := by
  unfold rgD rngD
  rw [if_neg (by rw [List.length_append]; omega), if_neg (by omega)]
  simp only [List.drop_zero, Nat.sub_zero]
  rw [List.take_append_of_le_length h]
theorem lfD_at {ls xs : List (List Nat)} {i n : Nat} (hn : n = ls.length + i) (h : i < xs.length) : lfD (ls ++ xs) n = xs.getD i [] := by
  unfold lfD
  rw [if_neg (by rw [List.length_append]; omega), hn, List.getD_eq_getElem?_getD, List.getElem?_append_right (by omega), Nat.add_sub_cancel_left, ← List.getD_eq_getElem?_getD]
theorem lfE_at {ls : List (List Nat)} {n : Nat} (h : n < ls.length) : lfE ls n = 0 := if_neg (by omega)
theorem fit_all {z : Int} {ls : List (List Nat)} (h : fitB z ls = true) : widthB z = true ∧ ls.all (formB z) = true := by
  unfold fitB at h; rw [Bool.and_eq_true] at h; exact h
theorem getD_dg {w : World} {v : Value} {ls : List (List Nat)} (h : RdD w v ls) {i : Nat} (hi : i < ls.length) : (ls.getD i []).length = 32 := by
  obtain ⟨ao, len, cap, rfl, h1, h2, h3, h4, h5⟩ := h
  exact (h4 _ (by rw [List.getD_eq_getElem?_getD, List.getElem?_eq_getElem hi]; exact List.getElem_mem hi)).1
end Go.Proofs.YtcijeplafknokabDoor
namespace Go.Proofs.YtcijeplafknokabDoor
open Go.ChangeShapes Go.WideShapes Go.ChangeAt Go.RowKit Go.Deep
set_option linter.unusedVariables false
set_option linter.unusedSimpArgs false

theorem own : ownKnob Tryd.prog.godebug = none := by kernel_rfl
theorem laidOut : laidOutB Tryd.prog = true := by kernel_rfl
theorem byte_of_wf {x : Int} (h : (Lit.int .u8 x).wf = true) : 0 ≤ x ∧ x < 256 := by
  simp [Lit.wf, IntKind.min, IntKind.max, IntKind.signed, IntKind.bits] at h
  exact ⟨by omega, by omega⟩
theorem int_of_wf {x : Int} (h : (Lit.int .i64 x).wf = true) : -9223372036854775808 ≤ x ∧ x ≤ 9223372036854775807 := by
  simp [Lit.wf, IntKind.min, IntKind.max, IntKind.signed, IntKind.bits] at h
  exact ⟨by omega, by omega⟩

theorem bulk_one {H : Type} (d : DataW H) : 1 ≤ Rows.uptoBulk d := by
  cases d with
  | lit l => cases l <;> simp [Rows.uptoBulk]
  | nil => simp [Rows.uptoBulk]
  | ptr d => simp [Rows.uptoBulk]
  | slice elems spare => simp [Rows.uptoBulk]
  | agg parts => simp [Rows.uptoBulk]
  | iface t d => simp [Rows.uptoBulk]
  | map entries => simp [Rows.uptoBulk]
  | held h => simp [Rows.uptoBulk]
theorem bulk_len {H : Type} (l : List (DataW H)) : l.length ≤ Rows.uptoBulkAll l := by
  induction l with
  | nil => simp [Rows.uptoBulkAll]
  | cons x r ih => have := bulk_one x; simp only [Rows.uptoBulkAll, List.length_cons]; omega
theorem Tryd.bytes5 : Tryd.prog.bytesOf 5 = 1 := by kernel_rfl

section
variable {H : Type} {enc : TypeId × Value → H} {W : World}

/-- Bytes that came in, as the walks want them, of whatever length. -/
theorem open_bytes {fuel : Nat} {cs : List Value} {x : DataW H × List MemPlace} (h : DataW.trod enc Tryd.prog W 0 (fun _ => true) true fuel 58 cs = some x) :
    ∃ v bs, cs = [v] ∧ (bs.length ≤ 140737488355328 → Rd W v bs) ∧ ((bs = [] ∧ x.1 = .nil) ∨ ∃ elems spare, x.1 = .slice elems spare ∧ elems.length = bs.length) := by
  rcases open_ints Tryd.underlying58 Tryd.underlying5 (by kernel_rfl) h with ⟨rfl, rfl⟩ | ⟨a, len, cap, zs, rfl, _, hl, hm, hz, rfl, hcell, hwz⟩
  · exact ⟨_, [], rfl, fun _ => Rd.nil W, .inl ⟨rfl, rfl⟩⟩
  · have h2 : (lits (H := H) .u8 (zs.take len)).length = len := by simp only [lits, List.length_map, List.length_take]; simp at hz; omega
    have hbl : ((zs.take len).map Int.toNat).length = len := by simp at hz; simp; omega
    refine ⟨_, (zs.take len).map Int.toNat, rfl, fun hB => ⟨_, _, _, rfl, hbl, hl, ⟨by unfold maxLen at hm; omega, by omega⟩, by simp, ?_, ?_⟩, .inr ⟨_, _, rfl, by rw [h2, hbl]⟩⟩
    · intro y hy
      obtain ⟨z, hz1, rfl⟩ := List.mem_map.1 hy
      have := byte_of_wf (hwz z (List.mem_of_mem_take hz1)); omega
    · intro hp
      simp at hz
      have hc0 := hcell 0 (by omega)
      obtain ⟨b, off, spot⟩ := a
      have hspot : spot = none := by simpa [Addr.add] using World.cell?_spot hc0
      subst hspot
      refine ⟨b, off, rfl, fun i hi => ?_⟩
      have hc := hcell i (by omega)
      have hzi : i < zs.length := by omega
      rw [Addr.add_mid] at hc
      rw [hc]
      have hw := byte_of_wf (hwz (zs[i]) (List.getElem_mem hzi))
      simp only [List.getD_eq_getElem?_getD, List.getElem?_eq_getElem hzi, Option.getD_some, List.getElem?_map, List.getElem?_take, hi, if_true, Option.map_some]
      simp [u8]; omega
/-- Their length, by the reach. -/
theorem reach_bytes {ts : List TypeId} {ds : List (DataW H)} (h : (DataW.weightsEach Tryd.prog ts ds).all (· ≤ reachBytes) = true) {j : Nat} (ht : ts[j]? = some 58) {d : DataW H} (hd : ds[j]? = some d) {bs : List Nat}
    (hx : (bs = [] ∧ d = .nil) ∨ ∃ elems spare, d = .slice elems spare ∧ elems.length = bs.length) : bs.length ≤ 140737488351232 := by
  rcases hx with ⟨rfl, _⟩ | ⟨elems, spare, rfl, he⟩
  · simp
  · have := sized_slice h ht hd Tryd.underlying58
    rw [Tryd.bytes5, Nat.mul_one] at this
    unfold reachBytes at this
    omega
/-- Their length, by the bulk. -/
theorem bulk_bytes {d : DataW H} {bs : List Nat} (hx : (bs = [] ∧ d = .nil) ∨ ∃ elems spare, d = .slice elems spare ∧ elems.length = bs.length) : bs.length + 1 ≤ Rows.uptoBulk d := by
  rcases hx with ⟨rfl, rfl⟩ | ⟨elems, spare, rfl, he⟩
  · simp [Rows.uptoBulk]
  · have := bulk_len elems
    simp only [Rows.uptoBulk]; omega
end
end Go.Proofs.YtcijeplafknokabDoor
namespace Go.Proofs.YtcijeplafknokabDoor
open Go.RowKit
set_option linter.unusedVariables false
set_option linter.unusedSimpArgs false

/-- The slice value v reads as these numbers of 64 bits. -/
def RdQ (w : World) (v : Value) (xs : List Nat) : Prop :=
  ∃ (ao : Option Addr) (len cap : Nat), v = .slice ao len cap ∧ xs.length = len ∧ len ≤ cap ∧ cap ≤ 9223372036854775807 ∧ (∀ x ∈ xs, x < 18446744073709551616) ∧
    (0 < len → ∃ b off, ao = some ⟨b, off, none⟩ ∧ ∀ i, i < len → w.cell? ⟨b, off + i, none⟩ = some (.int .u64 ((xs.getD i 0 : Nat) : Int)))
theorem RdQ.old {w0 w : World} {v : Value} {ws : List Nat} (h : RdQ w0 v ws) (k : Kept [] w0 w) : RdQ w v ws := by
  obtain ⟨ao, len, cap, rfl, h1, h2, h3, h5, h6⟩ := h
  refine ⟨ao, len, cap, rfl, h1, h2, h3, h5, fun hp => ?_⟩
  obtain ⟨b, off, rfl, hc⟩ := h6 hp
  exact ⟨b, off, rfl, fun i hi => k.cell (hc i hi) (by simp)⟩
end Go.Proofs.YtcijeplafknokabDoor
namespace Go.Proofs.YtcijeplafknokabDoor
open Go.RowKit Go.BigFrame
set_option linter.unusedVariables false
set_option linter.unusedSimpArgs false

theorem getD_left {xs ys : List (List Nat)} {i : Nat} (h : i < xs.length) : (xs ++ ys).getD i [] = xs.getD i [] := by
  rw [List.getD_eq_getElem?_getD, List.getElem?_append_left h, ← List.getD_eq_getElem?_getD]

set_option maxRecDepth 100000 in
set_option maxHeartbeats 4000000 in
theorem mtreeForks_go (z : Int) (lv lv2 lv3 : Value) (ls l2 l3 : List (List Nat)) (w : World) (hz : -9223372036854775808 ≤ z ∧ z ≤ 9223372036854775807) (hl : RdD w lv ls) (hl2 : RdD w lv2 l2) (hl3 : RdD w lv3 l3) (hx2 : l2.length ≤ 1048576) (hx3 : l3.length ≤ 1048576) (hT : Tabs w) (h6 : Tab6 w) :
    Calls Tryd.prog 3 #[.int .i64 z, lv, lv2, lv3] w fun e w' => e = .returned (.bool true) ∧ Kept [] w w' := by
  have HTB := hide hT
  have H6 := hide h6
  have HL := hide hl
  have HL2 := hide hl2
  have HL3 := hide hl3
  obtain ⟨la, ll, lc, rfl, l1e, q1, q2, _⟩ := hl
  obtain ⟨a2, n2, c2, rfl, l2e, q3, q4, _⟩ := hl2
  obtain ⟨a3, n3, c3, rfl, l3e, q5, q6, _⟩ := hl3
  have hm2 : n2 ≤ 1048576 := by omega
  have hm3 : n3 ≤ 1048576 := by omega
  have HLL := hide l1e
  have HLL2 := hide l2e
  have HLL3 := hide l3e
  clear hT h6 hx2 hx3
  go_enter Tryd.func3, Tryd.ntmps3
  go_wp2_with fail
  refine (mtawake_any w (unhide HTB) (unhide H6)).mono ?_
  rintro e w1 ⟨rfl, k1⟩
  have HK1 := hide k1
  clear k1
  go_wp2_with fail
  refine (grown_any z (.slice la ll lc) ls 4 w1 hz (by omega) ((unhide HL).old (unhide HK1)) ((unhide HTB).kept (unhide HK1) (by simp) (by simp)) ((unhide H6).kept (unhide HK1))).mono ?_
  rintro e w2 ⟨hg1, hg2, k2⟩
  have HK2 := hide ((unhide HK1).trans k2 (by simp))
  clear k2 HK1
  by_cases hfit : fitB z ls = true ∧ ls.length ≤ 400
  · obtain ⟨t, v, qs, rfl, htr, hlv, hnl⟩ := hg1 hfit
    have HTR := hide htr
    have HLV := hide hlv
    have HNLt := hide hnl
    have hl4 : ll ≤ 400 := by have := unhide HLL; have := hfit.2; omega
    have hwd := (fit_all hfit.1).1
    clear hg1 hg2 htr hlv hnl hfit
    go_wp2_with fail
    refine (fit_any z (.slice a2 n2 c2) l2 w2 hz ((unhide HL2).old (unhide HK2))).mono ?_
    rintro e w3 ⟨rfl, k3⟩
    have HK3 := hide ((unhide HK2).trans k3 (by simp))
    have HT3 := hide ((unhide HTR).old k3)
    clear k3 HTR HK2
    cases hf2 : fitB z l2 with
    | false =>
      go_wp2_with fail
      go_ret
      exact ⟨rfl, unhide HK3⟩
    | true =>
      have HF2 := hide (fit_all hf2).2
      clear hf2
      go_wp2_with fail
      refine (fit_any z (.slice a3 n3 c3) l3 w3 hz ((unhide HL3).old (unhide HK3))).mono ?_
      rintro e w4 ⟨rfl, k4⟩
      have HK4 := hide ((unhide HK3).trans k4 (by simp))
      have HT4 := hide ((unhide HT3).old k4)
      clear k4 HT3 HK3
      cases hf3 : fitB z l3 with
      | false =>
        go_wp2_with fail
        go_ret
        exact ⟨rfl, unhide HK4⟩
      | true =>
        have HF3 := hide (fit_all hf3).2
        clear hf3
        have hsm : IntKind.i64.wrap ((n2 : Int) + (n3 : Int)) = (n2 : Int) + (n3 : Int) := by simp [IntKind.wrap, IntKind.signed, IntKind.bits]; omega
        by_cases h400 : 400 < n2 + n3
        · have h400' : (400 : Int) < (n2 : Int) + n3 := by omega
          go_wp2_with fail
          go_ret
          exact ⟨rfl, unhide HK4⟩
        · have h400' : ¬ (400 : Int) < (n2 : Int) + n3 := by omega
          go_wp2_with fail
          have hd0 : (rgD z ls 0 ll).length = 32 := by have h9 := (rgD_len (unhide HT4).pk 0 ll).1; rw [unhide HLV] at h9; exact h9
          have HRT0 := hide (by
            have h9 := rooted_any z t v qs ll w4 (unhide HT4) (by rw [unhide HLV]; omega) (by rw [unhide HLV]; omega) ((unhide HTB).kept (unhide HK4) (by simp) (by simp)) ((unhide H6).kept (unhide HK4))
            rw [unhide HLV] at h9
            exact h9 : Calls Tryd.prog 8 #[.pointer (some ⟨t, 0, none⟩), .int .i64 ll] w4 fun e w' => e = .returned (.tuple #[.agg (brow (rgD z ls 0 ll)), .bool true]) ∧ Kept [] w4 w')
          obtain ⟨D0, hD0⟩ : ∃ D0, rgD z ls 0 ll = D0 := ⟨_, rfl⟩
          have HD0 := hide hD0
          rw [hD0] at HRT0 hd0
          clear hD0
          have HKR4 := hide (Kept.refl [] w4)
          refine (unhide HRT0).mono ?_
          rintro e wa9 ⟨rfl, ka⟩
          have HKa9 := hide ((unhide HKR4).trans ka (by simp))
          clear ka
          have HN9 := hide (cell_new wa9 D0)
          have HO9 := hide (kept_old wa9 D0)
          have HKb9 := hide ((unhide HKa9).trans (unhide HO9) (by simp))
          go_wp2_with (first
            | (rw [zb32]; refine wpList_store_row rfl 29 (.tmp 11) _ rfl wa9.heap.size (brow D0) rfl rfl _ (zb 32) (heap_alloc_new _ _) (Tryd.szD hd0) (by rw [zb_size, brow_size, hd0]) (brow_one _) ?_))
          obtain ⟨wb9, hwb⟩ : ∃ wb, (wa9.alloc (.cells (zb 32) 29)).setRow wa9.heap.size (brow D0) = wb := ⟨_, rfl⟩
          rw [hwb] at HN9 HO9 HKb9 ⊢
          clear hwb
          have HK5 := hide ((unhide HK4).trans (unhide HKb9) (by simp))
          have HT5 := hide ((unhide HT4).old (unhide HKb9))
          refine (appendT_any z t v (.slice a2 n2 c2) qs l2 wb9 (unhide HT5) (unhide HNLt) ((unhide HL2).old (unhide HK5)) (by rw [unhide HLV]; (try simp only [List.length_append]); omega) ((unhide HTB).kept (unhide HK5) (by simp) (by simp)) ((unhide H6).kept (unhide HK5))).mono ?_
          rintro e wA ⟨ha, _, ka⟩
          obtain ⟨ta, va, qa, rfl, _, htr, hlv, hnl⟩ := ha (unhide HF2)
          have HLA := hide (by rw [hlv, unhide HLV] : leavesK qa = ls ++ l2)
          have HTAa := hide htr
          have HNLa := hide hnl
          have HKA := hide ((unhide HK5).trans ka (by simp))
          have HTa := hide ((unhide HT5).old ka)
          have HN9a := hide (ka.heap (unhide HN9) (by simp))
          clear ha ka htr hlv hnl
          go_wp2_with fail
          refine (appendT_any z t v (.slice a3 n3 c3) qs l3 wA (unhide HTa) (unhide HNLt) ((unhide HL3).old (unhide HKA)) (by rw [unhide HLV]; (try simp only [List.length_append]); omega) ((unhide HTB).kept (unhide HKA) (by simp) (by simp)) ((unhide H6).kept (unhide HKA))).mono ?_
          rintro e wB ⟨ha, _, ka⟩
          obtain ⟨tb, vb, qb, rfl, _, htr, hlv, hnl⟩ := ha (unhide HF3)
          have HLB := hide (by rw [hlv, unhide HLV] : leavesK qb = ls ++ l3)
          have HTBb := hide htr
          have HKB := hide ((unhide HKA).trans ka (by simp))
          have HTb := hide ((unhide HTa).old ka)
          have HTAb := hide ((unhide HTAa).old ka)
          have HN9b := hide (ka.heap (unhide HN9a) (by simp))
          clear ha ka htr hlv hnl
          go_wp2_with fail
          refine (appendT_any z ta va (.slice a3 n3 c3) qa l3 wB (unhide HTAb) (unhide HNLa) ((unhide HL3).old (unhide HKB)) (by rw [unhide HLA]; (try simp only [List.length_append]); omega) ((unhide HTB).kept (unhide HKB) (by simp) (by simp)) ((unhide H6).kept (unhide HKB))).mono ?_
          rintro e w6 ⟨ha, _, ka⟩
          obtain ⟨tc, vc, qc, rfl, _, htr, hlv, hnl⟩ := ha (unhide HF3)
          have HLC := hide (by rw [hlv, unhide HLA] : leavesK qc = ls ++ l2 ++ l3)
          have HTC := hide htr
          have HK6 := hide ((unhide HKB).trans ka (by simp))
          have HT6 := hide ((unhide HTb).old ka)
          have HTA := hide ((unhide HTAb).old ka)
          have HTB2 := hide ((unhide HTBb).old ka)
          have HN96 := hide (ka.heap (unhide HN9b) (by simp))
          clear ha ka htr hlv hnl HTAa HTAb HTBb HTa HTb HT5 HT4 HN9a HN9b HN9 HKA HKB HK5
          go_wp2_with fail
          go_loopw [18] (fun t18 wr => ∃ (i : Nat), i ≤ ll + 1 ∧ t18 = .int .i64 (i : Int) ∧ Hid (Kept [] w6 wr)) (fun t _ => ll + 1 - (intOf t).toNat)
          case atStart => exact ⟨0, by omega, rfl, hide (Kept.refl _ _)⟩
          case round =>
            obtain ⟨i, hi, rfl, HKR⟩ := hrel
            by_cases hil : i ≤ ll
            · have hil' : (i : Int) ≤ ll := by omega
              have HA := hide (fun W (kk : Kept [] w6 W) => (by
                have h9 := rooted_any z t v qs i W ((unhide HT6).old kk) (by rw [unhide HLV]; (try simp only [List.length_append]); omega) (by rw [unhide HLV]; (try simp only [List.length_append]); omega) ((unhide HTB).kept ((unhide HK6).trans kk (by simp)) (by simp) (by simp)) ((unhide H6).kept ((unhide HK6).trans kk (by simp)))
                rw [unhide HLV] at h9
                exact h9 : Calls Tryd.prog 8 #[.pointer (some ⟨t, 0, none⟩), .int .i64 i] W fun e w' => e = .returned (.tuple #[.agg (brow (rgD z ls 0 i)), .bool true]) ∧ Kept [] W w'))
              have HB := hide (fun W (kk : Kept [] w6 W) => (by
                have h9 := rooted_any z ta va qa i W ((unhide HTA).old kk) (by rw [unhide HLA]; (try simp only [List.length_append]); omega) (by rw [unhide HLA]; (try simp only [List.length_append]); omega) ((unhide HTB).kept ((unhide HK6).trans kk (by simp)) (by simp) (by simp)) ((unhide H6).kept ((unhide HK6).trans kk (by simp)))
                rw [unhide HLA, rgD_prefix (by omega)] at h9
                exact h9 : Calls Tryd.prog 8 #[.pointer (some ⟨ta, 0, none⟩), .int .i64 i] W fun e w' => e = .returned (.tuple #[.agg (brow (rgD z ls 0 i)), .bool true]) ∧ Kept [] W w'))
              have HC := hide (fun W (kk : Kept [] w6 W) => (by
                have h9 := rooted_any z tb vb qb i W ((unhide HTB2).old kk) (by rw [unhide HLB]; (try simp only [List.length_append]); omega) (by rw [unhide HLB]; (try simp only [List.length_append]); omega) ((unhide HTB).kept ((unhide HK6).trans kk (by simp)) (by simp) (by simp)) ((unhide H6).kept ((unhide HK6).trans kk (by simp)))
                rw [unhide HLB, rgD_prefix (by omega)] at h9
                exact h9 : Calls Tryd.prog 8 #[.pointer (some ⟨tb, 0, none⟩), .int .i64 i] W fun e w' => e = .returned (.tuple #[.agg (brow (rgD z ls 0 i)), .bool true]) ∧ Kept [] W w'))
              have hdl := (rgD_len (unhide HT6).pk 0 i).1
              rw [unhide HLV] at hdl
              generalize rgD z ls 0 i = D at HA HB HC hdl
              have hqd : ∀ W, (Op.equalIn 10000 29 (.agg (brow D)) (.agg (brow D))).run Tryd.prog W = .ok true W := dig_same D hdl
              go_wp2_with fail
              refine (unhide HA wr (unhide HKR)).mono ?_
              rintro e wa1 ⟨rfl, ka⟩
              have HKa1 := hide ((unhide HKR).trans ka (by simp))
              clear ka
              have HN1 := hide (cell_new wa1 D)
              have HO1 := hide (kept_old wa1 D)
              have HKb1 := hide ((unhide HKa1).trans (unhide HO1) (by simp))
              go_wp2_with (first
                | (rw [zb32]; refine wpList_store_row rfl 29 (.tmp 19) _ rfl wa1.heap.size (brow D) rfl rfl _ (zb 32) (heap_alloc_new _ _) (Tryd.szD hdl) (by rw [zb_size, brow_size, hdl]) (brow_one _) ?_))
              obtain ⟨wb1, hwb⟩ : ∃ wb, (wa1.alloc (.cells (zb 32) 29)).setRow wa1.heap.size (brow D) = wb := ⟨_, rfl⟩
              rw [hwb] at HN1 HO1 HKb1 ⊢
              clear hwb
              refine (unhide HB wb1 (unhide HKb1)).mono ?_
              rintro e wa2 ⟨rfl, ka⟩
              have HKa2 := hide ((unhide HKb1).trans ka (by simp))
              have HN1a2 := hide (ka.heap (unhide HN1) (by simp))
              clear ka
              have HN2 := hide (cell_new wa2 D)
              have HO2 := hide (kept_old wa2 D)
              have HKb2 := hide ((unhide HKa2).trans (unhide HO2) (by simp))
              have HN1b2 := hide ((unhide HO2).heap (unhide HN1a2) (by simp))
              go_wp2_with (first
                | (rw [zb32]; refine wpList_store_row rfl 29 (.tmp 21) _ rfl wa2.heap.size (brow D) rfl rfl _ (zb 32) (heap_alloc_new _ _) (Tryd.szD hdl) (by rw [zb_size, brow_size, hdl]) (brow_one _) ?_))
              obtain ⟨wb2, hwb⟩ : ∃ wb, (wa2.alloc (.cells (zb 32) 29)).setRow wa2.heap.size (brow D) = wb := ⟨_, rfl⟩
              rw [hwb] at HN2 HO2 HKb2 HN1b2 ⊢
              clear hwb
              refine (unhide HC wb2 (unhide HKb2)).mono ?_
              rintro e wa3 ⟨rfl, ka⟩
              have HKa3 := hide ((unhide HKb2).trans ka (by simp))
              have HN1b2a3 := hide (ka.heap (unhide HN1b2) (by simp))
              have HN2a3 := hide (ka.heap (unhide HN2) (by simp))
              clear ka
              have HN3 := hide (cell_new wa3 D)
              have HO3 := hide (kept_old wa3 D)
              have HKb3 := hide ((unhide HKa3).trans (unhide HO3) (by simp))
              have HN1b2b3 := hide ((unhide HO3).heap (unhide HN1b2a3) (by simp))
              have HN2b3 := hide ((unhide HO3).heap (unhide HN2a3) (by simp))
              go_wp2_with (first
                | (rw [zb32]; refine wpList_store_row rfl 29 (.tmp 23) _ rfl wa3.heap.size (brow D) rfl rfl _ (zb 32) (heap_alloc_new _ _) (Tryd.szD hdl) (by rw [zb_size, brow_size, hdl]) (brow_one _) ?_)
                | (refine wpList_load_rowG rfl 29 (.tmp 19) rfl wa1.heap.size rfl _ (brow D) (0, 0) _ (unhide HN1b2b3) Tryd.underlying29 rfl (Tryd.szD hdl) ?_)
                | (refine wpList_load_rowG rfl 29 (.tmp 21) rfl wa2.heap.size rfl _ (brow D) (0, 0) _ (unhide HN2b3) Tryd.underlying29 rfl (Tryd.szD hdl) ?_)
                | (refine wpList_load_rowG rfl 29 (.tmp 23) rfl wa3.heap.size rfl _ (brow D) (0, 0) _ (unhide HN3) Tryd.underlying29 rfl (Tryd.szD hdl) ?_))
              refine ⟨⟨i + 1, by omega, by simp, HKb3⟩, ?_⟩
              simp [intOf]
              omega
            · have hil' : ¬ (i : Int) ≤ ll := by omega
              go_wp2_with fail
              go_loopw [153] (fun t18 wr => ∃ (i : Nat), i ≤ n2 ∧ t18 = .int .i64 (i : Int) ∧ Hid (Kept [] w6 wr)) (fun t _ => n2 - (intOf t).toNat)
              case atStart => exact ⟨0, by omega, rfl, HKR⟩
              case round =>
                obtain ⟨i, hi, rfl, HKR⟩ := hrel
                by_cases hil : i < n2
                · have hil' : (i : Int) < n2 := by omega
                  obtain ⟨_, _, _, he, _, _, _, _, hcl⟩ := (unhide HL2).old ((unhide HK6).trans (unhide HKR) (by simp))
                  cases he
                  obtain ⟨b, o, rfl, hcell⟩ := hcl (by omega)
                  have HRG := hide (hcell i hil)
                  have hdl := getD_dg (unhide HL2) (by omega : i < l2.length)
                  clear hcell hcl
                  have HA := hide (fun W (kk : Kept [] w6 W) => (by
                    have h9 := leafT_all z ta va qa (ll + i) W ((unhide HTA).old kk) (by rw [unhide HLA]; (try simp only [List.length_append]); omega)
                    rw [unhide HLA, lfD_at (by rw [unhide HLL]) (by omega), lfE_at (by (try simp only [List.length_append]); omega), show ((ll + i : Nat) : Int) = (ll : Int) + (i : Int) from by omega] at h9
                    exact h9 : Calls Tryd.prog 10 #[.pointer (some ⟨ta, 0, none⟩), .int .u64 ((ll : Int) + (i : Int))] W fun e w' => e = .returned (.tuple #[.agg (brow (l2.getD i [])), .int .i64 0]) ∧ Kept [] W w'))
                  have HB := hide (fun W (kk : Kept [] w6 W) => (by
                    have h9 := leafT_all z tc vc qc (ll + i) W ((unhide HTC).old kk) (by rw [unhide HLC]; (try simp only [List.length_append]); omega)
                    rw [unhide HLC, List.append_assoc, lfD_at (by rw [unhide HLL]) (by (try simp only [List.length_append]); omega), getD_left (by omega), lfE_at (by (try simp only [List.length_append]); omega), show ((ll + i : Nat) : Int) = (ll : Int) + (i : Int) from by omega] at h9
                    exact h9 : Calls Tryd.prog 10 #[.pointer (some ⟨tc, 0, none⟩), .int .u64 ((ll : Int) + (i : Int))] W fun e w' => e = .returned (.tuple #[.agg (brow (l2.getD i [])), .int .i64 0]) ∧ Kept [] W w'))
                  have hs1 : IntKind.u64.wrap ((ll : Int) + (i : Int)) = (ll : Int) + (i : Int) := by rw [wrU]; omega
                  have hs2 : IntKind.u64.wrap ((ll : Int) + (n2 : Int) + (i : Int)) = (ll : Int) + (n2 : Int) + (i : Int) := by rw [wrU]; omega
                  generalize l2.getD i [] = D at HA HB HRG hdl
                  have hqd : ∀ W, (Op.equalIn 10000 29 (.agg (brow D)) (.agg (brow D))).run Tryd.prog W = .ok true W := dig_same D hdl
                  have HN0 := hide (cell_new wr D)
                  have HO0 := hide (kept_old wr D)
                  have HKb0 := hide ((unhide HKR).trans (unhide HO0) (by simp))
                  go_wp2_with (first
                    | (refine wpList_load_mid rfl 29 (.tmp 156) rfl b (o + i * 32) rfl (D.map Go.Proofs.YtcijeplafknokabDoor.u8) _ (unhide HRG) Tryd.underlying29 rfl (by rw [List.length_map, hdl]; exact Tryd.size_dig) ?_)
                    | (rw [zb32]; refine wpList_store_row rfl 29 (.tmp 26) _ rfl wr.heap.size (brow D) rfl rfl _ (zb 32) (heap_alloc_new _ _) (Tryd.szD hdl) (by rw [zb_size, brow_size, hdl]) (brow_one _) ?_)
                    | (simp only [hs1])
                    | (simp only [hs2]))
                  obtain ⟨wb0, hwb⟩ : ∃ wb, (wr.alloc (.cells (zb 32) 29)).setRow wr.heap.size (brow D) = wb := ⟨_, rfl⟩
                  rw [hwb] at HN0 HO0 HKb0 ⊢
                  clear hwb
                  refine (unhide HA wb0 (unhide HKb0)).mono ?_
                  rintro e wa1 ⟨rfl, ka⟩
                  have HKa1 := hide ((unhide HKb0).trans ka (by simp))
                  have HN0a1 := hide (ka.heap (unhide HN0) (by simp))
                  clear ka
                  have HN1 := hide (cell_new wa1 D)
                  have HO1 := hide (kept_old wa1 D)
                  have HKb1 := hide ((unhide HKa1).trans (unhide HO1) (by simp))
                  have HN0b1 := hide ((unhide HO1).heap (unhide HN0a1) (by simp))
                  go_wp2_with (first
                    | (rw [zb32]; refine wpList_store_row rfl 29 (.tmp 27) _ rfl wa1.heap.size (brow D) rfl rfl _ (zb 32) (heap_alloc_new _ _) (Tryd.szD hdl) (by rw [zb_size, brow_size, hdl]) (brow_one _) ?_)
                    | (simp only [hs1])
                    | (simp only [hs2]))
                  obtain ⟨wb1, hwb⟩ : ∃ wb, (wa1.alloc (.cells (zb 32) 29)).setRow wa1.heap.size (brow D) = wb := ⟨_, rfl⟩
                  rw [hwb] at HN1 HO1 HKb1 HN0b1 ⊢
                  clear hwb
                  refine (unhide HB wb1 (unhide HKb1)).mono ?_
                  rintro e wa2 ⟨rfl, ka⟩
                  have HKa2 := hide ((unhide HKb1).trans ka (by simp))
                  have HN0b1a2 := hide (ka.heap (unhide HN0b1) (by simp))
                  have HN1a2 := hide (ka.heap (unhide HN1) (by simp))
                  clear ka
                  have HN2 := hide (cell_new wa2 D)
                  have HO2 := hide (kept_old wa2 D)
                  have HKb2 := hide ((unhide HKa2).trans (unhide HO2) (by simp))
                  have HN0b1b2 := hide ((unhide HO2).heap (unhide HN0b1a2) (by simp))
                  have HN1b2 := hide ((unhide HO2).heap (unhide HN1a2) (by simp))
                  go_wp2_with (first
                    | (rw [zb32]; refine wpList_store_row rfl 29 (.tmp 29) _ rfl wa2.heap.size (brow D) rfl rfl _ (zb 32) (heap_alloc_new _ _) (Tryd.szD hdl) (by rw [zb_size, brow_size, hdl]) (brow_one _) ?_)
                    | (refine wpList_load_rowG rfl 29 (.tmp 26) rfl wr.heap.size rfl _ (brow D) (0, 0) _ (unhide HN0b1b2) Tryd.underlying29 rfl (Tryd.szD hdl) ?_)
                    | (refine wpList_load_rowG rfl 29 (.tmp 27) rfl wa1.heap.size rfl _ (brow D) (0, 0) _ (unhide HN1b2) Tryd.underlying29 rfl (Tryd.szD hdl) ?_)
                    | (refine wpList_load_rowG rfl 29 (.tmp 29) rfl wa2.heap.size rfl _ (brow D) (0, 0) _ (unhide HN2) Tryd.underlying29 rfl (Tryd.szD hdl) ?_))
                  refine ⟨⟨i + 1, by omega, by simp, HKb2⟩, ?_⟩
                  simp [intOf]
                  omega
                · have hil' : ¬ (i : Int) < n2 := by omega
                  go_wp2_with fail
                  go_loopw [197] (fun t18 wr => ∃ (i : Nat), i ≤ n3 ∧ t18 = .int .i64 (i : Int) ∧ Hid (Kept [] w6 wr)) (fun t _ => n3 - (intOf t).toNat)
                  case atStart => exact ⟨0, by omega, rfl, HKR⟩
                  case round =>
                    obtain ⟨i, hi, rfl, HKR⟩ := hrel
                    by_cases hil : i < n3
                    · have hil' : (i : Int) < n3 := by omega
                      obtain ⟨_, _, _, he, _, _, _, _, hcl⟩ := (unhide HL3).old ((unhide HK6).trans (unhide HKR) (by simp))
                      cases he
                      obtain ⟨b, o, rfl, hcell⟩ := hcl (by omega)
                      have HRG := hide (hcell i hil)
                      have hdl := getD_dg (unhide HL3) (by omega : i < l3.length)
                      clear hcell hcl
                      have HA := hide (fun W (kk : Kept [] w6 W) => (by
                        have h9 := leafT_all z tb vb qb (ll + i) W ((unhide HTB2).old kk) (by rw [unhide HLB]; (try simp only [List.length_append]); omega)
                        rw [unhide HLB, lfD_at (by rw [unhide HLL]) (by omega), lfE_at (by (try simp only [List.length_append]); omega), show ((ll + i : Nat) : Int) = (ll : Int) + (i : Int) from by omega] at h9
                        exact h9 : Calls Tryd.prog 10 #[.pointer (some ⟨tb, 0, none⟩), .int .u64 ((ll : Int) + (i : Int))] W fun e w' => e = .returned (.tuple #[.agg (brow (l3.getD i [])), .int .i64 0]) ∧ Kept [] W w'))
                      have HB := hide (fun W (kk : Kept [] w6 W) => (by
                        have h9 := leafT_all z tc vc qc (ll + n2 + i) W ((unhide HTC).old kk) (by rw [unhide HLC]; (try simp only [List.length_append]); omega)
                        rw [unhide HLC, lfD_at (by rw [List.length_append, unhide HLL, unhide HLL2]) (by omega), lfE_at (by (try simp only [List.length_append]); omega), show ((ll + n2 + i : Nat) : Int) = (ll : Int) + (n2 : Int) + (i : Int) from by omega] at h9
                        exact h9 : Calls Tryd.prog 10 #[.pointer (some ⟨tc, 0, none⟩), .int .u64 ((ll : Int) + (n2 : Int) + (i : Int))] W fun e w' => e = .returned (.tuple #[.agg (brow (l3.getD i [])), .int .i64 0]) ∧ Kept [] W w'))
                      have hs1 : IntKind.u64.wrap ((ll : Int) + (i : Int)) = (ll : Int) + (i : Int) := by rw [wrU]; omega
                      have hs2 : IntKind.u64.wrap ((ll : Int) + (n2 : Int) + (i : Int)) = (ll : Int) + (n2 : Int) + (i : Int) := by rw [wrU]; omega
                      generalize l3.getD i [] = D at HA HB HRG hdl
                      have hqd : ∀ W, (Op.equalIn 10000 29 (.agg (brow D)) (.agg (brow D))).run Tryd.prog W = .ok true W := dig_same D hdl
                      have HN0 := hide (cell_new wr D)
                      have HO0 := hide (kept_old wr D)
                      have HKb0 := hide ((unhide HKR).trans (unhide HO0) (by simp))
                      go_wp2_with (first
                        | (refine wpList_load_mid rfl 29 (.tmp 200) rfl b (o + i * 32) rfl (D.map Go.Proofs.YtcijeplafknokabDoor.u8) _ (unhide HRG) Tryd.underlying29 rfl (by rw [List.length_map, hdl]; exact Tryd.size_dig) ?_)
                        | (rw [zb32]; refine wpList_store_row rfl 29 (.tmp 32) _ rfl wr.heap.size (brow D) rfl rfl _ (zb 32) (heap_alloc_new _ _) (Tryd.szD hdl) (by rw [zb_size, brow_size, hdl]) (brow_one _) ?_)
                        | (simp only [hs1])
                        | (simp only [hs2]))
                      obtain ⟨wb0, hwb⟩ : ∃ wb, (wr.alloc (.cells (zb 32) 29)).setRow wr.heap.size (brow D) = wb := ⟨_, rfl⟩
                      rw [hwb] at HN0 HO0 HKb0 ⊢
                      clear hwb
                      refine (unhide HA wb0 (unhide HKb0)).mono ?_
                      rintro e wa1 ⟨rfl, ka⟩
                      have HKa1 := hide ((unhide HKb0).trans ka (by simp))
                      have HN0a1 := hide (ka.heap (unhide HN0) (by simp))
                      clear ka
                      have HN1 := hide (cell_new wa1 D)
                      have HO1 := hide (kept_old wa1 D)
                      have HKb1 := hide ((unhide HKa1).trans (unhide HO1) (by simp))
                      have HN0b1 := hide ((unhide HO1).heap (unhide HN0a1) (by simp))
                      go_wp2_with (first
                        | (rw [zb32]; refine wpList_store_row rfl 29 (.tmp 33) _ rfl wa1.heap.size (brow D) rfl rfl _ (zb 32) (heap_alloc_new _ _) (Tryd.szD hdl) (by rw [zb_size, brow_size, hdl]) (brow_one _) ?_)
                        | (simp only [hs1])
                        | (simp only [hs2]))
                      obtain ⟨wb1, hwb⟩ : ∃ wb, (wa1.alloc (.cells (zb 32) 29)).setRow wa1.heap.size (brow D) = wb := ⟨_, rfl⟩
                      rw [hwb] at HN1 HO1 HKb1 HN0b1 ⊢
                      clear hwb
                      refine (unhide HB wb1 (unhide HKb1)).mono ?_
                      rintro e wa2 ⟨rfl, ka⟩
                      have HKa2 := hide ((unhide HKb1).trans ka (by simp))
                      have HN0b1a2 := hide (ka.heap (unhide HN0b1) (by simp))
                      have HN1a2 := hide (ka.heap (unhide HN1) (by simp))
                      clear ka
                      have HN2 := hide (cell_new wa2 D)
                      have HO2 := hide (kept_old wa2 D)
                      have HKb2 := hide ((unhide HKa2).trans (unhide HO2) (by simp))
                      have HN0b1b2 := hide ((unhide HO2).heap (unhide HN0b1a2) (by simp))
                      have HN1b2 := hide ((unhide HO2).heap (unhide HN1a2) (by simp))
                      go_wp2_with (first
                        | (rw [zb32]; refine wpList_store_row rfl 29 (.tmp 35) _ rfl wa2.heap.size (brow D) rfl rfl _ (zb 32) (heap_alloc_new _ _) (Tryd.szD hdl) (by rw [zb_size, brow_size, hdl]) (brow_one _) ?_)
                        | (refine wpList_load_rowG rfl 29 (.tmp 32) rfl wr.heap.size rfl _ (brow D) (0, 0) _ (unhide HN0b1b2) Tryd.underlying29 rfl (Tryd.szD hdl) ?_)
                        | (refine wpList_load_rowG rfl 29 (.tmp 33) rfl wa1.heap.size rfl _ (brow D) (0, 0) _ (unhide HN1b2) Tryd.underlying29 rfl (Tryd.szD hdl) ?_)
                        | (refine wpList_load_rowG rfl 29 (.tmp 35) rfl wa2.heap.size rfl _ (brow D) (0, 0) _ (unhide HN2) Tryd.underlying29 rfl (Tryd.szD hdl) ?_))
                      refine ⟨⟨i + 1, by omega, by simp, HKb2⟩, ?_⟩
                      simp [intOf]
                      omega
                    · have hil' : ¬ (i : Int) < n3 := by omega
                      go_wp2_with fail
                      have HRT6 := hide (fun W (kk : Kept [] w6 W) => (by
                        have h9 := rooted_any z t v qs ll W ((unhide HT6).old kk) (by rw [unhide HLV]; omega) (by rw [unhide HLV]; omega) ((unhide HTB).kept ((unhide HK6).trans kk (by simp)) (by simp) (by simp)) ((unhide H6).kept ((unhide HK6).trans kk (by simp)))
                        rw [unhide HLV, unhide HD0] at h9
                        exact h9 : Calls Tryd.prog 8 #[.pointer (some ⟨t, 0, none⟩), .int .i64 ll] W fun e w' => e = .returned (.tuple #[.agg (brow D0), .bool true]) ∧ Kept [] W w'))
                      have HN96r := hide ((unhide HKR).heap (unhide HN96) (by simp))
                      have hq0 : ∀ W, (Op.equalIn 10000 29 (.agg (brow D0)) (.agg (brow D0))).run Tryd.prog W = .ok true W := dig_same D0 hd0
                      have hwl : IntKind.u64.wrap (ll : Int) = (ll : Int) := by rw [wrU]; omega
                      have HLN := hide (by rw [unhide HLV, unhide HLL] : ((leavesK qs).length : Int) = (ll : Int))
                      refine (unhide HRT6 wr (unhide HKR)).mono ?_
                      rintro e wa8 ⟨rfl, ka⟩
                      have HKa8 := hide ((unhide HKR).trans ka (by simp))
                      have HN96ra8 := hide (ka.heap (unhide HN96r) (by simp))
                      clear ka
                      have HN8 := hide (cell_new wa8 D0)
                      have HO8 := hide (kept_old wa8 D0)
                      have HKb8 := hide ((unhide HKa8).trans (unhide HO8) (by simp))
                      have HN96rb8 := hide ((unhide HO8).heap (unhide HN96ra8) (by simp))
                      go_wp2_with (first
                        | (rw [zb32]; refine wpList_store_row rfl 29 (.tmp 37) _ rfl wa8.heap.size (brow D0) rfl rfl _ (zb 32) (heap_alloc_new _ _) (Tryd.szD hd0) (by rw [zb_size, brow_size, hd0]) (brow_one _) ?_)
                        | (refine wpList_load_rowG rfl 29 (.tmp 37) rfl wa8.heap.size rfl _ (brow D0) (0, 0) _ (unhide HN8) Tryd.underlying29 rfl (Tryd.szD hd0) ?_)
                        | (refine wpList_load_rowG rfl 29 (.tmp 11) rfl wa9.heap.size rfl _ (brow D0) (0, 0) _ (unhide HN96rb8) Tryd.underlying29 rfl (Tryd.szD hd0) ?_))
                      have HKF := hide ((unhide HK6).trans (unhide HKb8) (by simp))
                      have HTF := hide ((unhide HT6).old (unhide HKb8))
                      refine (sizeT_any t z v qs _ (unhide HTF)).mono ?_
                      rintro e _ ⟨rfl, rfl⟩
                      rw [unhide HLN]
                      go_wp2_with (simp only [hwl])
                      go_ret
                      exact ⟨rfl, unhide HKF⟩
  · obtain rfl := hg2 hfit
    clear hg1 hg2
    go_wp2_with fail
    go_ret
    exact ⟨rfl, unhide HK2⟩

theorem mtreeForks_walk (z : Int) (lv : Value) (ls : List (List Nat)) (lv2 : Value) (l2 : List (List Nat)) (lv3 : Value) (l3 : List (List Nat)) (w : World) (hz : -9223372036854775808 ≤ z ∧ z ≤ 9223372036854775807) (hl : RdD w lv ls) (hx : ls.length ≤ 1048576) (hl2 : RdD w lv2 l2) (hx2 : l2.length ≤ 1048576) (hl3 : RdD w lv3 l3) (hx3 : l3.length ≤ 1048576) (h : Tabs w ∧ Tab6 w) :
    Calls Tryd.prog 3 #[.int .i64 z, lv, lv2, lv3] w fun e w' => e = .returned (.bool true) ∧ Below w.heap.size w w' :=
  (mtreeForks_go z lv lv2 lv3 ls l2 l3 w hz hl hl2 hl3 hx2 hx3 h.1 h.2).mono fun e w' h9 => ⟨h9.1, h9.2.below (Nat.le_refl _) (by simp)⟩
end Go.Proofs.YtcijeplafknokabDoor
namespace Go.Proofs.YtcijeplafknokabDoor
open Go Go.RowKit
set_option linter.unusedVariables false
set_option linter.unusedSimpArgs false
section
variable {H : Type} {enc : TypeId × Value → H} {W : World}

def natOf : Value → Nat
  | .int _ n => n.toNat
  | _ => 0
/-- A digest that came in. -/
theorem open_dig {fuel : Nat} {cs : List Value} {x : DataW H × List MemPlace} (h : DataW.trod enc Tryd.prog W 0 (fun _ => true) true fuel 29 cs = some x) :
    ∃ l : List Nat, cs = l.map u8 ∧ l.length = 32 ∧ ∀ y ∈ l, y < 256 := by
  obtain ⟨xs, m, _, rfl, hl, hn, hc⟩ := DataW.trod_array Tryd.underlying29 h
  rw [show Tryd.prog.cellsOf 29 = 32 from by kernel_rfl] at hl
  rw [show Tryd.prog.cellsOf 5 = 1 from by kernel_rfl] at hc
  have key : ∀ i (hi : i < cs.length), cs[i] = u8 (natOf cs[i]) ∧ natOf cs[i] < 256 := by
    intro i hi
    have h1 := hc i (by omega)
    rw [Nat.mul_one, List.getElem?_eq_getElem (by omega)] at h1
    obtain ⟨n, e, _, hw⟩ := DataW.trod_int Tryd.underlying5 h1
    rw [List.drop_eq_getElem_cons hi, List.take_succ_cons, List.take_zero] at e
    simp only [List.cons.injEq, and_true] at e
    have := byte_of_wf hw
    rw [e]
    refine ⟨?_, ?_⟩
    · simp [u8, natOf]; omega
    · simp [natOf]; omega
  refine ⟨cs.map natOf, ?_, by simp [hl], ?_⟩
  · rw [List.map_map]
    refine List.ext_getElem (by simp) fun i h1 h2 => ?_
    rw [List.getElem_map]
    exact (key i h1).1
  · intro y hy
    obtain ⟨v, hv, rfl⟩ := List.mem_map.1 hy
    obtain ⟨i, hi, rfl⟩ := List.getElem_of_mem hv
    exact (key i hi).2
set_option maxRecDepth 100000 in
theorem open_digv {b0 : Nat} {v : Value} {d : DataW H} {ps : List MemPlace} (hv : Value.okWide Tryd.prog W .any b0 29 v) (h : DataW.Trod enc Tryd.prog W 0 (fun _ => true) true 29 v d ps) :
    ∃ l : List Nat, v = .agg (brow l) ∧ l.length = 32 ∧ ∀ y ∈ l, y < 256 := by
  unfold Value.okWide at hv
  rw [Tryd.underlying29] at hv
  obtain ⟨cs, rfl, _, _⟩ := hv
  obtain ⟨fuel, hf⟩ := h
  obtain ⟨l, e, h1, h2⟩ := open_dig hf
  refine ⟨l, ?_, h1, h2⟩
  simp only [Value.cells] at e
  unfold brow
  rw [← e]
end
end Go.Proofs.YtcijeplafknokabDoor
namespace Go.Proofs.YtcijeplafknokabDoor
open Go.ChangeShapes Go.WideShapes Go.ChangeAt Go.RowKit Go.Deep
set_option linter.unusedVariables false
set_option linter.unusedSimpArgs false
section
variable {H : Type} {enc : TypeId × Value → H} {W : World}

/-- Digests that came in. -/
theorem open_digs2 {fuel : Nat} {cs : List Value} {x : DataW H × List MemPlace} (h : DataW.trod enc Tryd.prog W 0 (fun _ => true) true fuel 22 cs = some x) (hB : Rows.uptoBulk x.1 ≤ 1048576) :
    ∃ v ds, cs = [v] ∧ RdD W v ds ∧ ds.length ≤ 1048576 := by
  rcases open_slice Tryd.underlying22 h with ⟨rfl, rfl⟩ | ⟨a, len, cap, m, n, D, Pl, rfl, _, hl, hm, hmm, rfl, hx⟩
  · exact ⟨_, [], rfl, ⟨none, 0, 0, rfl, rfl, Nat.le_refl _, by omega, fun d hd => by simp at hd, fun h => by omega⟩, by simp⟩
  · have hC : Tryd.prog.cellsOf 29 = 32 := by kernel_rfl
    rw [hC] at hx
    simp only [if_true] at hmm
    simp only [Rows.uptoBulk] at hB
    have hcap : cap ≤ 1048576 := by
      have h1 := bulk_len ((List.range len).map D)
      have h2 := bulk_len ((List.range (m - len)).map fun j => D (len + j))
      simp at h1 h2
      omega
    obtain ⟨f, hf⟩ := choose_lt (α := List Nat) (n := len) (p := fun i o => (∀ j v, (o.map u8)[j]? = some v → W.cell? ((a.add (i * 32)).add j) = some v) ∧ o.length = 32 ∧ ∀ y ∈ o, y < 256) (by
      intro i hi
      obtain ⟨cs', h1, h2⟩ := hx i (by omega)
      obtain ⟨l, rfl, hl1, hl2⟩ := open_dig h2
      obtain ⟨_, hlen, hc⟩ := World.cells?_some h1
      refine ⟨l, fun j v hv => ?_, hl1, hl2⟩
      have hj := (List.getElem?_eq_some_iff.1 hv).1
      have := hc j (by rw [List.length_map] at hj; omega)
      rw [this, ← hv, List.getElem?_eq_getElem hj])
    refine ⟨_, (List.range len).map f, rfl, ⟨some a, len, cap, rfl, by simp, hl, by omega, ?_, ?_⟩, by simp; omega⟩
    · intro d hd
      obtain ⟨i, hi, rfl⟩ := List.mem_map.1 hd
      exact (hf i (List.mem_range.1 hi)).2
    · intro hp
      obtain ⟨b, off, spot⟩ := a
      have h0 := hf 0 hp
      have hc0 := h0.1 0 (u8 ((f 0).getD 0 0)) (by rw [List.getElem?_map, List.getD_eq_getElem?_getD, List.getElem?_eq_getElem (by omega)]; rfl)
      have hspot : spot = none := by simpa [Addr.add] using World.cell?_spot hc0
      subst hspot
      refine ⟨b, off, rfl, fun i hi j v hv => ?_⟩
      have e9 : ((List.range len).map f).getD i [] = f i := by simp [List.getD_eq_getElem?_getD, hi]
      rw [e9] at hv
      have := (hf i hi).1 j v hv
      rw [Addr.add_mid, Addr.add_mid] at this
      exact this

end
end Go.Proofs.YtcijeplafknokabDoor
