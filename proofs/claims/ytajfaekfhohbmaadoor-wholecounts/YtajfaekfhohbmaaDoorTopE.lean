import Derived.Test.YtajfaekfhohbmaaDoorTopD
import Derived.Test.YtajfaekfhohbmaaDoorTopA
import Derived.Test.YtajfaekfhohbmaaDoorTopB
import Derived.Test.YtajfaekfhohbmaaDoorDIn
import Derived.Test.YtajfaekfhohbmaaDoorDSum
import Derived.Test.YtajfaekfhohbmaaDoorLSums3
import Derived.Test.YtajfaekfhohbmaaDoorTopC
import Derived.Test.YtajfaekfhohbmaaDoorBase
import Derived.Test.YtajfaekfhohbmaaDoorCards
import Derived.Test.YtajfaekfhohbmaaDoorTie
import Derived.ProofKit
import Derived.OpenShut
import Derived.Deep.Slices
import Derived.SizedLaws
namespace Go.Proofs.YtajfaekfhohbmaaDoor
open Go.RowKit Go.BigFrame
set_option linter.unusedVariables false
set_option linter.unusedSimpArgs false

theorem appendT_nil (lv : Value) (w : World) : Calls Tryd.prog 12 #[.pointer none, lv] w fun e w' => e = .returned (.tuple #[.pointer none, .int .i64 5]) ∧ w' = w := by
  go_enter Tryd.func12, Tryd.ntmps12
  go_wp2
  exact bodyPost_ret (results_tmp2 rfl _ _ _) rfl ⟨rfl, rfl⟩

/-- What Append answers. -/
def AppD (z : Int) (ps : List Pk) (ls : List (List Nat)) (w : World) (e : Ending) (w' : World) : Prop :=
  (ls.all (formB z) = true → ∃ t' v' qs, e = .returned (.tuple #[.pointer (some ⟨t', 0, none⟩), .int .i64 0]) ∧ w.heap.size ≤ t' ∧ TreeAt z w' t' v' qs ∧ leavesK qs = leavesK ps ++ ls ∧ (qs = [] → v' = .slice none 0 0)) ∧
  (ls.all (formB z) = false → e = .returned (.tuple #[.pointer none, .int .i64 3])) ∧ Kept [] w w'

set_option maxRecDepth 100000 in
set_option maxHeartbeats 1000000 in
theorem appendT_any (z : Int) (t : Nat) (v lv : Value) (ps : List Pk) (ls : List (List Nat)) (w : World) (h : TreeAt z w t v ps) (hnil : ps = [] → v = .slice none 0 0) (hl : RdD w lv ls) (hN : (leavesK ps).length + ls.length ≤ 1000000000) (hT : Tabs w) (h6 : Tab6 w) :
    Calls Tryd.prog 12 #[.pointer (some ⟨t, 0, none⟩), lv] w (AppD z ps ls w) := by
  have hz : 1 ≤ z ∧ z ≤ 32 := by simpa [widthB] using h.wid
  have hz2 : -9223372036854775808 ≤ z ∧ z ≤ 9223372036854775807 := by omega
  have HT := hide h
  have HL := hide hl
  obtain ⟨ao, len, cap, rfl, h1, h2, h3, h4, h5⟩ := hl
  subst h1
  clear h4 h5 h
  have cz := cell_of_row _ _ 0 _ _ _ (unhide HT).row
  simp at cz
  have HTB := hide hT
  have H6B := hide h6
  have HNL := hide hnil
  clear hT h6 hnil
  go_enter Tryd.func12, Tryd.ntmps12
  go_wp2_with fail
  go_loopw [15] (fun t15 wr => ∃ (i : Nat), i ≤ ls.length ∧ t15 = .int .i64 i ∧ Hid ((ls.take i).all (formB z) = true) ∧ Hid (Kept [] w wr)) (fun t _ => ls.length - (intOf t).toNat)
  case atStart => exact ⟨0, Nat.zero_le _, rfl, hide (by simp), hide (Kept.refl _ _)⟩
  case round =>
    obtain ⟨j, hj, rfl, HAJ, HKJ⟩ := hrel
    by_cases hjl : j < ls.length
    · have hjl' : (j : Int) < ls.length := by omega
      obtain ⟨ra, rl, rc, re, r1, r2, r3, r4, r5⟩ := unhide HL
      cases re
      obtain ⟨b, o, rfl, hcell⟩ := r5 (by omega)
      have HD := hide (r4 (ls.getD j []) (by rw [List.getD_eq_getElem?_getD, List.getElem?_eq_getElem hjl]; exact List.getElem_mem hjl))
      have HRG := hide (fun u v hv => (unhide HKJ).cell (hcell j hjl u v hv) (by simp) : wr.rangeAt b (o + j * 32) ((ls.getD j []).map Go.Proofs.YtajfaekfhohbmaaDoor.u8))
      have HN := hide (by rw [List.take_succ_eq_append_getElem hjl, List.all_append, unhide HAJ, List.getD_eq_getElem?_getD, List.getElem?_eq_getElem hjl]; simp : (ls.take (j + 1)).all (formB z) = formB z (ls.getD j []))
      have HM := hide (fun (h : formB z (ls.getD j []) = false) => by
        rw [List.all_eq_false]
        exact ⟨ls.getD j [], by rw [List.getD_eq_getElem?_getD, List.getElem?_eq_getElem hjl]; exact List.getElem_mem hjl, by rw [h]; decide⟩ : formB z (ls.getD j []) = false → ls.all (formB z) = false)
      clear hcell r4 r5
      obtain ⟨d, hd⟩ : ∃ d, ls.getD j [] = d := ⟨_, rfl⟩
      rw [hd] at HD HRG HN HM
      clear hd
      have hdl := (unhide HD).1
      have HSZ := hide (by rw [brow_size, hdl]; exact Tryd.size_dig : (Tryd.prog.info? 26).map (·.size) = some (brow d).size)
      have HNW := hide (setRow_heap (wr.alloc (.cells (zb 32) 26)) wr.heap.size (zb 32) (brow d) 26 (0, 0) (heap_alloc_new _ _))
      have HKN := hide (((unhide HKJ).alloc (.cells (zb 32) 26)).setRow (g := wr.heap.size) (Or.inr (unhide HKJ).size) (brow d))
      go_wp2_with (first
        | (refine wpList_load_mid rfl 26 (.tmp 17) rfl b (o + j * 32) rfl (d.map Go.Proofs.YtajfaekfhohbmaaDoor.u8) _ (unhide HRG) Tryd.underlying26 rfl (by rw [List.length_map, hdl]; exact Tryd.size_dig) ?_)
        | (rw [zb32]; refine wpList_store_row rfl 26 (.tmp 7) _ rfl wr.heap.size (brow d) rfl rfl _ (zb 32) (heap_alloc_new _ _) (unhide HSZ) (by rw [zb_size, brow_size, hdl]) (brow_one _) ?_))
      obtain ⟨W, hW⟩ : ∃ W, (wr.alloc (.cells (zb 32) 26)).setRow wr.heap.size (brow d) = W := ⟨_, rfl⟩
      rw [hW] at HNW HKN ⊢
      clear hW
      have cz4 := (unhide HKN).cell cz (by simp)
      have HFO := hide (fun w' (hw' : Kept [] W w') => (form_any z d w' hz2 hdl (unhide HD).2).mono (fun e w2 (h2 : _ ∧ _) => (⟨h2.1, hw'.trans h2.2 (by simp)⟩ : _ ∧ Kept [] W w2)))
      cases hf : formB z d with
      | true =>
        rw [hf] at HN HFO
        clear hf
        have hne : ∀ p : Prop, (∀ w', Kept [] W w' → p) = p := fun p => propext ⟨fun h => h W (Kept.refl [] W), fun h _ _ => h⟩
        refine wp_region_keep (by kernel_rfl) (by kernel_rfl) ?_
        iterate 3 (go_big_quiet_step (fail))
        refine wpQuiet_val rfl (.int .i64 z) (fun w' hw' => run_load1 3 (.tmp 21) rfl ⟨t, 0, none⟩ rfl w' _ .i64 Tryd.underlying3 (hw'.cell cz4 (by simp))) ?_
        simp only [Act.put, List.setIfInBounds_toArray, List.set_cons_succ, List.set_cons_zero]
        refine wpQuiet_row rfl 26 (.tmp 7) rfl wr.heap.size rfl _ (brow d) (0, 0) _ (fun w' hw' => hw'.heap (unhide HNW) (by simp)) Tryd.underlying26 rfl (unhide HSZ) ?_
        simp only [Act.put, List.setIfInBounds_toArray, List.set_cons_succ, List.set_cons_zero]
        go_big_quiet_want
        go_big_quiet_op
        apply Exists.intro
        refine ⟨fun w' hw' => ?_, ?_⟩
        · exact unhide HFO w' hw'
        go_big_quiet_on
        repeat (go_big_quiet_step (fail))
        refine wpQuiet_nil ?_
        intro w6 hw6
        have HK6 := hide ((unhide HKN).trans hw6 (by simp))
        clear hw6
        go_wp2_with fail
        refine ⟨⟨j + 1, by omega, by go_num, HN, HK6⟩, ?_⟩
        simp [intOf]; omega
      | false =>
        have HF := hide (unhide HM hf)
        rw [hf] at HFO
        clear hf
        have hne : ∀ p : Prop, (∀ w', Kept [] W w' → p) = p := fun p => propext ⟨fun h => h W (Kept.refl [] W), fun h _ _ => h⟩
        refine wp_region_keep (by kernel_rfl) (by kernel_rfl) ?_
        iterate 3 (go_big_quiet_step (fail))
        refine wpQuiet_val rfl (.int .i64 z) (fun w' hw' => run_load1 3 (.tmp 21) rfl ⟨t, 0, none⟩ rfl w' _ .i64 Tryd.underlying3 (hw'.cell cz4 (by simp))) ?_
        simp only [Act.put, List.setIfInBounds_toArray, List.set_cons_succ, List.set_cons_zero]
        refine wpQuiet_row rfl 26 (.tmp 7) rfl wr.heap.size rfl _ (brow d) (0, 0) _ (fun w' hw' => hw'.heap (unhide HNW) (by simp)) Tryd.underlying26 rfl (unhide HSZ) ?_
        simp only [Act.put, List.setIfInBounds_toArray, List.set_cons_succ, List.set_cons_zero]
        go_big_quiet_want
        go_big_quiet_op
        apply Exists.intro
        refine ⟨fun w' hw' => ?_, ?_⟩
        · exact unhide HFO w' hw'
        go_big_quiet_on
        repeat (go_big_quiet_step (fail))
        refine wpQuiet_nil ?_
        intro w6 hw6
        have HK6 := hide ((unhide HKN).trans hw6 (by simp))
        clear hw6
        go_wp2_with fail
        exact bodyPost_ret (results_tmp2 rfl _ _ _) rfl ⟨fun h => absurd h (by rw [unhide HF]; decide), fun _ => rfl, unhide HK6⟩
    · have hjl' : ¬ (j : Int) < ls.length := by omega
      have hje : j = ls.length := by omega
      subst hje
      rw [List.take_length] at HAJ
      go_wp2_with fail
      have hN0 : (leavesK ps).length ≤ 1000000000 := by omega
      obtain ⟨va, vn, vc, rfl⟩ : ∃ a n c, v = .slice a n c := by obtain ⟨a, c, h9, _⟩ := (unhide HT).rd; exact ⟨_, _, _, h9⟩
      have c0 := (unhide HKJ).cell cz (by simp)
      have c1 : wr.cell? ⟨t, 1, none⟩ = some (.int .u64 ((leavesK ps).length : Int)) := (unhide HKJ).cell (by have := cell_of_row _ _ 1 _ _ _ (unhide HT).row; simpa using this) (by simp)
      have c2 : wr.cell? ⟨t, 2, none⟩ = some (.slice va vn vc) := (unhide HKJ).cell (by have := cell_of_row _ _ 2 _ _ _ (unhide HT).row; simpa using this) (by simp)
      have hpl : ps.length ≤ 1000000000 := by
        have h8 := len_le_sum (ps.reverse.map (·.h)); rw [← leavesK_len (unhide HT).pk.ok] at h8; simp at h8; omega
      have HCL := hide (fun w' (k : Kept [] wr w') => cloneK_any z (.slice va vn vc) ps w' (((unhide HT).rd.old (unhide HKJ)).old k) (((unhide HT).pk.old (unhide HKJ)).old k) (unhide HNL) hpl)
      refine wp_ap16 (by kernel_rfl) (by kernel_rfl) (by kernel_rfl) (by kernel_rfl) (by kernel_rfl) (by kernel_rfl) (by kernel_rfl) (by kernel_rfl) (by kernel_rfl) (by kernel_rfl) (by kernel_rfl) (by kernel_rfl) (by kernel_rfl) (by kernel_rfl) (by kernel_rfl) (by kernel_rfl) (by kernel_rfl) (by kernel_rfl) (by kernel_rfl) (by kernel_rfl) (by kernel_rfl) (by kernel_rfl) (by kernel_rfl) (by kernel_rfl) (by kernel_rfl) (by kernel_rfl) (by kernel_rfl) (by kernel_rfl) (by kernel_rfl) (by kernel_rfl) (by kernel_rfl) (by kernel_rfl) (by kernel_rfl) rfl rfl
        (.pointer (some ⟨t, 0, none⟩)) (.pointer (some ⟨t, 0, none⟩)) (.pointer (some ⟨t, 0, none⟩)) (.int .i64 z) (.pointer (some ⟨t, 0, none⟩)) (.pointer (some ⟨t, 0, none⟩)) (.pointer (some ⟨t, 1, none⟩)) (.int .u64 ((leavesK ps).length : Int)) (.pointer (some ⟨t, 0, none⟩)) (.pointer (some ⟨t, 0, none⟩)) (.pointer (some ⟨t, 2, none⟩)) (.slice va vn vc) _ _ _ _ _ _ _ _ _ _ _ _
        (fun w' => Kept [] wr w')
        (fun w' => Kept [] wr w')
        (fun u w' => (∃ a n c, u = .slice a n c ∧ w'.ownsRow wr.heap.size 74 33 (.slice a n c) ps.length (cellsK ps) ∧ (ps = [] → Value.slice a n c = .slice none 0 0)) ∧ Kept [] wr w')
        (fun u x w' => (∃ a n c t', u = .slice a n c ∧ w'.ownsRow wr.heap.size 74 33 (.slice a n c) ps.length (cellsK ps) ∧ (ps = [] → Value.slice a n c = .slice none 0 0) ∧ x = .pointer (some ⟨t', 0, none⟩) ∧ wr.heap.size ≤ t' ∧ w'.heap[t']? = some (.cells #[.int .i64 z, .int .u64 ((leavesK ps).length : Int), .slice a n c] 70 (0, 0))) ∧ Kept [] wr w')
        (fun u => .agg #[.int .i64 z, .int .u64 ((leavesK ps).length : Int), u]) (fun x => x)
        (by simp only [Act.put, List.setIfInBounds_toArray, List.set_cons_zero, List.set_cons_succ]; rfl) (by exact Or.inl ⟨by rfl, fun W' hW' => by go_simp⟩)
        (by simp only [Act.put, List.setIfInBounds_toArray, List.set_cons_zero, List.set_cons_succ]; rfl) (by exact Or.inl ⟨by rfl, fun W' hW' => by go_simp⟩)
        (by simp only [Act.put, List.setIfInBounds_toArray, List.set_cons_zero, List.set_cons_succ]; rfl) (by exact Or.inl ⟨by rfl, fun W' hW' => by go_simp⟩)
        (by simp only [Act.put, List.setIfInBounds_toArray, List.set_cons_zero, List.set_cons_succ]; rfl) (by exact Or.inl ⟨by rfl, fun W' hW' => by have h9 := hW'.cell c0 (by simp); go_simp⟩)
        (by simp only [Act.put, List.setIfInBounds_toArray, List.set_cons_zero, List.set_cons_succ]; rfl) (by exact Or.inl ⟨by rfl, fun W' hW' => by go_simp⟩)
        (by simp only [Act.put, List.setIfInBounds_toArray, List.set_cons_zero, List.set_cons_succ]; rfl) (by exact Or.inl ⟨by rfl, fun W' hW' => by go_simp⟩)
        (by simp only [Act.put, List.setIfInBounds_toArray, List.set_cons_zero, List.set_cons_succ]; rfl) (by exact Or.inl ⟨by rfl, fun W' hW' => by go_simp⟩)
        (by simp only [Act.put, List.setIfInBounds_toArray, List.set_cons_zero, List.set_cons_succ]; rfl) (by exact Or.inl ⟨by rfl, fun W' hW' => by have h9 := hW'.cell c1 (by simp); go_simp⟩)
        (by simp only [Act.put, List.setIfInBounds_toArray, List.set_cons_zero, List.set_cons_succ]; rfl) (by exact Or.inl ⟨by rfl, fun W' hW' => by go_simp⟩)
        (by simp only [Act.put, List.setIfInBounds_toArray, List.set_cons_zero, List.set_cons_succ]; rfl) (by exact Or.inl ⟨by rfl, fun W' hW' => by go_simp⟩)
        (by simp only [Act.put, List.setIfInBounds_toArray, List.set_cons_zero, List.set_cons_succ]; rfl) (by exact Or.inl ⟨by rfl, fun W' hW' => by go_simp⟩)
        (by simp only [Act.put, List.setIfInBounds_toArray, List.set_cons_zero, List.set_cons_succ]; rfl) (by exact Or.inl ⟨by rfl, fun W' hW' => by have h9 := hW'.cell c2 (by simp); go_simp⟩)
        (Kept.refl [] wr).drew
        ⟨fun w' h => h, fun u w' h => h.2, fun u x w' h => h.2⟩
        (by intro w' i K hK; refine wp_callN rfl Tryd.call37 [.slice va vn vc] rfl (unhide HCL w' i) ?_; rintro e w2 ⟨v', rfl, ho, hn, k2⟩; obtain ⟨a, n, c, rfl⟩ : ∃ a n c, v' = .slice a n c := by (rcases ho.2 with ⟨h9, _⟩ | ⟨g, cp, cur, h9, _⟩ <;> exact ⟨_, _, _, h9⟩)
            exact ⟨_, rfl, hK _ _ ⟨⟨a, n, c, rfl, owns_baseK ho i.size, hn⟩, i.trans k2 (by simp)⟩⟩)
        (by
          intro u w' hh K hK
          simp only [Act.put, List.setIfInBounds_toArray, List.set_cons_zero, List.set_cons_succ] at hK ⊢
          obtain ⟨⟨a, n, c, rfl, ho, hn⟩, i⟩ := hh
          unfold Oper.wp execOp
          go_simp
          exact hK _ _ ⟨⟨a, n, c, _, rfl, ((Kept.refl [] w').alloc _).owns ho (by simp), hn, rfl, i.size, heap_alloc_new _ _⟩, i.alloc _⟩)
        (by rintro u w' ⟨⟨a, n, c, rfl, _⟩, _⟩; exact Or.inl ⟨by rfl, fun W' hW' => by unfold execOp; go_simp⟩)
        (by rintro u x w' ⟨⟨a, n, c, t', rfl, _, _, rfl, _⟩, _⟩; exact Or.inl ⟨by rfl, fun W' hW' => by go_simp⟩)
        ?_
      rintro u x Y ⟨⟨a, n, c, t', rfl, ho, hn, rfl, ht', hrow⟩, kY⟩
      simp only [Act.put, List.setIfInBounds_toArray, List.set_cons_zero, List.set_cons_succ]
      have HO := hide ho
      have HNN := hide hn
      have HRW := hide hrow
      have HKY := hide ((unhide HKJ).trans kY (by simp))
      have HPK := hide ((unhide HT).pk.old ((unhide HKJ).trans kY (by simp)))
      have hszw := (unhide HKJ).size
      clear ho hn hrow kY HCL c0 c1 c2
      go_wp2_with fail
      have HI0 := hide (⟨by simpa using unhide HRW, unhide HO, unhide HPK, by simp, unhide HNN, unhide HKY, hszw, Nat.le_trans hszw ht', by have := (unhide HO).lt; have := lt_of_block (unhide HRW); omega⟩ : AppI z ps ls w t' wr.heap.size 0 (.slice a n c) ps Y)
      have hwid := hide (unhide HT).wid
      clear HO HNN HRW HKY HPK hpl HNL
      obtain ⟨base, hbase⟩ : ∃ base, base = wr.heap.size := ⟨_, rfl⟩
      rw [← hbase] at HI0
      clear hszw ht' hbase
      go_loopw [44] (fun t44 wq => ∃ (i : Nat) (v' : Value) (qs : List Pk), i ≤ ls.length ∧ t44 = .int .i64 i ∧ Hid (AppI z ps ls w t' base i v' qs wq)) (fun t _ => ls.length - (intOf t).toNat)
      case atStart => exact ⟨0, _, _, Nat.zero_le _, rfl, HI0⟩
      case round =>
        obtain ⟨i, v', qs, hi, rfl, HI⟩ := hrel
        by_cases hil : i < ls.length
        · have hil' : (i : Int) < ls.length := by omega
          obtain ⟨ra, rl, rc, re, r1, r2, r3, r4, r5⟩ := unhide HL
          cases re
          obtain ⟨b, o, rfl, hcell⟩ := r5 (by omega)
          have hmem : ls.getD i [] ∈ ls := by rw [List.getD_eq_getElem?_getD, List.getElem?_eq_getElem hil]; exact List.getElem_mem hil
          have HD := hide (r4 (ls.getD i []) hmem)
          have HFD := hide (List.all_eq_true.1 (unhide HAJ) _ hmem)
          have HRG := hide (fun u v hv => (unhide HI).kept.cell (hcell i hil u v hv) (by simp) : wr.rangeAt b (o + i * 32) ((ls.getD i []).map Go.Proofs.YtajfaekfhohbmaaDoor.u8))
          clear hcell r4 r5 hmem
          obtain ⟨d, hd⟩ : ∃ d, ls.getD i [] = d := ⟨_, rfl⟩
          have HDD := hide hd
          rw [hd] at HD HRG HFD
          clear hd
          have hdl := (unhide HD).1
          have HSZ := hide (by rw [brow_size, hdl]; exact Tryd.size_dig : (Tryd.prog.info? 26).map (·.size) = some (brow d).size)
          have HNW := hide (setRow_heap (wr.alloc (.cells (zb 32) 26)) wr.heap.size (zb 32) (brow d) 26 (0, 0) (heap_alloc_new _ _))
          have HKN := hide (((Kept.refl [] wr).alloc (.cells (zb 32) 26)).setRow (g := wr.heap.size) (Or.inr (Nat.le_refl _)) (brow d))
          go_wp2_with (first
            | (refine wpList_load_mid rfl 26 (.tmp 46) rfl b (o + i * 32) rfl (d.map Go.Proofs.YtajfaekfhohbmaaDoor.u8) _ (unhide HRG) Tryd.underlying26 rfl (by rw [List.length_map, hdl]; exact Tryd.size_dig) ?_)
            | (rw [zb32]; refine wpList_store_row rfl 26 (.tmp 10) _ rfl wr.heap.size (brow d) rfl rfl _ (zb 32) (heap_alloc_new _ _) (unhide HSZ) (by rw [zb_size, brow_size, hdl]) (brow_one _) ?_)
            | (refine wpList_load_row rfl 26 (.tmp 10) rfl wr.heap.size rfl _ (brow d) (0, 0) _ (unhide HNW) Tryd.underlying26 rfl (unhide HSZ) ?_))
          obtain ⟨W, hW⟩ : ∃ W, (wr.alloc (.cells (zb 32) 26)).setRow wr.heap.size (brow d) = W := ⟨_, rfl⟩
          rw [hW] at HKN ⊢
          clear hW HNW
          refine Calls.mono (push_any z t' ((leavesK ps).length + i) base v' qs d W ((unhide HKN).heap (unhide HI).row (by simp)) ((unhide HKN).owns (unhide HI).own (by simp)) ((unhide HI).pk.old (unhide HKN)) ((unhide HI).len hi) (by omega) (Nat.le_trans (unhide HI).br (unhide HKN).size) (unhide hwid) ((unhide HI).far (unhide HTB) (unhide H6B)) ⟨hdl, (unhide HD).2⟩ (unhide HFD) ((unhide HTB).kept ((unhide HI).kept.trans (unhide HKN) (by simp)) (by simp) (by simp)) ((unhide H6B).kept ((unhide HI).kept.trans (unhide HKN) (by simp)))) ?_
          rintro e w4 ⟨rfl, hpd⟩
          obtain ⟨v2, rs, hi2⟩ := (unhide HI).step hil (unhide HKN) (by rw [unhide HDD]; exact hpd)
          have HI2 := hide hi2
          clear hpd hi2 HI HKN
          go_wp2_with fail
          refine ⟨⟨i + 1, _, _, by omega, by go_num, HI2⟩, ?_⟩
          simp [intOf]; omega
        · have hil' : ¬ (i : Int) < ls.length := by omega
          have hie : i = ls.length := by omega
          subst hie
          have HF := hide ((unhide HI).fin (unhide hwid))
          go_wp2_with fail
          exact bodyPost_ret (results_tmp2 rfl _ _ _) rfl ⟨fun _ => ⟨t', v', qs, rfl, (unhide HI).bt, (unhide HF).1, (unhide HF).2, (unhide HI).nil⟩, fun h => absurd h (by rw [unhide HAJ]; decide), (unhide HI).kept⟩

end Go.Proofs.YtajfaekfhohbmaaDoor
namespace Go.Proofs.YtajfaekfhohbmaaDoor
open Go.RowKit Go.BigFrame
set_option linter.unusedVariables false
set_option linter.unusedSimpArgs false

/-- What the statements' tree answers. -/
def TrD (z : Int) (ls : List (List Nat)) (w : World) (e : Ending) (w' : World) : Prop :=
  (widthB z = false → e = .returned (.tuple #[.pointer none, .slice none 0 0, .bool false]) ∧ Kept [] w w') ∧
  (widthB z = true → ∃ t v qs u, e = .returned (.tuple #[.pointer (some ⟨t, 0, none⟩), u, .bool true]) ∧ TreeAt z w' t v qs ∧ leavesK qs = ls.map (cutL z.toNat) ∧ OwD w w' u (ls.map (cutL z.toNat)))
theorem cut_all {k : Nat} (h1 : 1 ≤ k) (h2 : k ≤ 32) {ls : List (List Nat)} (h : ∀ d ∈ ls, Dg d) : (ls.map (cutL k)).all (formB (k : Int)) = true := by
  rw [List.all_eq_true]
  intro x hx
  obtain ⟨d, hd, rfl⟩ := List.mem_map.1 hx
  exact cut_form h1 h2 (h d hd)

set_option maxRecDepth 100000 in
set_option maxHeartbeats 1000000 in
theorem tree_bad (z : Int) (lv : Value) (ls : List (List Nat)) (w : World) (hz : -9223372036854775808 ≤ z ∧ z ≤ 9223372036854775807) (hw : widthB z = false) :
    Calls Tryd.prog 15 #[.int .i64 z, lv] w (TrD z ls w) := by
  have HW := hide (rwidth_any z w hz)
  rw [hw] at HW
  have HF := hide hw
  clear hw hz
  go_enter Tryd.func15, Tryd.ntmps15
  go_wp2_with fail
  refine (unhide HW).mono ?_
  rintro e w1 ⟨rfl, rfl⟩
  go_wp2_with fail
  exact ⟨rfl, _, results_tmp3 rfl _ _ _, fun _ => ⟨rfl, Kept.refl _ _⟩, fun h => by rw [unhide HF] at h; simp at h⟩

set_option maxRecDepth 100000 in
set_option maxHeartbeats 1000000 in
theorem tree_ok (k : Nat) (lv : Value) (ls : List (List Nat)) (w : World) (h1 : 1 ≤ k) (h2 : k ≤ 32) (hl : RdD w lv ls) (hN : ls.length ≤ 1000000) (hT : Tabs w) (h6 : Tab6 w) :
    Calls Tryd.prog 15 #[.int .i64 (k : Int), lv] w (TrD (k : Int) ls w) := by
  have hwb : widthB (k : Int) = true := by simp [widthB]; omega
  have HW := hide (rwidth_any (k : Int) w (by omega))
  rw [hwb] at HW
  have HWB := hide hwb
  have HTB := hide hT
  have H6 := hide h6
  have HL := hide hl
  have HDG := hide (fun d hd => hl.dg (d := d) hd)
  obtain ⟨la, ll, lc, rfl, l1, l2, l3, l4, l5⟩ := hl
  subst l1
  clear hT h6 l4 l5 hwb
  go_enter Tryd.func15, Tryd.ntmps15
  go_wp2_with fail
  refine (unhide HW).mono ?_
  rintro e w1 ⟨rfl, rfl⟩
  go_wp2_with fail
  go_loopw [7, 18] (fun t7 t18 wr => ∃ (i : Nat), i ≤ ls.length ∧ t18 = .int .i64 (i : Int) ∧ Hid (OwD w1 wr t7 ((ls.take i).map (cutL k)))) (fun _ t _ => ls.length - (intOf t).toNat)
  case atStart => exact ⟨0, Nat.zero_le _, rfl, hide (OwD.nil _)⟩
  case round =>
    obtain ⟨i, hi, rfl, HO⟩ := hrel
    by_cases hlt : i < ls.length
    · have hlt' : (i : Int) < (ls.length : Int) := by omega
      obtain ⟨_, _, _, he, hel, _, _, _, hcell⟩ := (unhide HL).old (unhide HO).kept
      cases he
      obtain ⟨b, o, rfl, hc⟩ := hcell (by omega)
      have HC := hide (hc i hlt)
      have hgd : ls.getD i [] = ls[i] := by rw [List.getD_eq_getElem?_getD, List.getElem?_eq_getElem hlt]; rfl
      rw [hgd] at HC
      have HDi := hide (unhide HDG ls[i] (List.getElem_mem hlt))
      have HSN := hide (by rw [List.take_add_one, List.getElem?_eq_getElem hlt, List.map_append]; rfl : (ls.take (i + 1)).map (cutL k) = (ls.take i).map (cutL k) ++ [cutL k ls[i]])
      have HLN := hide (by rw [List.length_map, List.length_take]; omega : ((ls.take i).map (cutL k)).length + 1 ≤ 10000000)
      generalize ls[i] = d at HC HDi HSN
      generalize (ls.take i).map (cutL k) = ds at HO HSN HLN
      have hdl := (unhide HDi).1
      have HCE := hide (cI_end (k := k) hdl)
      have hcl := cutL_len k d h2 hdl
      have HCD := hide (cut_dg h2 (unhide HDi))
      obtain ⟨ua, ucap, rfl⟩ := owns_form (unhide HO).own
      have ia : ¬ (i : Int) < 0 := by omega
      have ib : ¬ (ls.length : Int) ≤ i := by omega
      clear hc hcell hel
      obtain ⟨wx, hwx⟩ : ∃ wx, wx = wr := ⟨_, rfl⟩
      subst hwx
      have HN0 := hide (cell_new wx d)
      have HK0 := hide (kept_old wx d)
      obtain ⟨wb, hwb⟩ : ∃ wb, (wx.alloc (.cells (zb 32) 26)).setRow wx.heap.size (brow d) = wb := ⟨_, rfl⟩
      rw [hwb] at HN0 HK0
      have HWBE := hide hwb
      clear hwb
      go_wp2_with (first
        | (refine wpList_load_mid rfl 26 _ rfl b (o + i * 32) rfl (d.map u8) _ (unhide HC) Tryd.underlying26 rfl (by rw [List.length_map, hdl]; exact Tryd.size_dig) ?_)
        | (rw [zb32]; refine wpList_store_row rfl 26 (.tmp 9) _ rfl wx.heap.size (brow d) rfl rfl _ (zb 32) (heap_alloc_new _ _) (Tryd.szD hdl) (by rw [zb_size, brow_size, hdl]) (brow_one _) ?_; rw [unhide HWBE]))
      go_loopw [10] (fun t wq => ∃ (j : Nat), k ≤ j ∧ j ≤ 32 ∧ t = .int .i64 j ∧ Hid (wq.heap[wx.heap.size]? = some (.cells (brow (cI k j d)) 26 (0, 0))) ∧ Hid (Kept [] wx wq)) (fun t _ => 32 - (intOf t).toNat)
      case atStart => exact ⟨k, Nat.le_refl _, h2, rfl, hide (by rw [cI_start]; exact unhide HN0), HK0⟩
      case round =>
        obtain ⟨j, hj1, hj2, rfl, HG, HKr⟩ := hrel
        by_cases hjl : j < 32
        · have hjl' : (j : Int) < 32 := by omega
          have q0 := brow_cell (unhide HG) j (by rw [cI_len hj1 hj2 hdl]; exact hjl)
          simp only [Go.Proofs.YtajfaekfhohbmaaDoor.u8] at q0
          have z0 : wr.frozen? ⟨wx.heap.size, j, none⟩ = false := frozen_of_row _ _ _ _ _ (unhide HG)
          have HG2 := hide (by have h9 := heap_setCell_same wr wx.heap.size j _ 26 (.int .u8 0) (unhide HG); rw [cI_set hj1 hjl hdl] at h9; exact h9 : (wr.setCell ⟨wx.heap.size, j, none⟩ (.int .u8 0)).heap[wx.heap.size]? = some (.cells (brow (cI k (j + 1) d)) 26 (0, 0)))
          have HK2 := hide ((unhide HKr).setCell (p := ⟨wx.heap.size, j, none⟩) (Or.inr (Nat.le_refl _)) (.int .u8 0))
          go_wp2_with fail
          refine ⟨⟨j + 1, by omega, by omega, by go_num, HG2, HK2⟩, ?_⟩
          simp [intOf]; omega
        · have hjl' : ¬ (j : Int) < 32 := by omega
          have hj32 : j = 32 := by omega
          subst hj32
          rw [unhide HCE] at HG
          have HOB := hide ((unhide HO).pass (unhide HKr))
          have HOC := hide ((unhide HOB).pass ((Kept.refl [] wr).alloc (.cells (brow (cutL k d)) 26)))
          have HNC := hide (heap_alloc_new wr (.cells (brow (cutL k d)) 26))
          generalize cutL k d = D at HG HOC HNC HSN hcl HCD
          go_wp2_with (first
            | (refine wpList_load_mid rfl 26 _ rfl wx.heap.size 0 rfl (D.map u8) _ (range_row (unhide HG)) Tryd.underlying26 rfl (by rw [List.length_map, hcl]; exact Tryd.size_dig) ?_)
            | (at_builtin; rw [zb32, one_digP D hcl]; refine wpList_appendD rfl _ _ rfl rfl (wr.alloc (.cells (brow D) 26)) w1.heap.size (.slice ua ds.length ucap) ds [D] (some ⟨wr.heap.size, 0, none⟩) 1 1 (unhide HOC).own (RdD.oneP (unhide HNC) (unhide HCD)) (by have := unhide HLN; simp; omega) (unhide HOC).kept.size rfl rfl ?_; intro ao3 cap3 w3 HO3 HG3; have HO4 := hide ((unhide HOC).push (unhide HCD) (unhide HO3) (unhide HG3)); clear HO3 HG3))
          go_roundw
          case rel => exact ⟨i + 1, by omega, by simp, by rw [unhide HSN]; exact HO4⟩
          case measure => simp [intOf]; omega
    · have hlt' : ¬ (i : Int) < (ls.length : Int) := by omega
      have HE := hide (by rw [List.take_of_length_le (by omega)] : ls.take i = ls)
      rw [unhide HE] at HO
      go_wp2_with fail
      refine (newT_any (k : Int) wr (unhide HWB)).mono ?_
      rintro e w2 ⟨t0, rfl, _, tr2, k2⟩
      have HT2 := hide tr2
      have HO2 := hide ((unhide HO).pass k2)
      clear tr2 k2 HO
      go_wp2_with fail
      refine (appendT_any (k : Int) t0 (.slice none 0 0) u7 [] (ls.map (cutL k)) w2 (unhide HT2) (fun _ => rfl) (unhide HO2).rd (by simp [leavesK]; omega) ((unhide HTB).kept (unhide HO2).kept (by simp) (by simp)) ((unhide H6).kept (unhide HO2).kept)).mono ?_
      rintro e w3 ⟨hg1, _, k3⟩
      obtain ⟨t3, v3, qs3, rfl, _, tr3, lv3, _⟩ := hg1 (cut_all h1 h2 (unhide HDG))
      have HT3 := hide tr3
      have HL3 := hide lv3
      have HO3 := hide ((unhide HO2).pass k3)
      clear tr3 lv3 k3 HO2 hg1
      go_wp2_with fail
      refine ⟨rfl, _, results_tmp3 rfl _ _ _, fun h => by rw [unhide HWB] at h; simp at h, fun _ => ⟨t3, v3, qs3, u7, rfl, unhide HT3, by rw [unhide HL3]; simp [leavesK], by rw [Int.toNat_natCast]; exact unhide HO3⟩⟩
end Go.Proofs.YtajfaekfhohbmaaDoor
namespace Go.Proofs.YtajfaekfhohbmaaDoor
open Go.RowKit Go.BigFrame
set_option linter.unusedVariables false
set_option linter.unusedSimpArgs false

set_option maxRecDepth 100000 in
set_option maxHeartbeats 1000000 in
theorem leaf_all (z : Int) (v : Value) (p : List Nat) (w : World) (hz : -9223372036854775808 ≤ z ∧ z ≤ 9223372036854775807) (h : Rd w v p) (hl : p.length ≤ 140737488351232) (hT : Tabs w) :
    Calls Tryd.prog 53 #[.int .i64 z, v] w fun e w' => e = .returned (.tuple #[.agg (brow (sumD z (0 :: p))), .int .i64 (sumE z)]) ∧ Kept [] w w' := by
  have H := hide h
  have HT := hide hT
  clear h hT
  have hcl := sumD_len z (0 :: p)
  obtain ⟨B, hB⟩ : ∃ B, 0 :: p = B := ⟨_, rfl⟩
  have HB := hide hB
  rw [hB] at hcl ⊢
  clear hB
  obtain ⟨D, hD⟩ : ∃ D, sumD z B = D := ⟨_, rfl⟩
  have HD := hide hD
  rw [hD] at hcl ⊢
  clear hD
  obtain ⟨E, hE⟩ : ∃ E, sumE z = E := ⟨_, rfl⟩
  have HE := hide hE
  rw [hE]
  clear hE
  go_enter Tryd.func53, Tryd.ntmps53
  go_wp2_with fail
  rw [zb32]
  refine Calls.mono (leafInput_any _ p _ ((unhide H).old ((Kept.refl [] w).alloc _) (by simp)) hl) ?_
  rintro e w1 ⟨v1, rfl, n1, k1⟩
  rw [unhide HB] at n1
  have HR1 := hide n1.1
  obtain ⟨a1, m1, c1, hu1, hm1, _⟩ := id n1.1
  subst hu1
  have HZ1 := hide (k1.heap (heap_alloc_new w (.cells (zb 32) 26)) (by simp))
  have HK1 := hide (((Kept.refl [] w).alloc (.cells (zb 32) 26)).trans k1 (by simp))
  clear n1 k1
  go_wp2_with fail
  refine Calls.mono (dsum_all z _ [B] _ hz (RdL.one (heap_alloc_new _ _) ((unhide HR1).old ((Kept.refl [] w1).alloc _) (by simp))) (by have h9 := (unhide HR1).len; simpa using h9) ((unhide HT).k ((unhide HK1).alloc _))) ?_
  rintro e w2 ⟨rfl, k2⟩
  rw [show ([B] : List (List Nat)).flatten = B by simp, unhide HD, unhide HE]
  have HZ2 := hide (k2.heap ((Kept.refl [] w1).alloc (.cells #[.slice a1 m1 c1] 95) |>.heap (unhide HZ1) (by simp)) (by simp))
  have HK2 := hide (((unhide HK1).alloc _).trans k2 (by simp))
  clear k2
  go_wp2_with (refine wpList_store_row rfl 26 _ _ rfl w.heap.size (brow D) rfl rfl _ (zb 32) (unhide HZ2) (by rw [brow_size, hcl]; exact Tryd.size_dig) (by rw [zb_size, brow_size, hcl]) (brow_one _) ?_)
  refine bodyPost_ret (v := .tuple #[.agg (brow D), .int .i64 E]) ?_ rfl ⟨rfl, (unhide HK2).setRow (by simp) _⟩
  exact results_cell_tmp rfl _ _ w.heap.size _ (brow D) (0, 0) _ rfl (setRow_heap _ _ _ _ _ _ (unhide HZ2)) Tryd.underlying26 rfl (by rw [brow_size, hcl]; exact Tryd.size_dig) _ rfl

end Go.Proofs.YtajfaekfhohbmaaDoor
namespace Go.Proofs.YtajfaekfhohbmaaDoor
open Go.RowKit Go.BigFrame
set_option linter.unusedVariables false
set_option linter.unusedSimpArgs false

/-- What Leaf answers. -/
def lfD (L : List (List Nat)) (i : Nat) : List Nat := if L.length ≤ i then List.replicate 32 0 else L.getD i []
def lfE (L : List (List Nat)) (i : Nat) : Int := if L.length ≤ i then 4 else 0
theorem lfD_dg {z : Int} {w : World} {ps : List Pk} (h : PKs z w ps) (i : Nat) : Dg (lfD (leavesK ps) i) := by
  unfold lfD
  split
  · exact ⟨by simp, by simp⟩
  · rename_i h1
    rw [List.getD_eq_getElem?_getD, List.getElem?_eq_getElem (by omega)]
    exact (h.leaves _ (List.getElem_mem _)).1

set_option maxRecDepth 100000 in
set_option maxHeartbeats 400000 in
theorem leafT_nil (i : Int) (w : World) :
    Calls Tryd.prog 33 #[.pointer none, .int .u64 i] w fun e w' => e = .returned (.tuple #[.agg (zb 32), .int .i64 5]) ∧ Kept [] w w' := by
  have HZ := hide (heap_alloc_new w (.cells (zb 32) 26))
  have HK := hide (((Kept.refl [] w).alloc (.cells (zb 32) 26)).setRow (g := w.heap.size) (Or.inr (Nat.le_refl _)) (zb 32))
  go_enter Tryd.func33, Tryd.ntmps33
  go_wp2_with (rw [zb32]; refine wpList_store_row rfl 26 _ _ rfl w.heap.size (zb 32) rfl rfl _ (zb 32) (unhide HZ) (by rw [zb_size]; exact Tryd.size_dig) rfl (brow_one _) ?_)
  refine bodyPost_ret (v := .tuple #[.agg (zb 32), .int .i64 5]) ?_ rfl ⟨rfl, unhide HK⟩
  exact results_cell_tmp rfl _ _ w.heap.size _ (zb 32) (0, 0) _ rfl (setRow_heap _ _ _ _ _ _ (unhide HZ)) Tryd.underlying26 rfl (by rw [zb_size]; exact Tryd.size_dig) _ rfl

set_option maxRecDepth 100000 in
set_option maxHeartbeats 400000 in
theorem leafT_all (z : Int) (t : Nat) (v : Value) (ps : List Pk) (i : Nat) (w : World) (hT : TreeAt z w t v ps) (hb : (leavesK ps).length < 32768) :
    Calls Tryd.prog 33 #[.pointer (some ⟨t, 0, none⟩), .int .u64 i] w fun e w' => e = .returned (.tuple #[.agg (brow (lfD (leavesK ps) i)), .int .i64 (lfE (leavesK ps) i)]) ∧ Kept [] w w' := by
  have hdl := (lfD_dg hT.pk i).1
  have c1 := cell_of_row _ _ 1 _ _ _ hT.row
  simp at c1
  have k0 := (Kept.refl [] w).alloc (.cells (zb 32) 26)
  have d1 := k0.cell c1 (by simp)
  have HZ := hide (heap_alloc_new w (.cells (zb 32) 26))
  have HK := hide k0
  rw [← zb32] at d1
  by_cases h : (leavesK ps).length ≤ i
  · have e1 : lfD (leavesK ps) i = List.replicate 32 0 := if_pos h
    have e2 : lfE (leavesK ps) i = 4 := if_pos h
    rw [e1, e2]
    have h' : ((leavesK ps).length : Int) ≤ i := by omega
    generalize (leavesK ps).length = n at d1 h'
    clear e1 e2 h hdl hb c1 k0 hT
    show Calls Tryd.prog 33 #[.pointer (some ⟨t, 0, none⟩), .int .u64 i] w fun e w' => e = .returned (.tuple #[.agg (zb 32), .int .i64 4]) ∧ Kept [] w w'
    go_enter Tryd.func33, Tryd.ntmps33
    go_wp2_with (rw [zb32]; refine wpList_store_row rfl 26 _ _ rfl w.heap.size (zb 32) rfl rfl _ (zb 32) (unhide HZ) (by rw [zb_size]; exact Tryd.size_dig) rfl (brow_one _) ?_)
    refine bodyPost_ret (v := .tuple #[.agg (zb 32), .int .i64 4]) ?_ rfl ⟨rfl, (unhide HK).setRow (g := w.heap.size) (Or.inr (Nat.le_refl _)) (zb 32)⟩
    exact results_cell_tmp rfl _ _ w.heap.size _ (zb 32) (0, 0) _ rfl (setRow_heap _ _ _ _ _ _ (unhide HZ)) Tryd.underlying26 rfl (by rw [zb_size]; exact Tryd.size_dig) _ rfl
  · have e2 : lfE (leavesK ps) i = 0 := if_neg h
    rw [e2]
    have h' : ¬ ((leavesK ps).length : Int) ≤ i := by omega
    have HKE := hide (by
      have h9 := keptT_any z t v ps i 0 _ (hT.old k0) (by simp; omega) (by simp) hb
      have e3 : perT z 0 (((leavesK ps).drop i).take (2 ^ 0)) = lfD (leavesK ps) i := by
        unfold lfD
        rw [if_neg h]
        simp [perT, List.getD_eq_getElem?_getD, List.getElem?_drop, List.getElem?_take]
      rw [e3] at h9
      exact h9 : Calls Tryd.prog 57 #[.pointer (some ⟨t, 0, none⟩), .int .u64 i, .int .i64 ((0 : Nat) : Int)] (w.alloc (.cells (zb 32) 26)) fun e w' => e = .returned (.agg (brow (lfD (leavesK ps) i))) ∧ Kept [] _ w')
    generalize (leavesK ps).length = n at d1 h'
    generalize lfD (leavesK ps) i = D at HKE hdl ⊢
    clear e2 h hb c1 k0 hT
    go_enter Tryd.func33, Tryd.ntmps33
    go_wp2_with fail
    rw [zb32]
    refine (unhide HKE).mono ?_
    rintro e w5 ⟨rfl, k5⟩
    have HZ5 := hide (k5.heap (unhide HZ) (by simp))
    have HK5 := hide (((unhide HK).trans k5 (by simp)).setRow (g := w.heap.size) (Or.inr (Nat.le_refl _)) (brow D))
    clear k5
    go_wp2_with (refine wpList_store_row rfl 26 _ _ rfl w.heap.size (brow D) rfl rfl _ (zb 32) (unhide HZ5) (by rw [brow_size, hdl]; exact Tryd.size_dig) (by rw [zb_size, brow_size, hdl]) (brow_one _) ?_)
    refine bodyPost_ret (v := .tuple #[.agg (brow D), .int .i64 0]) ?_ rfl ⟨rfl, unhide HK5⟩
    exact results_cell_tmp rfl _ _ w.heap.size _ (brow D) (0, 0) _ rfl (setRow_heap _ _ _ _ _ _ (unhide HZ5)) Tryd.underlying26 rfl (by rw [brow_size, hdl]; exact Tryd.size_dig) _ rfl
end Go.Proofs.YtajfaekfhohbmaaDoor
namespace Go.Proofs.YtajfaekfhohbmaaDoor
open Go.RowKit Go.BigFrame
set_option linter.unusedVariables false
set_option linter.unusedSimpArgs false

set_option maxRecDepth 100000 in
set_option maxHeartbeats 400000 in
theorem below64_any (k : Nat) (w : World) (h2 : 2 ≤ k) (hk : k < 18446744073709551616) :
    Calls Tryd.prog 70 #[.int .u64 k] w fun e w' => e = .returned (.int .u64 (belT k)) ∧ w' = w := by
  have hs : IntKind.u64.wrap ((k : Int) - 1) = ((k - 1 : Nat) : Int) := by rw [wrM]; omega
  have HB := hide (fun j (h : 2 ^ j ≤ k - 1) (h' : k - 1 < 2 ^ (j + 1)) => (by unfold belT; rw [(Nat.log2_eq_iff (by omega)).2 ⟨h, h'⟩] : belT k = 2 ^ j))
  obtain ⟨k1, hk1⟩ : ∃ k1, k - 1 = k1 := ⟨_, rfl⟩
  rw [hk1] at hs HB
  have h1 : 1 ≤ k1 := by omega
  have h3 : k1 < 18446744073709551616 := by omega
  obtain ⟨B, hBe⟩ : ∃ B, belT k = B := ⟨_, rfl⟩
  rw [hBe] at HB ⊢
  clear hBe hk1
  go_enter Tryd.func70, Tryd.ntmps70
  go_wp2_with fail
  go_loopw [3] (fun t3 wr => ∃ (m : Nat), t3 = .int .u64 (m : Int) ∧ 1 ≤ m ∧ m ≤ k1 ∧ Hid (∃ j, m = 2 ^ j) ∧ wr = w) (fun t _ => k1 - (intOf t).toNat)
  case atStart => exact ⟨1, rfl, by omega, by omega, hide ⟨0, rfl⟩, rfl⟩
  case round =>
    obtain ⟨m, rfl, hm1, hm2, HJ, rfl⟩ := hrel
    by_cases hle : 2 * m ≤ k1
    · have hle' : (m : Int) ≤ (k1 : Int) / 2 := by omega
      have hmul : IntKind.u64.wrap ((m : Int) * 2) = ((2 * m : Nat) : Int) := by rw [wrM]; omega
      have HJ2 := hide (by obtain ⟨j, hj⟩ := unhide HJ; exact ⟨j + 1, by rw [Nat.pow_succ]; omega⟩ : ∃ j, 2 * m = 2 ^ j)
      go_wp2_with (first | simp only [hs] | simp only [hmul])
      refine ⟨⟨2 * m, rfl, by omega, by omega, HJ2, by trivial⟩, ?_⟩
      simp [intOf]
      omega
    · have hle' : ¬ (m : Int) ≤ (k1 : Int) / 2 := by omega
      have HE := hide (by obtain ⟨j, hj⟩ := unhide HJ; rw [hj]; exact unhide HB j (by omega) (by rw [Nat.pow_succ]; omega) : B = m)
      go_wp2_with (simp only [hs])
      go_ret
      exact ⟨by rw [unhide HE]; rfl, rfl⟩

theorem stL_le : ∀ (c i n : Nat), stL c i n ≤ c
  | 0, _, _ => Nat.le_refl _
  | c + 1, i, n => by
    unfold stL
    have := stL_le c (i / 2) (n / 2 + n % 2)
    split
    · omega
    · split <;> omega
theorem stL_one (c i n : Nat) (h : n ≤ 1) : stL c i n = 0 := by
  cases c with
  | zero => rfl
  | succ c => unfold stL; rw [if_pos h]

set_option maxRecDepth 100000 in
set_option maxHeartbeats 1000000 in
theorem steps_any (i n : Nat) (w : World) (hi : i < n) (hn : n < 18446744073709551616) :
    Calls Tryd.prog 45 #[.int .u64 i, .int .u64 n] w fun e w' => e = .returned (.int .i64 (stL 64 i n)) ∧ w' = w := by
  have HTOP := hide (by omega : n ≤ 2 ^ 64)
  obtain ⟨D, hD⟩ : ∃ D, stL 64 i n = D := ⟨_, rfl⟩
  have HD64 := hide (by rw [← hD]; exact stL_le 64 i n : D ≤ 64)
  rw [hD]
  have HD := hide hD
  clear hD
  go_enter Tryd.func45, Tryd.ntmps45
  go_wp2_with fail
  go_loopw [0, 1, 5] (fun t0 t1 t5 wr => ∃ (i' n' s c : Nat), t0 = .int .u64 (i' : Int) ∧ t1 = .int .u64 (n' : Int) ∧ t5 = .int .i64 (s : Int) ∧ i' < n' ∧ n' < 18446744073709551616 ∧ s ≤ 64 ∧ Hid (n' ≤ 2 ^ c) ∧ Hid (s + stL c i' n' = D) ∧ wr = w) (fun _ t _ _ => (intOf t).toNat)
  case atStart => exact ⟨i, n, 0, 64, rfl, rfl, rfl, hi, hn, by omega, HTOP, hide (by have := unhide HD; omega), rfl⟩
  case round =>
    obtain ⟨i', n', s, c, rfl, rfl, rfl, h1, h2, h3, HB, HS, rfl⟩ := hrel
    by_cases hg : 1 < n'
    · have hg' : (1 : Int) < (n' : Int) := by omega
      cases c with
      | zero => exfalso; have := unhide HB; omega
      | succ c =>
        have HB2 := hide (by have := unhide HB; rw [Nat.pow_succ] at this; omega : n' / 2 + n' % 2 ≤ 2 ^ c)
        have HD6 := unhide HD64
        by_cases hodd : i' % 2 = 1
        · have hodd' : (i' : Int) % 2 = 1 := by omega
          have hq : ((i' : Int) % 2 == 1) = true := by simp; omega
          have HS2 := hide (by have h9 := unhide HS; unfold stL at h9; rw [if_neg (by omega), if_pos (Or.inl hodd)] at h9; omega : s + 1 + stL c (i' / 2) (n' / 2 + n' % 2) = D)
          have hs : s + 1 ≤ 64 := by have := unhide HS2; omega
          clear HB HS
          go_wp2_with (first | simp only [hq, Bool.true_or])
          refine ⟨⟨i' / 2, n' / 2 + n' % 2, s + 1, c, by simp, by simp, by simp, by omega, by omega, hs, HB2, HS2, by trivial⟩, ?_⟩
          simp [intOf]
          omega
        · have hodd' : ¬ (i' : Int) % 2 = 1 := by omega
          have hq : ((i' : Int) % 2 == 1) = false := by simp; omega
          by_cases hlt : i' + 1 < n'
          · have hlt' : (i' : Int) + 1 < (n' : Int) := by omega
            have HS2 := hide (by have h9 := unhide HS; unfold stL at h9; rw [if_neg (by omega), if_pos (Or.inr hlt)] at h9; omega : s + 1 + stL c (i' / 2) (n' / 2 + n' % 2) = D)
            have hs : s + 1 ≤ 64 := by have := unhide HS2; omega
            clear HB HS
            go_wp2_with (first | simp only [hq, Bool.false_or])
            refine ⟨⟨i' / 2, n' / 2 + n' % 2, s + 1, c, by simp, by simp, by simp, by omega, by omega, hs, HB2, HS2, by trivial⟩, ?_⟩
            simp [intOf]
            omega
          · have hlt' : ¬ (i' : Int) + 1 < (n' : Int) := by omega
            have HS2 := hide (by have h9 := unhide HS; unfold stL at h9; rw [if_neg (by omega), if_neg (by omega)] at h9; omega : s + stL c (i' / 2) (n' / 2 + n' % 2) = D)
            clear HB HS
            go_wp2_with (first | simp only [hq, Bool.false_or])
            refine ⟨⟨i' / 2, n' / 2 + n' % 2, s, c, by simp, by simp, by simp, by omega, by omega, h3, HB2, HS2, by trivial⟩, ?_⟩
            simp [intOf]
            omega
    · have hg' : ¬ (1 : Int) < (n' : Int) := by omega
      have HE := hide (by have h9 := unhide HS; rw [stL_one _ _ _ (by omega)] at h9; omega : s = D)
      go_wp2_with fail
      go_ret
      exact ⟨by rw [unhide HE]; rfl, rfl⟩
end Go.Proofs.YtajfaekfhohbmaaDoor
namespace Go.Proofs.YtajfaekfhohbmaaDoor
open Go.RowKit Go.BigFrame
set_option linter.unusedVariables false
set_option linter.unusedSimpArgs false

theorem sinL_le : ∀ (c m n : Nat) (wh : Bool), sinL c m n wh ≤ c + 1
  | 0, _, _, wh => by unfold sinL; split <;> omega
  | c + 1, m, n, wh => by
    unfold sinL
    have h1 := sinL_le c m (belT n) wh
    have h2 := sinL_le c (m - belT n) (n - belT n) false
    split
    · split <;> omega
    · split <;> omega
theorem sinL_end (c m : Nat) (wh : Bool) : sinL c m m wh = if wh then 0 else 1 := by
  cases c with
  | zero => rfl
  | succ c => unfold sinL; rw [if_pos rfl]

set_option maxRecDepth 100000 in
set_option maxHeartbeats 1000000 in
theorem since_any (m n : Nat) (w : World) (hm : 1 ≤ m) (hmn : m ≤ n) (hn : n < 18446744073709551616) :
    Calls Tryd.prog 46 #[.int .u64 m, .int .u64 n, .bool true] w fun e w' => e = .returned (.int .i64 (sinL 64 m n true)) ∧ w' = w := by
  have HTOP := hide (by omega : n ≤ 2 ^ 64)
  obtain ⟨D, hD⟩ : ∃ D, sinL 64 m n true = D := ⟨_, rfl⟩
  have HD64 := hide (by rw [← hD]; exact sinL_le 64 m n true : D ≤ 65)
  rw [hD]
  have HD := hide hD
  clear hD
  go_enter Tryd.func46, Tryd.ntmps46
  go_wp2_with fail
  go_loopw [0, 1, 2, 7] (fun t0 t1 t2 t7 wr => ∃ (m' n' s c : Nat) (wh : Bool), t0 = .int .u64 (m' : Int) ∧ t1 = .int .u64 (n' : Int) ∧ t2 = .bool wh ∧ t7 = .int .i64 (s : Int) ∧ 1 ≤ m' ∧ m' ≤ n' ∧ n' < 18446744073709551616 ∧ s ≤ 65 ∧ Hid (n' ≤ 2 ^ c) ∧ Hid (s + sinL c m' n' wh = D) ∧ wr = w) (fun _ t _ _ _ => (intOf t).toNat)
  case atStart => exact ⟨m, n, 0, 64, true, rfl, rfl, rfl, rfl, hm, hmn, hn, by omega, HTOP, hide (by have := unhide HD; omega), rfl⟩
  case round =>
    obtain ⟨m', n', s, c, wh, rfl, rfl, rfl, rfl, h1, h2, h3, h4, HB, HS, rfl⟩ := hrel
    by_cases hg : m' = n'
    · subst hg
      have HE := hide (by have h9 := unhide HS; rw [sinL_end] at h9; exact h9 : s + (if wh then 0 else 1) = D)
      cases wh with
      | true =>
        go_wp2_with fail
        go_ret
        exact ⟨by have := unhide HE; simp at this; rw [this]; rfl, rfl⟩
      | false =>
        go_wp2_with fail
        go_ret
        exact ⟨by have := unhide HE; simp at this; rw [← this]; simp, rfl⟩
    · have hg' : ¬ (m' : Int) = (n' : Int) := by omega
      have hbe := belT_lt (n := n') (by omega)
      cases c with
      | zero => exfalso; have := unhide HB; omega
      | succ c =>
        have hbh := belT_half (n := n') (c := c) (by omega) (unhide HB)
        have HBL := hide (below64_any n' wr (by omega) h3)
        have HST := hide (by have h9 := unhide HS; unfold sinL at h9; rw [if_neg hg] at h9; exact h9 : s + (1 + (if m' ≤ belT n' then sinL c m' (belT n') wh else sinL c (m' - belT n') (n' - belT n') false)) = D)
        obtain ⟨k, hk⟩ : ∃ k, belT n' = k := ⟨_, rfl⟩
        rw [hk] at hbe hbh HBL HST
        have HB1 := hide hbh
        have hs : s + 1 ≤ 65 := by have := unhide HST; have := unhide HD64; omega
        clear hk hbh HS HB
        by_cases hle : m' ≤ k
        · have hle' : (m' : Int) ≤ (k : Int) := by omega
          have HS2 := hide (by have h9 := unhide HST; rw [if_pos hle] at h9; omega : s + 1 + sinL c m' k wh = D)
          clear HST
          go_wp2_with fail
          refine (unhide HBL).mono ?_
          rintro e w1 ⟨rfl, rfl⟩
          go_wp2_with fail
          refine ⟨⟨m', k, s + 1, c, wh, by simp, by simp, by simp, by simp, h1, hle, by omega, hs, hide (unhide HB1).1, HS2, by trivial⟩, ?_⟩
          simp [intOf]
          omega
        · have hle' : ¬ (m' : Int) ≤ (k : Int) := by omega
          have HS2 := hide (by have h9 := unhide HST; rw [if_neg hle] at h9; omega : s + 1 + sinL c (m' - k) (n' - k) false = D)
          have hd1 : IntKind.u64.wrap ((m' : Int) - (k : Int)) = ((m' - k : Nat) : Int) := by rw [wrM]; omega
          have hd2 : IntKind.u64.wrap ((n' : Int) - (k : Int)) = ((n' - k : Nat) : Int) := by rw [wrM]; omega
          obtain ⟨p, hp⟩ : ∃ p, m' - k = p := ⟨_, rfl⟩
          obtain ⟨q, hq⟩ : ∃ q, n' - k = q := ⟨_, rfl⟩
          rw [hp] at hd1 HS2
          rw [hq] at hd2 HS2
          have HPQ := hide (⟨by omega, by omega, by omega, by omega⟩ : 1 ≤ p ∧ p ≤ q ∧ q < n' ∧ q < 18446744073709551616)
          have HQ2 := hide (by have := (unhide HB1).2; omega : q ≤ 2 ^ c)
          clear HST hp hq
          go_wp2_with fail
          refine (unhide HBL).mono ?_
          rintro e w1 ⟨rfl, rfl⟩
          go_wp2_with (first | simp only [hd1] | simp only [hd2])
          refine ⟨⟨p, q, s + 1, c, false, by simp, by simp, by simp, by simp, (unhide HPQ).1, (unhide HPQ).2.1, (unhide HPQ).2.2.2, hs, HQ2, HS2, by trivial⟩, ?_⟩
          have := (unhide HPQ).2.2.1
          simp [intOf]
          omega

theorem smL_len {m n : Nat} (hm : m ≤ n) (hn : n < 18446744073709551616) : (smL m n).length = if m = 0 then 0 else sinL 64 m n true := by
  unfold smL
  by_cases h0 : m = 0
  · rw [if_pos (Or.inl h0), if_pos h0]; rfl
  · rw [if_neg h0]
    by_cases h1 : m = n
    · rw [if_pos (Or.inr h1), h1, sinL_end]; rfl
    · rw [if_neg (by omega), seam_sin m 64 0 n true (by omega) hm (by omega)]; simp
theorem cntA_eq {i m n : Nat} (hi : i < n) (hm : m ≤ n) (hn : n < 18446744073709551616) : cntA i m n = (stL 64 i n : Int) := by
  unfold cntA
  rw [if_neg (by omega), path_all hi (by omega), levs_steps 64 i n hi (by omega)]

set_option maxRecDepth 100000 in
set_option maxHeartbeats 1000000 in
theorem docCounts_any (i m n : Nat) (w : World) (hi : i < 18446744073709551616) (hm : m < 18446744073709551616) (hn : n < 18446744073709551616) :
    Calls Tryd.prog 20 #[.int .u64 i, .int .u64 m, .int .u64 n] w fun e w' => e = .returned (.tuple #[.int .i64 (cntA i m n), .int .i64 (cntB i m n), .int .i64 (cntE i m n)]) ∧ w' = w := by
  by_cases h1 : n ≤ i
  · have h1' : (n : Int) ≤ (i : Int) := by omega
    unfold cntA cntB cntE
    rw [if_pos (Or.inl h1), if_pos (Or.inl h1), if_pos (Or.inl h1)]
    go_enter Tryd.func20, Tryd.ntmps20
    go_wp2_with fail
    all_goals exact ⟨rfl, _, results_tmp3 rfl _ _ _, rfl, rfl⟩
  · have h1' : ¬ (n : Int) ≤ (i : Int) := by omega
    by_cases h2 : n < m
    · have h2' : (n : Int) < (m : Int) := by omega
      unfold cntA cntB cntE
      rw [if_pos (Or.inr h2), if_pos (Or.inr h2), if_pos (Or.inr h2)]
      go_enter Tryd.func20, Tryd.ntmps20
      go_wp2_with fail
      all_goals exact ⟨rfl, _, results_tmp3 rfl _ _ _, rfl, rfl⟩
    · have h2' : ¬ (n : Int) < (m : Int) := by omega
      have HST := hide (steps_any i n w (by omega) hn)
      have HSI := hide (fun h => since_any m n w h (by omega) hn)
      have hA := cntA_eq (i := i) (m := m) (n := n) (by omega) (by omega) hn
      have hB : cntB i m n = ((if m = 0 then 0 else sinL 64 m n true : Nat) : Int) := by
        unfold cntB
        rw [if_neg (by omega), smL_len (by omega) hn]
      have hE : cntE i m n = 0 := by unfold cntE; rw [if_neg (by omega)]
      rw [hA, hE]
      clear hA hE
      generalize stL 64 i n = S at HST ⊢
      by_cases h0 : m = 0
      · subst h0
        have hb0 : cntB i 0 n = 0 := by rw [hB]; rfl
        rw [hb0]
        clear hB hb0
        go_enter Tryd.func20, Tryd.ntmps20
        go_wp2_with fail
        refine (unhide HST).mono ?_
        rintro e w1 ⟨rfl, rfl⟩
        go_wp2_with fail
        exact ⟨rfl, _, results_tmp3 rfl _ _ _, rfl, rfl⟩
      · have h0' : ¬ (m : Int) = 0 := by omega
        rw [if_neg h0] at hB
        rw [hB]
        clear hB
        have HS2 := hide (unhide HSI (by omega))
        generalize sinL 64 m n true = T at HS2 ⊢
        go_enter Tryd.func20, Tryd.ntmps20
        go_wp2_with fail
        refine (unhide HST).mono ?_
        rintro e w1 ⟨rfl, rfl⟩
        go_wp2_with fail
        refine (unhide HS2).mono ?_
        rintro e w2 ⟨rfl, rfl⟩
        go_wp2_with fail
        exact ⟨rfl, _, results_tmp3 rfl _ _ _, rfl, rfl⟩
theorem cntA_le (i m n : Nat) : cntA i m n ≤ 64 := by
  unfold cntA
  have := pathF_len i 64 0 n
  split <;> omega
theorem cntB_le (i m n : Nat) : cntB i m n ≤ 65 := by
  unfold cntB smL
  have := seamF_len m 64 0 n true
  split
  · omega
  · split
    · simp
    · omega
end Go.Proofs.YtajfaekfhohbmaaDoor
namespace Go.Proofs.YtajfaekfhohbmaaDoor
open Go.RowKit Go.BigFrame
set_option linter.unusedVariables false
set_option linter.unusedSimpArgs false

theorem RdD.flat {w : World} {g : Nat} {ds : List (List Nat)} {t : TypeId} {fr : Nat × Nat} (h : w.heap[g]? = some (.cells (flatD ds).toArray t fr)) (hd : ∀ d ∈ ds, Dg d) (n : Nat) (hn : ds.length = n) (hs : n ≤ 1000000) : RdD w (.slice (some ⟨g, 0, none⟩) n n) ds := by
  subst hn
  refine ⟨_, _, _, rfl, rfl, Nat.le_refl _, by omega, hd, fun _ => ⟨g, 0, rfl, fun i hi => ?_⟩⟩
  intro j v hv
  have hj : j < 32 := by
    have := (List.getElem?_eq_some_iff.1 hv).1
    rw [List.length_map, List.getD_eq_getElem?_getD, List.getElem?_eq_getElem hi] at this
    rw [← (hd ds[i] (List.getElem_mem hi)).1]; exact this
  have hq := flatD_at (fun d hd' => (hd d hd').1) i hi j hj
  rw [Nat.zero_add, cell_of_row _ _ _ _ _ _ h, List.getElem?_toArray, hq]
  exact hv
theorem RdD.range {w : World} {ao : Option Addr} {n c : Nat} {ds : List (List Nat)} (h : RdD w (.slice ao n c) ds) (hp : 0 < ds.length) : ∃ b o, ao = some ⟨b, o, none⟩ ∧ ∀ i, i < ds.length → w.rangeAt b (o + i * 32) ((ds.getD i []).map u8) := by
  obtain ⟨_, _, _, e, h1, h2, h3, h4, h5⟩ := h
  cases e
  obtain ⟨b, o, e, hc⟩ := h5 (by omega)
  exact ⟨b, o, e, fun i hi => hc i (by omega)⟩

def e1 : List Nat := 1 :: List.replicate 31 0
def e2 : List Nat := 2 :: List.replicate 31 0
def e3 : List Nat := 3 :: List.replicate 31 0
theorem e_dg : ∀ d ∈ [e1, e2, e3], Dg d := by
  intro d hd
  simp only [List.mem_cons, List.not_mem_nil, or_false] at hd
  rcases hd with rfl | rfl | rfl <;> exact ⟨rfl, by decide⟩
theorem e_cut : [e1, e2, e3].map (cutL 4) = [e1, e2, e3] := by decide +kernel
theorem e_path : pathF 2 64 0 3 = [(0, 2)] := by decide +kernel
theorem e_seam : smL 1 3 = [(1, 2), (2, 3)] := by decide +kernel
theorem e_in : inD 4 [e1, e2, e3] 2 3 = [nodS 4 e1 e2] := by
  unfold inD
  rw [if_neg (by decide), e_path]
  unfold rgL
  rw [List.map_cons, List.map_nil]
  unfold rgD
  rw [if_neg (by decide), rngD_cut (by decide) (by decide)]
  rfl
theorem e_cs : csD 4 [e1, e2, e3] 1 3 = [e2, e3] := by
  unfold csD
  rw [if_neg (by decide), e_seam]
  rfl

set_option maxRecDepth 100000 in
set_option maxHeartbeats 1000000 in
theorem mpawake_any (w : World) (hT : Tabs w) (h6 : Tab6 w) :
    Calls Tryd.prog 14 #[] w fun e w' => e = .returned (.bool true) ∧ Kept [] w w' := by
  have HTB := hide hT
  have H6 := hide h6
  clear hT h6
  go_enter Tryd.func14, Tryd.ntmps14
  go_wp2_with fail
  have kA := (Kept.refl [] w).alloc (.cells (flatD [e1, e2, e3]).toArray 26)
  have HTR := hide (tree_ok 4 (.slice (some ⟨w.heap.size, 0, none⟩) 3 3) [e1, e2, e3] _ (by decide) (by decide) (RdD.flat (heap_alloc_new w (.cells (flatD [e1, e2, e3]).toArray 26)) e_dg 3 rfl (by decide)) (by decide) ((unhide HTB).kept kA (by simp) (by simp)) ((unhide H6).kept kA))
  have HKA := hide kA
  clear kA
  refine Calls.mono (unhide HTR) ?_
  rintro e w1 ⟨_, h9⟩
  obtain ⟨t, v, qs, u, rfl, tr, lv, ow⟩ := h9 (by decide)
  rw [show ((4 : Nat) : Int).toNat = 4 from rfl, e_cut] at lv ow
  have HT1 := hide tr
  have HLV := hide lv
  have HO1 := hide (ow.back (unhide HKA))
  have HB := hide (by rw [lv]; decide : (leavesK qs).length < 32768)
  clear h9 tr lv ow HTR HKA
  obtain ⟨ua, uc, rfl⟩ := (unhide HO1).form
  go_wp2_with fail
  refine (mincl_any 4 t v qs 2 3 w1 (unhide HT1) (unhide HB) ((unhide HTB).kept (unhide HO1).kept (by simp) (by simp)) ((unhide H6).kept (unhide HO1).kept) (by decide)).mono ?_
  rintro e w2 ⟨p, rfl, o2⟩
  rw [unhide HLV, e_in] at o2
  rw [show inE (leavesK qs) 2 3 = 0 from by rw [unhide HLV]; rfl]
  have HO2 := hide o2
  have HT2 := hide ((unhide HT1).old o2.kept)
  have HOA2 := hide ((unhide HO1).pass o2.kept)
  clear o2 HO1 HT1
  obtain ⟨pa, pc, rfl⟩ := (unhide HO2).form
  go_wp2_with fail
  refine (mcons_any 4 t v qs 1 3 w2 (unhide HT2) (unhide HB) ((unhide HTB).kept (unhide HOA2).kept (by simp) (by simp)) ((unhide H6).kept (unhide HOA2).kept) (by decide)).mono ?_
  rintro e w3 ⟨q, rfl, o3⟩
  rw [unhide HLV, e_cs] at o3
  rw [show csE (leavesK qs) 1 3 = 0 from by rw [unhide HLV]; rfl]
  have HO3 := hide o3
  have HP3 := hide ((unhide HO2).pass o3.kept)
  have HOA3 := hide ((unhide HOA2).pass o3.kept)
  clear o3 HO2 HT2 HOA2
  obtain ⟨qa, qc, rfl⟩ := (unhide HO3).form
  go_wp2_with fail
  refine (counts_any 2 1 3 w3 (by decide) (by decide) (by decide)).mono ?_
  rintro e w4 ⟨rfl, k4⟩
  rw [show cntA 2 1 3 = 1 from by decide +kernel, show cntB 2 1 3 = 2 from by decide +kernel, show cntE 2 1 3 = 0 from rfl]
  have HQ4 := hide ((unhide HO3).pass k4)
  have HP4 := hide ((unhide HP3).pass k4)
  have HL4 := hide ((unhide HOA3).pass k4)
  clear k4 HO3 HP3 HOA3
  obtain ⟨pb, po, rfl, prd⟩ := (unhide HP4).rd.range (by decide)
  obtain ⟨qb, qo, rfl, qrd⟩ := (unhide HQ4).rd.range (by decide)
  obtain ⟨ub, uo, rfl, urd⟩ := (unhide HL4).rd.range (by decide)
  have p0 := prd 0 (by decide)
  have q0 := qrd 0 (by decide)
  have q1 := qrd 1 (by decide)
  have u0 := urd 0 (by decide)
  have u1 := urd 1 (by decide)
  have u2 := urd 2 (by decide)
  simp only [List.getD_cons_zero, List.getD_cons_succ, Nat.zero_mul, Nat.add_zero, Nat.one_mul] at p0 q0 q1 u0 u1 u2
  have HND := hide (fun w' (hw' : Kept [] w4 w') => (refNode_any 4 e1 e2 w' (by decide) (e_dg e1 (by simp)) (e_dg e2 (by simp))).mono (fun e w2 h2 => ⟨h2.1, hw'.trans h2.2 (by simp)⟩) : ∀ w', Kept [] w4 w' → Calls Tryd.prog 34 #[.int .i64 ((4 : Nat) : Int), .agg (brow e1), .agg (brow e2)] w' fun e w2 => e = .returned (.agg (brow (nodS 4 e1 e2))) ∧ Kept [] w4 w2)
  have hN := (nodS_dg 4 e1 e2).1
  generalize nodS 4 e1 e2 = N at p0 HND hN
  have he1 : e1.length = 32 := rfl
  have he2 : e2.length = 32 := rfl
  have he3 : e3.length = 32 := rfl
  have u2 : w4.rangeAt ub (uo + 64) (e3.map u8) := u2
  have hqN := fun W => dig_eq W N N hN hN
  have hq2 := fun W => dig_eq W e2 e2 he2 he2
  have hq3 := fun W => dig_eq W e3 e3 he3 he3
  rw [decide_eq_true rfl] at hqN hq2 hq3
  have hne : ∀ p : Prop, (∀ w', Kept [] w4 w' → p) = p := fun p => propext ⟨fun h => h w4 (Kept.refl [] w4), fun h _ _ => h⟩
  go_wp2_with fail
  refine wp_region_keep (by kernel_rfl) (by kernel_rfl) ?_
  iterate 2 (go_big_quiet_step (fail))
  refine wpQuiet_mid rfl 26 _ rfl pb (po) rfl (N.map u8) _ (fun w' hw' => range_kept p0 hw' (by simp)) Tryd.underlying26 rfl (by rw [List.length_map, hN]; exact Tryd.size_dig) ?_
  simp only [Act.put, List.setIfInBounds_toArray, List.set_cons_succ, List.set_cons_zero]
  iterate 2 (go_big_quiet_step (fail))
  refine wpQuiet_mid rfl 26 _ rfl ub (uo) rfl (e1.map u8) _ (fun w' hw' => range_kept u0 hw' (by simp)) Tryd.underlying26 rfl (by rw [List.length_map, he1]; exact Tryd.size_dig) ?_
  simp only [Act.put, List.setIfInBounds_toArray, List.set_cons_succ, List.set_cons_zero]
  iterate 2 (go_big_quiet_step (fail))
  refine wpQuiet_mid rfl 26 _ rfl ub (uo + 32) rfl (e2.map u8) _ (fun w' hw' => range_kept u1 hw' (by simp)) Tryd.underlying26 rfl (by rw [List.length_map, he2]; exact Tryd.size_dig) ?_
  simp only [Act.put, List.setIfInBounds_toArray, List.set_cons_succ, List.set_cons_zero]
  go_big_quiet_want
  go_big_quiet_op
  apply Exists.intro
  refine ⟨fun w' hw' => ?_, ?_⟩
  · exact unhide HND w' hw'
  go_big_quiet_on
  refine wpQuiet_val rfl (.bool true) (fun w' hw' => run_eql 26 (.tmp 67) (.tmp 74) _ rfl (brow N) (brow N) rfl rfl w' true (by kernel_rfl) (hqN w')) ?_
  simp only [Act.put, List.setIfInBounds_toArray, List.set_cons_succ, List.set_cons_zero]
  iterate 3 (go_big_quiet_step (fail))
  refine wpQuiet_mid rfl 26 _ rfl qb (qo) rfl (e2.map u8) _ (fun w' hw' => range_kept q0 hw' (by simp)) Tryd.underlying26 rfl (by rw [List.length_map, he2]; exact Tryd.size_dig) ?_
  simp only [Act.put, List.setIfInBounds_toArray, List.set_cons_succ, List.set_cons_zero]
  iterate 2 (go_big_quiet_step (fail))
  refine wpQuiet_mid rfl 26 _ rfl ub (uo + 32) rfl (e2.map u8) _ (fun w' hw' => range_kept u1 hw' (by simp)) Tryd.underlying26 rfl (by rw [List.length_map, he2]; exact Tryd.size_dig) ?_
  simp only [Act.put, List.setIfInBounds_toArray, List.set_cons_succ, List.set_cons_zero]
  refine wpQuiet_val rfl (.bool true) (fun w' hw' => run_eql 26 (.tmp 79) (.tmp 82) _ rfl (brow e2) (brow e2) rfl rfl w' true (by kernel_rfl) (hq2 w')) ?_
  simp only [Act.put, List.setIfInBounds_toArray, List.set_cons_succ, List.set_cons_zero]
  iterate 4 (go_big_quiet_step (fail))
  refine wpQuiet_mid rfl 26 _ rfl qb (qo + 32) rfl (e3.map u8) _ (fun w' hw' => range_kept q1 hw' (by simp)) Tryd.underlying26 rfl (by rw [List.length_map, he3]; exact Tryd.size_dig) ?_
  simp only [Act.put, List.setIfInBounds_toArray, List.set_cons_succ, List.set_cons_zero]
  iterate 2 (go_big_quiet_step (fail))
  refine wpQuiet_mid rfl 26 _ rfl ub (uo + 64) rfl (e3.map u8) _ (fun w' hw' => range_kept u2 hw' (by simp)) Tryd.underlying26 rfl (by rw [List.length_map, he3]; exact Tryd.size_dig) ?_
  simp only [Act.put, List.setIfInBounds_toArray, List.set_cons_succ, List.set_cons_zero]
  refine wpQuiet_val rfl (.bool true) (fun w' hw' => run_eql 26 (.tmp 88) (.tmp 91) _ rfl (brow e3) (brow e3) rfl rfl w' true (by kernel_rfl) (hq3 w')) ?_
  simp only [Act.put, List.setIfInBounds_toArray, List.set_cons_succ, List.set_cons_zero]
  repeat (go_big_quiet_step (fail))
  refine wpQuiet_nil ?_
  intro w7 hw7
  have HK7 := hide ((unhide HL4).kept.trans hw7 (by simp))
  clear hw7
  go_wp2
  go_ret
  exact ⟨rfl, unhide HK7⟩
end Go.Proofs.YtajfaekfhohbmaaDoor
namespace Go.Proofs.YtajfaekfhohbmaaDoor
open Go.RowKit Go.BigFrame
set_option linter.unusedVariables false
set_option linter.unusedSimpArgs false

theorem sumD_dgT (z : Int) (p : List Nat) : Dg (sumD z p) := ⟨sumD_len _ _, by
  unfold sumD
  split
  · exact cutL_byte _ _ (hash_byte _)
  · intro x hx; simp at hx; omega⟩
theorem sumD_formT {z : Int} (hw : widthB z = true) (p : List Nat) : formB z (sumD z p) = true := by
  obtain ⟨h1, h2⟩ : 1 ≤ z ∧ z ≤ 32 := by simpa [widthB] using hw
  unfold formB sumD
  rw [hw]
  simp only [if_true, Bool.true_and]
  rw [cutL_cutL _ _ (by rw [hash_len]; omega)]
  simp
theorem all_snoc {α : Type} {p : α → Bool} {l : List α} {x : α} (h : l.all p = true) (hx : p x = true) : (l ++ [x]).all p = true := by
  rw [List.all_append, h]
  simp [hx]

set_option maxRecDepth 100000 in
set_option maxHeartbeats 1000000 in
theorem leaves_any (k : Nat) (lv : Value) (ls : List (List Nat)) (n : Nat) (w : World) (h1 : 1 ≤ k) (h2 : k ≤ 32) (hl : RdD w lv ls) (hn : n ≤ 300) (hT : Tabs w) :
    Calls Tryd.prog 26 #[.int .i64 (k : Int), lv, .int .i64 (n : Int)] w fun e w' => ∃ u, e = .returned u ∧ ∃ ds, OwD w w' u ds ∧ ds.length = n ∧ ds.all (formB (k : Int)) = true := by
  have HTB := hide hT
  have HL := hide hl
  have HDG := hide (fun d hd => hl.dg (d := d) hd)
  have hwb : widthB (k : Int) = true := by simp [widthB]; omega
  have HWB := hide hwb
  obtain ⟨la, ll, lc, rfl, l1, l2, l3, -⟩ := hl
  subst l1
  clear hT hwb
  go_enter Tryd.func26, Tryd.ntmps26
  go_wp2_with fail
  go_loopw [7, 8] (fun t7 t8 wr => ∃ (i : Nat) (ds : List (List Nat)), i ≤ n ∧ t8 = .int .i64 (i : Int) ∧ Hid (OwD w wr t7 ds) ∧ Hid (ds.length = i) ∧ Hid (ds.all (formB (k : Int)) = true)) (fun _ t _ => n - (intOf t).toNat)
  case atStart => exact ⟨0, [], Nat.zero_le _, rfl, hide (OwD.nil _), hide rfl, hide rfl⟩
  case round =>
    obtain ⟨i, ds, hi, rfl, HO, HLN, HF⟩ := hrel
    by_cases hlt : i < n
    · have hlt' : (i : Int) < (n : Int) := by omega
      obtain ⟨ua, ucap, rfl⟩ := owns_form (unhide HO).own
      by_cases hin : i < ls.length
      · have hin' : (i : Int) < (ls.length : Int) := by omega
        obtain ⟨b, o, rfl, hc⟩ := ((unhide HL).old (unhide HO).kept).range (by omega)
        have HC := hide (hc i hin)
        have HDi := hide (unhide HDG (ls.getD i []) (by rw [List.getD_eq_getElem?_getD, List.getElem?_eq_getElem hin]; exact List.getElem_mem hin))
        generalize ls.getD i [] = d at HC HDi
        have hdl := (unhide HDi).1
        have ia : ¬ (i : Int) < 0 := by omega
        have ib : ¬ (ls.length : Int) ≤ i := by omega
        have HCT := hide (tcut_any k d wr h1 h2 hdl (unhide HDi).2)
        have HDX := hide (cut_dg h2 (unhide HDi))
        have HFX := hide (cut_form h1 h2 (unhide HDi))
        generalize cutL k d = X at HCT HDX HFX
        have hxl := (unhide HDX).1
        clear hc
        go_wp2_with (refine wpList_load_mid rfl 26 _ rfl b (o + i * 32) rfl (d.map Go.Proofs.YtajfaekfhohbmaaDoor.u8) _ (unhide HC) Tryd.underlying26 rfl (by rw [List.length_map, hdl]; exact Tryd.size_dig) ?_)
        refine (unhide HCT).mono ?_
        rintro e wa ⟨rfl, ka⟩
        have HOB := hide ((unhide HO).pass ka)
        have HOC := hide ((unhide HOB).pass ((Kept.refl [] wa).alloc (.cells (brow X) 26)))
        have HNC := hide (heap_alloc_new wa (.cells (brow X) 26))
        clear ka HO
        rw [show (Value.agg (brow X)) = .agg (X.map Go.Proofs.YtajfaekfhohbmaaDoor.u8).toArray from rfl]
        go_wp2_with (first
          | (at_builtin; rw [zb32, one_digP X hxl]; refine wpList_appendD rfl _ _ rfl rfl (wa.alloc (.cells (brow X) 26)) w.heap.size (.slice ua ds.length ucap) ds [X] (some ⟨wa.heap.size, 0, none⟩) 1 1 (unhide HOC).own (RdD.oneP (unhide HNC) (unhide HDX)) (by have := unhide HLN; simp; omega) (unhide HOC).kept.size rfl rfl ?_; intro ao3 cap3 w3 HO3 HG3; have HO4 := hide ((unhide HOC).push (unhide HDX) (unhide HO3) (unhide HG3)); clear HO3 HG3))
        go_roundw
        case rel => exact ⟨i + 1, ds ++ [X], by omega, by simp, HO4, hide (by rw [List.length_append, unhide HLN]; rfl), hide (all_snoc (unhide HF) (unhide HFX))⟩
        case measure => simp [intOf]; omega
      · have hin' : ¬ (i : Int) < (ls.length : Int) := by omega
        have HRB := hide (rd_lit (bs := [i % 256, i / 256]) (heap_alloc_new wr (.cells #[.int .u8 ((i : Int) % 256), .int .u8 ((i : Int) / 256)] 5)) (by simp) (by intro x hx; simp at hx; omega) 2 rfl (by omega))
        have HOA := hide ((unhide HO).pass ((Kept.refl [] wr).alloc (.cells #[.int .u8 ((i : Int) % 256), .int .u8 ((i : Int) / 256)] 5)))
        have HLF := hide (leaf_all (k : Int) _ _ _ (by omega) (unhide HRB) (by simp) ((unhide HTB).kept (unhide HOA).kept (by simp) (by simp)))
        have HDX := hide (sumD_dgT (k : Int) (0 :: [i % 256, i / 256]))
        have HFX := hide (sumD_formT (unhide HWB) (0 :: [i % 256, i / 256]))
        generalize sumD (k : Int) (0 :: [i % 256, i / 256]) = X at HLF HDX HFX
        generalize sumE (k : Int) = E at HLF
        have hxl := (unhide HDX).1
        clear HRB HO
        go_wp2_with fail
        refine (unhide HLF).mono ?_
        rintro e wa ⟨rfl, ka⟩
        have HOB := hide (((unhide HOA).pass ka).pass (kept_old wa X))
        have HN := hide (cell_new wa X)
        clear ka HOA HLF
        obtain ⟨wb, hwb⟩ : ∃ wb, (wa.alloc (.cells (zb 32) 26)).setRow wa.heap.size (brow X) = wb := ⟨_, rfl⟩
        rw [hwb] at HOB HN
        have HWB2 := hide hwb
        have HOC := hide ((unhide HOB).pass ((Kept.refl [] wb).alloc (.cells (brow X) 26)))
        have HNC := hide (heap_alloc_new wb (.cells (brow X) 26))
        clear hwb
        go_wp2_with (first
          | (rw [zb32]; refine wpList_store_row rfl 26 (.tmp 9) _ rfl wa.heap.size (brow X) rfl rfl _ (zb 32) (heap_alloc_new _ _) (Tryd.szD hxl) (by rw [zb_size, brow_size, hxl]) (brow_one _) ?_; rw [unhide HWB2])
          | (refine wpList_load_mid rfl 26 _ rfl wa.heap.size 0 rfl (X.map Go.Proofs.YtajfaekfhohbmaaDoor.u8) _ (range_row (unhide HN)) Tryd.underlying26 rfl (by rw [List.length_map, hxl]; exact Tryd.size_dig) ?_)
          | (at_builtin; rw [zb32, one_digP X hxl]; refine wpList_appendD rfl _ _ rfl rfl (wb.alloc (.cells (brow X) 26)) w.heap.size (.slice ua ds.length ucap) ds [X] (some ⟨wb.heap.size, 0, none⟩) 1 1 (unhide HOC).own (RdD.oneP (unhide HNC) (unhide HDX)) (by have := unhide HLN; simp; omega) (unhide HOC).kept.size rfl rfl ?_; intro ao3 cap3 w3 HO3 HG3; have HO4 := hide ((unhide HOC).push (unhide HDX) (unhide HO3) (unhide HG3)); clear HO3 HG3))
        go_roundw
        case rel => exact ⟨i + 1, ds ++ [X], by omega, by simp, HO4, hide (by rw [List.length_append, unhide HLN]; rfl), hide (all_snoc (unhide HF) (unhide HFX))⟩
        case measure => simp [intOf]; omega
    · have hlt' : ¬ (i : Int) < (n : Int) := by omega
      have HE := hide (by have := unhide HLN; omega : ds.length = n)
      go_wp2_with fail
      go_ret
      exact ⟨_, rfl, ds, unhide HO, unhide HE, List.all_eq_true.1 (unhide HF)⟩
end Go.Proofs.YtajfaekfhohbmaaDoor
namespace Go.Proofs.YtajfaekfhohbmaaDoor
open Go.RowKit Go.BigFrame
set_option linter.unusedVariables false
set_option linter.unusedSimpArgs false

/-- How many nodes a level has. -/
def lvN (N h : Nat) : Nat := (N + 2 ^ h - 1) / 2 ^ h
theorem lt_lvN {N h b : Nat} : b < lvN N h ↔ b * 2 ^ h < N := by
  have hp : 1 ≤ 2 ^ h := Nat.one_le_two_pow
  unfold lvN
  have h1 : b < (N + 2 ^ h - 1) / 2 ^ h ↔ b + 1 ≤ (N + 2 ^ h - 1) / 2 ^ h := Iff.rfl
  rw [h1, Nat.le_div_iff_mul_le (by omega), Nat.add_mul, Nat.one_mul]
  omega
theorem lvN_up (N h : Nat) : lvN N (h + 1) = (lvN N h + 1) / 2 := by
  have key : ∀ j, j < lvN N (h + 1) ↔ j < (lvN N h + 1) / 2 := by
    intro j
    rw [lt_lvN, show j * 2 ^ (h + 1) = (2 * j) * 2 ^ h by rw [Nat.pow_succ, Nat.mul_comm (2 ^ h) 2, ← Nat.mul_assoc, Nat.mul_comm j 2], ← lt_lvN]
    omega
  rcases Nat.lt_trichotomy (lvN N (h + 1)) ((lvN N h + 1) / 2) with h1 | h1 | h1
  · have := (key _).2 h1; omega
  · exact h1
  · have := (key _).1 h1; omega
/-- A level of the tree. -/
def lvl (z : Int) (no : List Nat) (L : List (List Nat)) (h : Nat) : List (List Nat) := (List.range (lvN L.length h)).map fun j => rngD z no L (j * 2 ^ h) (min ((j + 1) * 2 ^ h) L.length)
theorem lvl_len (z : Int) (no : List Nat) (L : List (List Nat)) (h : Nat) : (lvl z no L h).length = lvN L.length h := by unfold lvl; rw [List.length_map, List.length_range]
theorem lvl_at {z : Int} {no : List Nat} {L : List (List Nat)} {h j : Nat} (hj : j * 2 ^ h < L.length) : (lvl z no L h)[j]? = some (rngD z no L (j * 2 ^ h) (min ((j + 1) * 2 ^ h) L.length)) := by
  unfold lvl
  rw [List.getElem?_map, List.getElem?_range (lt_lvN.2 hj)]; rfl
theorem lvl_getD {z : Int} {no : List Nat} {L : List (List Nat)} {h j : Nat} (hj : j * 2 ^ h < L.length) : (lvl z no L h).getD j [] = rngD z no L (j * 2 ^ h) (min ((j + 1) * 2 ^ h) L.length) := by
  rw [List.getD_eq_getElem?_getD, lvl_at hj]; rfl
theorem lvl_zero (z : Int) (no : List Nat) (L : List (List Nat)) : lvl z no L 0 = L := by
  apply List.ext_getElem?
  intro j
  by_cases hj : j < L.length
  · rw [lvl_at (by simpa using hj), List.getElem?_eq_getElem hj]
    have e : min ((j + 1) * 2 ^ 0) L.length = j + 1 := by rw [Nat.pow_zero, Nat.mul_one]; omega
    rw [e, Nat.pow_zero, Nat.mul_one]
    unfold rngD
    rw [Nat.add_sub_cancel_left, List.drop_eq_getElem_cons hj, List.take_succ_cons, List.take_zero, logT_one]
  · rw [List.getElem?_eq_none (by rw [lvl_len]; have := (lt_lvN (N := L.length) (h := 0) (b := j)).1; simp at this; omega), List.getElem?_eq_none (by omega)]
/-- The level above. -/
def upL (z : Int) : List (List Nat) → List (List Nat)
  | a :: b :: r => nodS z a b :: upL z r
  | [a] => [a]
  | [] => []
theorem upL_at (z : Int) : ∀ (ls : List (List Nat)) (j : Nat), (upL z ls)[j]? = if 2 * j + 1 < ls.length then some (nodS z (ls.getD (2 * j) []) (ls.getD (2 * j + 1) [])) else if 2 * j < ls.length then some (ls.getD (2 * j) []) else none
  | [], j => by simp [upL]
  | [a], 0 => by simp [upL]
  | [a], j + 1 => by simp [upL]
  | a :: b :: r, 0 => by simp [upL]
  | a :: b :: r, j + 1 => by
    have ih := upL_at z r j
    rw [upL, List.getElem?_cons_succ, ih]
    simp only [List.length_cons, show 2 * (j + 1) = 2 * j + 1 + 1 by omega, List.getD_cons_succ]
    simp only [Nat.add_lt_add_iff_right]
theorem upL_len (z : Int) : ∀ (ls : List (List Nat)), (upL z ls).length = (ls.length + 1) / 2
  | [] => rfl
  | [a] => by simp [upL]
  | a :: b :: r => by rw [upL, List.length_cons, upL_len z r]; simp; omega
theorem lvl_up (z : Int) (no : List Nat) (L : List (List Nat)) (h : Nat) : upL z (lvl z no L h) = lvl z no L (h + 1) := by
  apply List.ext_getElem?
  intro j
  have hp : 1 ≤ 2 ^ h := Nat.one_le_two_pow
  have hps : 2 ^ (h + 1) = 2 * 2 ^ h := by rw [Nat.pow_succ]; omega
  have ej : j * 2 ^ (h + 1) = 2 * j * 2 ^ h := by rw [hps, ← Nat.mul_assoc, Nat.mul_comm j 2]
  have ej1 : (j + 1) * 2 ^ (h + 1) = 2 * j * 2 ^ h + 2 * 2 ^ h := by rw [hps, Nat.add_mul, Nat.one_mul, ← Nat.mul_assoc, Nat.mul_comm j 2]
  have ek : (2 * j + 1) * 2 ^ h = 2 * j * 2 ^ h + 2 ^ h := by rw [Nat.add_mul, Nat.one_mul]
  have ek1 : (2 * j + 1 + 1) * 2 ^ h = 2 * j * 2 ^ h + 2 * 2 ^ h := by rw [Nat.add_assoc, Nat.add_mul]
  rw [upL_at, lvl_len]
  by_cases h1 : 2 * j + 1 < lvN L.length h
  · have h1' := lt_lvN.1 h1
    rw [if_pos h1, lvl_getD (lt_lvN.1 (by omega)), lvl_getD h1', lvl_at (by rw [ej]; rw [ek] at h1'; omega)]
    rw [ek] at h1'
    rw [ej, ej1, ek, ek1]
    generalize 2 * j * 2 ^ h = lo at h1' ⊢
    have hm : min (lo + 2 ^ h) L.length = lo + 2 ^ h := by omega
    obtain ⟨hi, hhi⟩ : ∃ hi, min (lo + 2 * 2 ^ h) L.length = hi := ⟨_, rfl⟩
    have hi1 : lo + 2 ^ h < hi := by omega
    have hi2 : hi ≤ lo + 2 * 2 ^ h := by omega
    have hi3 : hi ≤ L.length := by omega
    rw [hm, hhi]
    have hbel : belT (hi - lo) = 2 ^ h := by
      unfold belT
      congr 1
      rw [Nat.log2_eq_iff (by omega)]
      omega
    rw [rngD_cut (lo := lo) (hi := hi) (by omega) hi3, hbel]
    rfl
  · rw [if_neg h1]
    by_cases h2 : 2 * j < lvN L.length h
    · have h2' := lt_lvN.1 h2
      have h1' : ¬ (2 * j + 1) * 2 ^ h < L.length := fun hh => h1 (lt_lvN.2 hh)
      rw [if_pos h2, lvl_getD h2', lvl_at (by rw [ej]; exact h2'), ej, ej1, ek]
      rw [ek] at h1'
      congr 2
      omega
    · rw [if_neg h2, List.getElem?_eq_none (by rw [lvl_len, lvN_up]; omega)]
theorem rngD_take {z : Int} {no : List Nat} {L : List (List Nat)} {n lo hi : Nat} (h : hi ≤ n) : rngD z no (L.take n) lo hi = rngD z no L lo hi := by
  unfold rngD
  rw [List.drop_take, List.take_take, Nat.min_eq_left (by omega)]
theorem levs_stop {N i h : Nat} (hi : i < N) (hN : N ≤ 2 ^ h) : ∀ d, levs N i (h + d) = levs N i h
  | 0 => rfl
  | d + 1 => by
    rw [← Nat.add_assoc, levs_succ, levs_stop hi hN d]
    have hpp : 2 ^ h ≤ 2 ^ (h + d) := Nat.pow_le_pow_right (by omega) (by omega)
    have : broS N i (h + d) = none := by
      unfold broS broN
      rw [Nat.div_eq_of_lt (by omega), if_pos rfl, if_neg (by omega)]
    rw [this]; simp
/-- The proof that the reference answers. -/
theorem inD_levs {z : Int} {L : List (List Nat)} {i n : Nat} (hi : i < n) (hn : n ≤ L.length) (h64 : n < 18446744073709551616) : inD z L i n = (levs n i 64).map fun s => rngD z (noT z) (L.take n) s.1 s.2 := by
  unfold inD
  rw [if_neg (by omega), ← path_all hi (by omega)]
  unfold rgL
  apply List.map_congr_left
  intro s hs
  have h1 := pathF_in i 64 0 n s hs
  unfold rgD
  rw [if_neg (by omega), rngD_take h1.2.2]
end Go.Proofs.YtajfaekfhohbmaaDoor
namespace Go.Proofs.YtajfaekfhohbmaaDoor
open Go.RowKit Go.BigFrame
set_option linter.unusedVariables false
set_option linter.unusedSimpArgs false

theorem dnode_any (z : Int) (l m : List Nat) (w : World) (hw : widthB z = true) (hl : Dg l) (hm : Dg m) (hlf : formB z l = true) (hmf : formB z m = true) (hT : Tabs w) :
    Calls Tryd.prog 54 #[.int .i64 z, .agg (brow l), .agg (brow m)] w fun e w' => e = .returned (.tuple #[.agg (brow (nodS z l m)), .int .i64 0]) ∧ Kept [] w w' := by
  have hz : 1 ≤ z ∧ z ≤ 32 := by simpa [widthB] using hw
  have h := node_all z l m w (by omega) hl.1 hm.1 hl.2 hm.2 hT
  rw [formedE_two hw hlf hmf] at h
  have e1 : sunD 0 z (nodeB z l m) = nodS z l m := by unfold nodS sunD; rw [if_pos rfl]
  have e2 : sunE 0 z = 0 := by simp [sunE, sumE, hw]
  rw [e1, e2] at h
  exact h

theorem rngD_one {z : Int} {no : List Nat} {L : List (List Nat)} {lo : Nat} (h : lo < L.length) : rngD z no L lo (lo + 1) = L.getD lo [] := by
  unfold rngD
  rw [Nat.add_sub_cancel_left, List.drop_eq_getElem_cons h, List.take_succ_cons, List.take_zero, logT_one, List.getD_eq_getElem?_getD, List.getElem?_eq_getElem h]
  rfl

set_option maxRecDepth 100000 in
set_option maxHeartbeats 2000000 in
theorem halves_any (k : Nat) (t : Nat) (v : Value) (ps : List Pk) (lo hi : Nat) (w : World) (hT : TreeAt (k : Int) w t v ps) (hlh : lo < hi) (hhn : hi ≤ (leavesK ps).length) (hb : (leavesK ps).length < 32768) (hTb : Tabs w) (h6 : Tab6 w) :
    Calls Tryd.prog 29 #[.int .i64 (k : Int), .pointer (some ⟨t, 0, none⟩), .int .i64 (lo : Int), .int .i64 (hi : Int)] w fun e w' => e = .returned (.bool true) ∧ Kept [] w w' := by
  have HRG := hide (fun a b (hab : a < b) (hbl : b ≤ (leavesK ps).length) W (kk : Kept [] w W) => (by
    have h9 := rangeT_all (k : Int) t v ps a b W (hT.old kk) hb (hTb.kept kk (by simp) (by simp)) (h6.kept kk)
    rw [show rgD (k : Int) (leavesK ps) a b = rngD (k : Int) (noT (k : Int)) (leavesK ps) a b from if_neg (by omega), show rgE (leavesK ps) a b = 0 from if_neg (by omega)] at h9
    exact h9 : Calls Tryd.prog 31 #[.pointer (some ⟨t, 0, none⟩), .int .u64 (a : Int), .int .u64 (b : Int)] W fun e w' => e = .returned (.tuple #[.agg (brow (rngD (k : Int) (noT (k : Int)) (leavesK ps) a b)), .int .i64 0]) ∧ Kept [] W w'))
  have hdg : ∀ a b, Dg (rngD (k : Int) (noT (k : Int)) (leavesK ps) a b) ∧ formB (k : Int) (rngD (k : Int) (noT (k : Int)) (leavesK ps) a b) = true := fun a b => ⟨log_dg _ _ _ (noT_dg _) (fun d hd => (hT.pk.leaves d (List.mem_of_mem_drop (List.mem_of_mem_take hd))).1), log_form _ _ _ hT.wid (noT_form hT.wid) (fun d hd => (hT.pk.leaves d (List.mem_of_mem_drop (List.mem_of_mem_take hd))).2)⟩
  have HDG := hide hdg
  have hw1 : IntKind.u64.wrap (lo : Int) = (lo : Int) := by rw [wrM]; omega
  have hw2 : IntKind.u64.wrap (hi : Int) = (hi : Int) := by rw [wrM]; omega
  have hK0 := hide (Kept.refl [] w)
  have HR0 := hide (unhide HRG lo hi hlh hhn w (Kept.refl _ _))
  have hsub : IntKind.i64.wrap ((hi : Int) - (lo : Int)) = ((hi - lo : Nat) : Int) := by simp [IntKind.wrap, IntKind.signed, IntKind.bits]; omega
  by_cases hone : hi - lo = 1
  · have HLF := hide (fun W (kk : Kept [] w W) => (by
      have h9 := leafT_all (k : Int) t v ps lo W (hT.old kk) hb
      rw [show lfD (leavesK ps) lo = (leavesK ps).getD lo [] from if_neg (by omega), show lfE (leavesK ps) lo = 0 from if_neg (by omega)] at h9
      exact h9 : Calls Tryd.prog 33 #[.pointer (some ⟨t, 0, none⟩), .int .u64 (lo : Int)] W fun e w' => e = .returned (.tuple #[.agg (brow ((leavesK ps).getD lo [])), .int .i64 0]) ∧ Kept [] W w'))
    have hhi : hi = lo + 1 := by omega
    have e9 : rngD (k : Int) (noT (k : Int)) (leavesK ps) lo hi = (leavesK ps).getD lo [] := by rw [hhi]; exact rngD_one (by omega)
    have hdl := (hdg lo hi).1.1
    rw [← e9] at HLF
    generalize rngD (k : Int) (noT (k : Int)) (leavesK ps) lo hi = D at HLF HR0 hdl
    have hq := fun W => dig_eq W D D hdl hdl
    rw [decide_eq_true rfl] at hq
    rw [hone] at hsub
    clear e9 hhi hdg hT HRG HDG hb hTb h6
    go_enter Tryd.func29, Tryd.ntmps29
    go_wp2_with (first | simp only [hw1] | simp only [hw2])
    refine (unhide HR0).mono ?_
    rintro e wa1 ⟨rfl, ka⟩
    have HKa1 := hide ((unhide hK0).trans ka (by simp))
    clear ka
    have HN1 := hide (cell_new wa1 D)
    have HO1 := hide (kept_old wa1 D)
    have HKb1 := hide ((unhide HKa1).trans (unhide HO1) (by simp))
    obtain ⟨wb1, hwb⟩ : ∃ wb, (wa1.alloc (.cells (zb 32) 26)).setRow wa1.heap.size (brow D) = wb := ⟨_, rfl⟩
    rw [hwb] at HN1 HO1 HKb1
    have HW1 := hide hwb
    clear hwb
    go_wp2_with (first
      | (rw [zb32]; refine wpList_store_row rfl 26 (.tmp 9) _ rfl wa1.heap.size (brow D) rfl rfl _ (zb 32) (heap_alloc_new _ _) (Tryd.szD hdl) (by rw [zb_size, brow_size, hdl]) (brow_one _) ?_; rw [unhide HW1])
      | simp only [hw1]
      | simp only [hsub])
    refine (unhide HLF wb1 (unhide HKb1)).mono ?_
    rintro e wa2 ⟨rfl, ka⟩
    have HKa2 := hide ((unhide HKb1).trans ka (by simp))
    have HN1a2 := hide (ka.heap (unhide HN1) (by simp))
    clear ka
    have HN2 := hide (cell_new wa2 D)
    have HO2 := hide (kept_old wa2 D)
    have HKb2 := hide ((unhide HKa2).trans (unhide HO2) (by simp))
    have HN1b2 := hide ((unhide HO2).heap (unhide HN1a2) (by simp))
    obtain ⟨wb2, hwb⟩ : ∃ wb, (wa2.alloc (.cells (zb 32) 26)).setRow wa2.heap.size (brow D) = wb := ⟨_, rfl⟩
    rw [hwb] at HN2 HO2 HKb2 HN1b2
    have HW2 := hide hwb
    clear hwb
    go_wp2_with (first
      | (rw [zb32]; refine wpList_store_row rfl 26 (.tmp 11) _ rfl wa2.heap.size (brow D) rfl rfl _ (zb 32) (heap_alloc_new _ _) (Tryd.szD hdl) (by rw [zb_size, brow_size, hdl]) (brow_one _) ?_; rw [unhide HW2])
      | (refine wpList_load_rowG rfl 26 (.tmp 11) rfl wa2.heap.size rfl _ (brow D) (0, 0) _ (unhide HN2) Tryd.underlying26 rfl (Tryd.szD hdl) ?_)
      | (refine wpList_load_rowG rfl 26 (.tmp 9) rfl wa1.heap.size rfl _ (brow D) (0, 0) _ (unhide HN1b2) Tryd.underlying26 rfl (Tryd.szD hdl) ?_))
    go_ret
    exact ⟨rfl, unhide HKb2⟩
  · have hn2 : 2 ≤ hi - lo := by omega
    have hbl := belT_lt hn2
    have HCUT := hide (rngD_cut (z := (k : Int)) (no := noT (k : Int)) (L := leavesK ps) (lo := lo) (hi := hi) hn2 hhn)
    have HR1 := hide (fun W kk => unhide HRG lo (lo + belT (hi - lo)) (by omega) (by omega) W kk)
    have HR2 := hide (fun W kk => unhide HRG (lo + belT (hi - lo)) hi (by omega) (by omega) W kk)
    have d0 := (hdg lo hi).1
    have d1 := hdg lo (lo + belT (hi - lo))
    have d2 := hdg (lo + belT (hi - lo)) hi
    have HBE := hide (fun j (h : 2 ^ j ≤ hi - lo - 1) (h' : hi - lo - 1 < 2 ^ (j + 1)) => (by unfold belT; rw [(Nat.log2_eq_iff (by omega)).2 ⟨h, h'⟩] : belT (hi - lo) = 2 ^ j))
    have HND := hide (fun W (kk : Kept [] w W) => dnode_any (k : Int) _ _ W hT.wid d1.1 d2.1 d1.2 d2.2 (hTb.kept kk (by simp) (by simp)))
    rw [show nodS (k : Int) (rngD (k : Int) (noT (k : Int)) (leavesK ps) lo (lo + belT (hi - lo))) (rngD (k : Int) (noT (k : Int)) (leavesK ps) (lo + belT (hi - lo)) hi) = rngD (k : Int) (noT (k : Int)) (leavesK ps) lo hi from (unhide HCUT).symm] at HND
    generalize rngD (k : Int) (noT (k : Int)) (leavesK ps) lo hi = D at HR0 d0 HND
    generalize rngD (k : Int) (noT (k : Int)) (leavesK ps) lo (lo + belT (hi - lo)) = D1 at HR1 d1 HND
    generalize rngD (k : Int) (noT (k : Int)) (leavesK ps) (lo + belT (hi - lo)) hi = D2 at HR2 d2 HND
    generalize belT (hi - lo) = m at hbl HR1 HR2 HBE
    have hdl := d0.1
    have hdl1 := d1.1.1
    have hdl2 := d2.1.1
    have hq := fun W => dig_eq W D D hdl hdl
    rw [decide_eq_true rfl] at hq
    obtain ⟨n, hn⟩ : ∃ n, hi - lo = n := ⟨_, rfl⟩
    rw [hn] at hbl HBE hsub hone hn2
    have hone' : ¬ (n : Int) = 1 := by omega
    have hn3 : n ≤ 32768 := by omega
    have HLM := hide (by omega : lo + m < 32768)
    clear hdg hT HRG HDG hb hTb h6 HCUT d0 d1 d2
    have HHI := hide (by omega : hi = lo + n)
    clear hn
    go_enter Tryd.func29, Tryd.ntmps29
    go_wp2_with (first | simp only [hw1] | simp only [hw2])
    refine (unhide HR0).mono ?_
    rintro e wa1 ⟨rfl, ka⟩
    have HKa1 := hide ((unhide hK0).trans ka (by simp))
    clear ka
    have HN1 := hide (cell_new wa1 D)
    have HO1 := hide (kept_old wa1 D)
    have HKb1 := hide ((unhide HKa1).trans (unhide HO1) (by simp))
    obtain ⟨wb1, hwb⟩ : ∃ wb, (wa1.alloc (.cells (zb 32) 26)).setRow wa1.heap.size (brow D) = wb := ⟨_, rfl⟩
    rw [hwb] at HN1 HO1 HKb1
    have HW1 := hide hwb
    clear hwb
    go_wp2_with (first
      | (rw [zb32]; refine wpList_store_row rfl 26 (.tmp 9) _ rfl wa1.heap.size (brow D) rfl rfl _ (zb 32) (heap_alloc_new _ _) (Tryd.szD hdl) (by rw [zb_size, brow_size, hdl]) (brow_one _) ?_; rw [unhide HW1])
      | simp only [hsub])
    go_loopw [13] (fun t13 wr => ∃ (x : Nat), t13 = .int .i64 (x : Int) ∧ 1 ≤ x ∧ x < n ∧ Hid (∃ j, x = 2 ^ j) ∧ Hid (wr = wb1)) (fun t _ => n - (intOf t).toNat)
    case atStart => exact ⟨1, rfl, by omega, by omega, hide ⟨0, rfl⟩, hide rfl⟩
    case round =>
      obtain ⟨x, rfl, hx1, hx2, HJ, HWR⟩ := hrel
      have hmul : IntKind.i64.wrap (2 * (x : Int)) = 2 * (x : Int) := by simp [IntKind.wrap, IntKind.signed, IntKind.bits]; omega
      have hmul2 : IntKind.i64.wrap ((x : Int) * 2) = 2 * (x : Int) := by simp [IntKind.wrap, IntKind.signed, IntKind.bits]; omega
      by_cases hlt : 2 * x < n
      · have hlt' : 2 * (x : Int) < (n : Int) := by omega
        have HJ2 := hide (by obtain ⟨j, hj⟩ := unhide HJ; exact ⟨j + 1, by rw [Nat.pow_succ]; omega⟩ : ∃ j, 2 * x = 2 ^ j)
        go_wp2_with (first | simp only [hmul] | simp only [hmul2] | simp only [hsub])
        refine ⟨⟨2 * x, by simp, by omega, by omega, HJ2, HWR⟩, ?_⟩
        simp [intOf]
        omega
      · have hlt' : ¬ 2 * (x : Int) < (n : Int) := by omega
        have hxm : x = m := by
          obtain ⟨j, hj⟩ := unhide HJ
          have h9 := unhide HBE j (by omega) (by rw [Nat.pow_succ]; omega)
          omega
        subst hxm
        have hwr := unhide HWR
        subst hwr
        have hadd : IntKind.i64.wrap ((lo : Int) + (x : Int)) = ((lo + x : Nat) : Int) := by simp [IntKind.wrap, IntKind.signed, IntKind.bits]; have := unhide HLM; omega
        have hcv : IntKind.u64.wrap ((lo + x : Nat) : Int) = ((lo + x : Nat) : Int) := by rw [wrM]; have := unhide HLM; omega
        obtain ⟨md, hmd⟩ : ∃ md, lo + x = md := ⟨_, rfl⟩
        rw [hmd] at hadd hcv HR1 HR2
        clear hmd
        go_wp2_with (first | simp only [hmul] | simp only [hsub] | simp only [hadd] | simp only [hcv] | simp only [hw1] | simp only [hw2])
        refine (unhide HR1 wr (unhide HKb1)).mono ?_
        rintro e wa2 ⟨rfl, ka⟩
        have HKa2 := hide ((unhide HKb1).trans ka (by simp))
        have HN1a2 := hide (ka.heap (unhide HN1) (by simp))
        clear ka
        have HN2 := hide (cell_new wa2 D1)
        have HO2 := hide (kept_old wa2 D1)
        have HKb2 := hide ((unhide HKa2).trans (unhide HO2) (by simp))
        have HN1b2 := hide ((unhide HO2).heap (unhide HN1a2) (by simp))
        obtain ⟨wb2, hwb⟩ : ∃ wb, (wa2.alloc (.cells (zb 32) 26)).setRow wa2.heap.size (brow D1) = wb := ⟨_, rfl⟩
        rw [hwb] at HN2 HO2 HKb2 HN1b2
        have HW2 := hide hwb
        clear hwb
        go_wp2_with (first
          | (rw [zb32]; refine wpList_store_row rfl 26 (.tmp 14) _ rfl wa2.heap.size (brow D1) rfl rfl _ (zb 32) (heap_alloc_new _ _) (Tryd.szD hdl1) (by rw [zb_size, brow_size, hdl1]) (brow_one _) ?_; rw [unhide HW2])
          | simp only [hadd] | simp only [hcv] | simp only [hw1] | simp only [hw2])
        refine (unhide HR2 wb2 (unhide HKb2)).mono ?_
        rintro e wa3 ⟨rfl, ka⟩
        have HKa3 := hide ((unhide HKb2).trans ka (by simp))
        have HN1b2a3 := hide (ka.heap (unhide HN1b2) (by simp))
        have HN2a3 := hide (ka.heap (unhide HN2) (by simp))
        clear ka
        have HN3 := hide (cell_new wa3 D2)
        have HO3 := hide (kept_old wa3 D2)
        have HKb3 := hide ((unhide HKa3).trans (unhide HO3) (by simp))
        have HN1b2b3 := hide ((unhide HO3).heap (unhide HN1b2a3) (by simp))
        have HN2b3 := hide ((unhide HO3).heap (unhide HN2a3) (by simp))
        obtain ⟨wb3, hwb⟩ : ∃ wb, (wa3.alloc (.cells (zb 32) 26)).setRow wa3.heap.size (brow D2) = wb := ⟨_, rfl⟩
        rw [hwb] at HN3 HO3 HKb3 HN1b2b3 HN2b3
        have HW3 := hide hwb
        clear hwb
        go_wp2_with (first
          | (rw [zb32]; refine wpList_store_row rfl 26 (.tmp 16) _ rfl wa3.heap.size (brow D2) rfl rfl _ (zb 32) (heap_alloc_new _ _) (Tryd.szD hdl2) (by rw [zb_size, brow_size, hdl2]) (brow_one _) ?_; rw [unhide HW3])
          | (refine wpList_load_row rfl 26 (.tmp 14) rfl wa2.heap.size rfl _ (brow D1) (0, 0) _ (unhide HN2b3) Tryd.underlying26 rfl (Tryd.szD hdl1) ?_)
          | (refine wpList_load_row rfl 26 (.tmp 16) rfl wa3.heap.size rfl _ (brow D2) (0, 0) _ (unhide HN3) Tryd.underlying26 rfl (Tryd.szD hdl2) ?_))
        refine (unhide HND wb3 (unhide HKb3)).mono ?_
        rintro e wa4 ⟨rfl, ka⟩
        have HKa4 := hide ((unhide HKb3).trans ka (by simp))
        have HN1b2b3a4 := hide (ka.heap (unhide HN1b2b3) (by simp))
        clear ka
        have HN4 := hide (cell_new wa4 D)
        have HO4 := hide (kept_old wa4 D)
        have HKb4 := hide ((unhide HKa4).trans (unhide HO4) (by simp))
        have HN1b2b3b4 := hide ((unhide HO4).heap (unhide HN1b2b3a4) (by simp))
        obtain ⟨wb4, hwb⟩ : ∃ wb, (wa4.alloc (.cells (zb 32) 26)).setRow wa4.heap.size (brow D) = wb := ⟨_, rfl⟩
        rw [hwb] at HN4 HO4 HKb4 HN1b2b3b4
        have HW4 := hide hwb
        clear hwb
        go_wp2_with (first
          | (rw [zb32]; refine wpList_store_row rfl 26 (.tmp 18) _ rfl wa4.heap.size (brow D) rfl rfl _ (zb 32) (heap_alloc_new _ _) (Tryd.szD hdl) (by rw [zb_size, brow_size, hdl]) (brow_one _) ?_; rw [unhide HW4])
          | (refine wpList_load_rowG rfl 26 (.tmp 18) rfl wa4.heap.size rfl _ (brow D) (0, 0) _ (unhide HN4) Tryd.underlying26 rfl (Tryd.szD hdl) ?_)
          | (refine wpList_load_rowG rfl 26 (.tmp 9) rfl wa1.heap.size rfl _ (brow D) (0, 0) _ (unhide HN1b2b3b4) Tryd.underlying26 rfl (Tryd.szD hdl) ?_))
        go_ret
        exact ⟨rfl, unhide HKb4⟩
end Go.Proofs.YtajfaekfhohbmaaDoor
namespace Go.Proofs.YtajfaekfhohbmaaDoor
open Go.RowKit Go.BigFrame
set_option linter.unusedVariables false
set_option linter.unusedSimpArgs false

theorem pathF_ne {i c lo hi : Nat} (h : 2 ≤ hi - lo) (hc : hi - lo ≤ 2 ^ c) : pathF i c lo hi ≠ [] := by
  cases c with
  | zero => simp at hc; omega
  | succ c =>
    by_cases hi' : i < lo + belT (hi - lo)
    · rw [pathF_l (by omega) hi']; simp
    · rw [pathF_r (by omega) hi']; simp
theorem smL_nil {m n : Nat} (hm : m ≤ n) : smL m n = [] ↔ (m = 0 ∨ m = n) := by
  unfold smL
  by_cases h : m = 0 ∨ m = n
  · rw [if_pos h]; simp [h]
  · rw [if_neg h]
    have hne : ¬ m = n := fun e => h (Or.inr e)
    have : seamF m 64 0 n true ≠ [] := by
      by_cases h2 : m ≤ 0 + belT (n - 0)
      · rw [seamF_l hne h2]; simp
      · rw [seamF_r hne h2]; simp
    simp [this, h]
theorem rgL_len (z : Int) (L : List (List Nat)) (ss : List (Nat × Nat)) : (rgL z L ss).length = ss.length := by unfold rgL; rw [List.length_map]
theorem rgL_app (z : Int) (L : List (List Nat)) (a b : List (Nat × Nat)) : rgL z L (a ++ b) = rgL z L a ++ rgL z L b := by unfold rgL; rw [List.map_append]

set_option maxRecDepth 100000 in
set_option maxHeartbeats 4000000 in
theorem wholeCounts_go (n8 : Nat) (n i m : Nat) (w : World) (h8 : n8 < 256) (hn : n < 65536) (hi0 : i < 65536) (hm0 : m < 65536) (hT : Tabs w) (h6 : Tab6 w) :
    Calls Tryd.prog 8 #[.int .u8 (n8 : Int), .int .u16 (n : Int), .int .u16 (i : Int), .int .u16 (m : Int)] w fun e w' => e = .returned (.bool true) ∧ Kept [] w w' := by
  have HTB := hide hT
  have H6 := hide h6
  clear hT h6
  obtain ⟨k, hk⟩ : ∃ k, 1 + n8 % 32 = k := ⟨_, rfl⟩
  have HWI := hide (twidth_any n8 w h8)
  rw [hk] at HWI
  have hk1 : 1 ≤ k := by omega
  have hk2 : k ≤ 32 := by omega
  have HWD := hide (by simp [widthB]; omega : widthB (k : Int) = true)
  clear hk
  obtain ⟨S, hS⟩ : ∃ S, 1 + n % 300 = S := ⟨_, rfl⟩
  have hcn : IntKind.i64.wrap (n : Int) = (n : Int) := by simp [IntKind.wrap, IntKind.signed, IntKind.bits]; omega
  have hci : IntKind.i64.wrap (i : Int) = (i : Int) := by simp [IntKind.wrap, IntKind.signed, IntKind.bits]; omega
  have hcm : IntKind.i64.wrap (m : Int) = (m : Int) := by simp [IntKind.wrap, IntKind.signed, IntKind.bits]; omega
  have hS1 : 1 ≤ S := by omega
  have hS2 : S ≤ 300 := by omega
  have hSe : 1 + (n : Int) % 300 = (S : Int) := by omega
  have hSe2 : 1 + (n : Int).tmod 300 = (S : Int) := by rw [Int.tmod_eq_emod_of_nonneg (by omega)]; omega
  clear hS
  obtain ⟨at', hat⟩ : ∃ a, i % S = a := ⟨_, rfl⟩
  have at1 : at' < S := by rw [← hat]; exact Nat.mod_lt i (by omega)
  have ate : (i : Int) % (S : Int) = (at' : Int) := by rw [← hat]; simp
  have ate2 : (i : Int).tmod (S : Int) = (at' : Int) := by rw [Int.tmod_eq_emod_of_nonneg (by omega)]; exact ate
  clear hat
  obtain ⟨old, hold⟩ : ∃ a, m % (S + 1) = a := ⟨_, rfl⟩
  have old1 : old ≤ S := by have := Nat.mod_lt m (show 0 < S + 1 by omega); omega
  have olde : (m : Int) % ((S : Int) + 1) = (old : Int) := by rw [← hold]; simp
  have olde2 : (m : Int).tmod ((S : Int) + 1) = (old : Int) := by rw [Int.tmod_eq_emod_of_nonneg (by omega)]; exact olde
  clear hold
  have hne0 : ¬ (S : Int) = 0 := by omega
  have hne1 : ¬ (S : Int) + 1 = 0 := by omega
  have hcS : IntKind.u64.wrap (S : Int) = (S : Int) := by rw [wrM]; omega
  have hca : IntKind.u64.wrap (at' : Int) = (at' : Int) := by rw [wrM]; omega
  have hco : IntKind.u64.wrap (old : Int) = (old : Int) := by rw [wrM]; omega
  have hS11 : IntKind.u64.wrap ((S : Int) + 1) = ((S + 1 : Nat) : Int) := by rw [wrM]; omega
  go_enter Tryd.func8, Tryd.ntmps8
  go_wp2_with fail
  refine (unhide HWI).mono ?_
  rintro e w0 ⟨rfl, rfl⟩
  go_wp2_with (first | simp only [hcn] | simp only [hSe] | simp only [hSe2])
  refine (newT_any (k : Int) w0 (unhide HWD)).mono ?_
  rintro e w1 ⟨t0, rfl, _, tr1, k1⟩
  have HT1 := hide tr1
  have HK1 := hide k1
  clear tr1 k1
  go_wp2_with fail
  refine (leaves_any k (.slice none 0 0) [] S w1 hk1 hk2 RdD_nil hS2 ((unhide HTB).kept (unhide HK1) (by simp) (by simp))).mono ?_
  rintro e w2 ⟨u, rfl, ds, o2, hds, hall⟩
  have HO2 := hide (o2.back (unhide HK1))
  have HT2 := hide ((unhide HT1).old o2.kept)
  have HDS := hide hds
  have HALL := hide hall
  clear o2 hds hall HT1
  go_wp2_with fail
  refine (appendT_any (k : Int) t0 (.slice none 0 0) u [] ds w2 (unhide HT2) (fun _ => rfl) (unhide HO2).rd (by rw [unhide HDS]; simp [leavesK]; omega) ((unhide HTB).kept (unhide HO2).kept (by simp) (by simp)) ((unhide H6).kept (unhide HO2).kept)).mono ?_
  rintro e w3 ⟨hg, _, k3⟩
  obtain ⟨t, v, qs, rfl, _, tr3, lv3, _⟩ := hg (unhide HALL)
  have HT3 := hide tr3
  have HL3 := hide (by rw [lv3]; simp [leavesK] : leavesK qs = ds)
  have HK3 := hide ((unhide HO2).kept.trans k3 (by simp))
  clear hg tr3 lv3 k3 HO2 HT2
  have HB := hide (by rw [unhide HL3, unhide HDS]; omega : (leavesK qs).length < 32768)
  have HTK := hide (fun W (kk : Kept [] w3 W) => (unhide HTB).kept ((unhide HK3).trans kk (by simp)) (by simp) (by simp))
  have H6K := hide (fun W (kk : Kept [] w3 W) => (unhide H6).kept ((unhide HK3).trans kk (by simp)))
  have HIN := hide (fun a b (hb : b < 18446744073709551616) W (kk : Kept [] w3 W) => mincl_any (k : Int) t v qs a b W ((unhide HT3).old kk) (unhide HB) (unhide HTK W kk) (unhide H6K W kk) hb)
  have HCN := hide (fun a b (hb : b < 18446744073709551616) W (kk : Kept [] w3 W) => mcons_any (k : Int) t v qs a b W ((unhide HT3).old kk) (unhide HB) (unhide HTK W kk) (unhide H6K W kk) hb)
  have HRG := hide (fun a b W (kk : Kept [] w3 W) => rangeT_all (k : Int) t v qs a b W ((unhide HT3).old kk) (unhide HB) (unhide HTK W kk) (unhide H6K W kk))
  have HRL := hide (fun a b => rgD_len (unhide HT3).pk a b)
  rw [unhide HL3] at HIN HCN HRG HRL
  have A1 := hide (unhide HIN at' S (by omega))
  have A2 := hide (unhide HCN old S (by omega))
  have A3 := hide (unhide HIN S S (by omega))
  have A4 := hide (unhide HCN (S + 1) S (by omega))
  have A5 := hide (unhide HIN 0 (S + 1) (by omega))
  rw [show inE ds at' S = 0 from if_neg (by rw [unhide HDS]; omega), show inD (k : Int) ds at' S = rgL (k : Int) ds (pathF at' 64 0 S) from if_neg (by rw [unhide HDS]; omega)] at A1
  rw [show csE ds old S = 0 from if_neg (by rw [unhide HDS]; omega), show csD (k : Int) ds old S = rgL (k : Int) ds (smL old S) from if_neg (by rw [unhide HDS]; omega)] at A2
  rw [show inE ds S S = 4 from if_pos (Or.inl (Nat.le_refl _))] at A3
  rw [show csE ds (S + 1) S = 4 from if_pos (Or.inl (by omega))] at A4
  rw [show inE ds 0 (S + 1) = 4 from if_pos (Or.inr (by rw [unhide HDS]; omega))] at A5
  have HCO := hide (fun W => counts_any at' old S W (by omega) (by omega) (by omega))
  rw [show cntA at' old S = ((pathF at' 64 0 S).length : Int) from if_neg (by omega), show cntB at' old S = ((smL old S).length : Int) from if_neg (by omega), show cntE at' old S = 0 from if_neg (by omega)] at HCO
  have HPN := hide (fun (h : 1 < S) => pathF_ne (i := at') (c := 64) (lo := 0) (hi := S) (by omega) (by omega))
  have HSN := hide (smL_nil old1)
  have HPATH : Hid (∃ c, at' < S ∧ S ≤ 2 ^ c ∧ pathF at' 64 0 S = pathF at' c 0 S) := hide ⟨64, at1, by omega, rfl⟩
  have hPl := pathF_len at' 64 0 S
  have hQl := smL_le old S
  obtain ⟨ps, hps⟩ : ∃ ps, pathF at' 64 0 S = ps := ⟨_, rfl⟩
  rw [hps] at A1 HCO HPN hPl
  have HPS := hide hps
  clear hps HPATH
  obtain ⟨qq, hqq⟩ : ∃ qq, smL old S = qq := ⟨_, rfl⟩
  rw [hqq] at A2 HCO HSN hQl
  clear hqq HIN HCN HTB H6
  have RL1 := rgL_len (k : Int) ds ps
  have RL2 := rgL_len (k : Int) ds qq
  obtain ⟨P, hP⟩ : ∃ P, rgL (k : Int) ds ps = P := ⟨_, rfl⟩
  obtain ⟨Q, hQ⟩ : ∃ Q, rgL (k : Int) ds qq = Q := ⟨_, rfl⟩
  rw [hP] at A1 RL1
  rw [hQ] at A2 RL2
  have HP := hide hP
  rw [← RL1] at HCO hPl
  rw [← RL2] at HCO hQl
  have HQN := hide (by rw [← List.length_eq_zero_iff, RL2, List.length_eq_zero_iff]; exact unhide HSN : Q = [] ↔ (old = 0 ∨ old = S))
  have HPN2 := hide (fun (h : 1 < S) => (fun e => unhide HPN h (List.length_eq_zero_iff.1 (by rw [← RL1, e]; rfl)) : P ≠ []))
  clear hP hQ RL1 RL2 HSN HPN
  go_wp2_with (first | simp only [hci] | simp only [ate] | simp only [ate2] | simp only [hca] | simp only [hcm] | simp only [olde] | simp only [olde2] | simp only [hco] | simp only [hcS])
  refine (unhide A1 w3 (Kept.refl _ _)).mono ?_
  rintro e w4 ⟨p, rfl, o4⟩
  have HP4 := hide o4
  have HK4 := hide o4.kept
  obtain ⟨pa, pc, rfl⟩ := o4.form
  clear o4
  go_wp2_with (first | simp only [hcS])
  refine (unhide A2 w4 (unhide HK4)).mono ?_
  rintro e w5 ⟨q, rfl, o5⟩
  have HP5 := hide ((unhide HP4).pass o5.kept)
  have HK5 := hide ((unhide HK4).trans o5.kept (by simp))
  obtain ⟨qa, qc, rfl⟩ := o5.form
  clear o5 HP4 HK4
  go_wp2_with (first | simp only [hcS])
  refine (unhide HCO w5).mono ?_
  rintro e w6 ⟨rfl, k6⟩
  have HP6 := hide ((unhide HP5).pass k6)
  have HK6 := hide ((unhide HK5).trans k6 (by simp))
  clear k6 HP5 HK5
  go_wp2_with (first | simp only [hcS])
  refine (unhide A3 w6 (unhide HK6)).mono ?_
  rintro e w7 ⟨x7, rfl, o7⟩
  have HP7 := hide ((unhide HP6).pass o7.kept)
  have HK7 := hide ((unhide HK6).trans o7.kept (by simp))
  clear o7 HP6 HK6
  go_wp2_with (first | simp only [hcS] | simp only [hS11])
  refine (unhide A4 w7 (unhide HK7)).mono ?_
  rintro e w8 ⟨x8, rfl, o8⟩
  have HP8 := hide ((unhide HP7).pass o8.kept)
  have HK8 := hide ((unhide HK7).trans o8.kept (by simp))
  clear o8 HP7 HK7
  go_wp2_with (first | simp only [hcS] | simp only [hS11])
  refine (unhide A5 w8 (unhide HK8)).mono ?_
  rintro e w9 ⟨x9, rfl, o9⟩
  have HP9 := hide ((unhide HP8).pass o9.kept)
  have HK9 := hide ((unhide HK8).trans o9.kept (by simp))
  clear o9 HP8 HK8 A1 A2 A3 A4 A5 HCO
  have hpl0 : 1 < S → ¬ (P.length : Int) = 0 := fun h h9 => unhide HPN2 h (List.length_eq_zero_iff.1 (by omega))
  have hql : (old = 0 ∨ old = S) ↔ (Q.length : Int) = 0 := by rw [← unhide HQN, ← List.length_eq_zero_iff]; omega
  have b1 : ((old : Int) == 0) = decide (old = 0) := by rw [Bool.eq_iff_iff]; simp only [beq_iff_eq, decide_eq_true_eq]; omega
  have b2 : ((old : Int) == (S : Int)) = decide (old = S) := by rw [Bool.eq_iff_iff]; simp only [beq_iff_eq, decide_eq_true_eq]; omega
  have b3 : ((Q.length : Int) == 0) = decide (old = 0 ∨ old = S) := by rw [Bool.eq_iff_iff]; simp only [beq_iff_eq, decide_eq_true_eq]; exact hql.symm
  have b4 : 1 < S → ((P.length : Int) == 0) = false := fun h => by have := hpl0 h; simpa using this
  rcases (by omega : (S = 1 ∧ old = 0) ∨ (S = 1 ∧ old = S) ∨ (1 < S ∧ old = 0) ∨ (1 < S ∧ old = S) ∨ (1 < S ∧ ¬ old = 0 ∧ ¬ old = S)) with ⟨hs, ho⟩ | ⟨hs, ho⟩ | ⟨hs, ho⟩ | ⟨hs, ho⟩ | ⟨hs, ho, ho2⟩
  case' inl =>
    have hs' : ¬ (1 : Int) < (S : Int) := by omega
    rw [decide_eq_true ho] at b1
    rw [decide_eq_false (by omega)] at b2
    rw [decide_eq_true (Or.inl ho)] at b3
    clear hpl0 hql ho hs
    go_wp2_with (first | simp only [hcS] | simp only [b1, b2, b3, Bool.or_self, Bool.or_true, Bool.true_or, bne_self_eq_false])
  case' inr.inl =>
    have hs' : ¬ (1 : Int) < (S : Int) := by omega
    rw [decide_eq_false (by omega)] at b1
    rw [decide_eq_true ho] at b2
    rw [decide_eq_true (Or.inr ho)] at b3
    clear hpl0 hql ho hs
    go_wp2_with (first | simp only [hcS] | simp only [b1, b2, b3, Bool.or_self, Bool.or_true, Bool.true_or, bne_self_eq_false])
  case' inr.inr.inl =>
    have hs' : (1 : Int) < (S : Int) := by omega
    have b4 := b4 hs
    rw [decide_eq_true ho] at b1
    rw [decide_eq_false (by omega)] at b2
    rw [decide_eq_true (Or.inl ho)] at b3
    clear hpl0 hql ho
    go_wp2_with (first | simp only [hcS] | simp only [b1, b2, b3, Bool.or_self, Bool.or_true, Bool.true_or, bne_self_eq_false, b4])
  case' inr.inr.inr.inl =>
    have hs' : (1 : Int) < (S : Int) := by omega
    have b4 := b4 hs
    rw [decide_eq_false (by omega)] at b1
    rw [decide_eq_true ho] at b2
    rw [decide_eq_true (Or.inr ho)] at b3
    clear hpl0 hql ho
    go_wp2_with (first | simp only [hcS] | simp only [b1, b2, b3, Bool.or_self, Bool.or_true, Bool.true_or, bne_self_eq_false, b4])
  case' inr.inr.inr.inr =>
    have hs' : (1 : Int) < (S : Int) := by omega
    have b4 := b4 hs
    rw [decide_eq_false ho] at b1
    rw [decide_eq_false ho2] at b2
    rw [decide_eq_false (by omega)] at b3
    clear hpl0 hql ho ho2
    go_wp2_with (first | simp only [hcS] | simp only [b1, b2, b3, Bool.or_self, Bool.or_true, Bool.true_or, bne_self_eq_false, b4])
  all_goals
    clear b1 b2 b3 b4
    have HS9 := hide hs'
    clear hs'
    go_loopw [14, 30, 31, 32] (fun t14 t30 t31 t32 wr => ∃ (lo hi j c : Nat), t14 = .int .i64 0 ∧ t30 = .int .u64 (lo : Int) ∧ t31 = .int .u64 (hi : Int) ∧ t32 = .int .i64 ((j : Int) - 1) ∧ lo ≤ at' ∧ at' < hi ∧ hi ≤ S ∧ j ≤ P.length ∧ Hid (hi - lo ≤ 2 ^ c) ∧ Hid (P.take j = rgL (k : Int) ds (pathF at' c lo hi)) ∧ Hid (Kept [] w9 wr)) (fun _ _ _ t _ => (intOf t + 1).toNat)
    case atStart => exact ⟨0, S, P.length, 64, rfl, rfl, rfl, rfl, by omega, at1, Nat.le_refl _, Nat.le_refl _, hide (by omega), hide (by rw [List.take_length, ← unhide HP, unhide HPS]), hide (Kept.refl _ _)⟩
    case round =>
      obtain ⟨lo, hi, j, c, rfl, rfl, rfl, rfl, hlo, hhi, hhS, hjP, HC2, HPT, HKR⟩ := hrel
      have hsub : IntKind.u64.wrap ((hi : Int) - (lo : Int)) = ((hi - lo : Nat) : Int) := by rw [wrM]; omega
      obtain ⟨n9, hn9⟩ : ∃ n9, hi - lo = n9 := ⟨_, rfl⟩
      rw [hn9] at hsub
      have HN9 := hide hn9
      have hn1 : 1 ≤ n9 := by omega
      have hn2 : n9 ≤ 300 := by omega
      clear hn9
      cases j with
      | zero =>
        have hone : n9 = 1 := by
          rcases (by omega : n9 = 1 ∨ 2 ≤ n9) with h9 | h9
          · exact h9
          · exfalso
            have h8 := pathF_ne (i := at') (c := c) (lo := lo) (hi := hi) (by have := unhide HN9; omega) (unhide HC2)
            have h7 := unhide HPT
            rw [List.take_zero] at h7
            have h6 := congrArg List.length h7
            rw [rgL_len] at h6
            exact h8 (List.length_eq_zero_iff.1 h6.symm)
        rw [hone] at hsub
        clear hone
        go_wp2_with (first | simp only [hsub])
        go_ret
        exact ⟨rfl, (unhide HK3).trans ((unhide HK9).trans (unhide HKR) (by simp)) (by simp)⟩
      | succ j =>
        have hjc : (((j + 1 : Nat) : Int) - 1) = (j : Int) := by omega
        rw [hjc]
        have hjl : j < P.length := by omega
        have hge : 2 ≤ n9 := by
          rcases (by omega : n9 = 1 ∨ 2 ≤ n9) with h9 | h9
          · exfalso
            have h7 := unhide HPT
            rw [pathF_one at' c (by have := unhide HN9; omega)] at h7
            have h6 := congrArg List.length h7
            rw [List.length_take, rgL_len, List.length_nil] at h6
            omega
          · exact h9
        have hjn : ¬ (j : Int) < 0 := by omega
        have HBE := hide (fun x (h : 2 ^ x ≤ n9 - 1) (h' : n9 - 1 < 2 ^ (x + 1)) => (by unfold belT; rw [(Nat.log2_eq_iff (by omega)).2 ⟨h, h'⟩] : belT n9 = 2 ^ x))
        have hblt := belT_lt hge
        obtain ⟨bm, hbm⟩ : ∃ bm, belT n9 = bm := ⟨_, rfl⟩
        rw [hbm] at HBE hblt
        cases c with
        | zero => exfalso; have := unhide HC2; have := unhide HN9; omega
        | succ c =>
          have hbh := belT_half (n := n9) (c := c) hge (by rw [← unhide HN9]; exact unhide HC2)
          rw [hbm] at hbh
          have HBM := hide hbm
          have HBH := hide hbh
          have hjx : P.take (j + 1) = P.take j ++ [P.getD j []] := by rw [List.take_add_one, List.getElem?_eq_getElem hjl, List.getD_eq_getElem?_getD, List.getElem?_eq_getElem hjl]; rfl
          have HJX := hide hjx
          obtain ⟨pb, po, hpa, prd⟩ := ((unhide HP9).rd.old (unhide HKR)).range (by omega)
          subst hpa
          have HPR := hide (prd j hjl)
          have HPD := hide ((unhide HP9).dg (P.getD j []) (by rw [List.getD_eq_getElem?_getD, List.getElem?_eq_getElem hjl]; exact List.getElem_mem hjl))
          obtain ⟨wx, hwx⟩ : ∃ wx, wx = wr := ⟨_, rfl⟩
          subst hwx
          clear hbm hbh hjx prd hjc
          go_wp2_with fail
          go_loopw [33] (fun t33 wq => ∃ (x : Nat), t33 = .int .u64 (x : Int) ∧ 1 ≤ x ∧ x < n9 ∧ Hid (∃ y, x = 2 ^ y) ∧ Hid (wq = wx)) (fun t _ => n9 - (intOf t).toNat)
          case atStart => exact ⟨1, rfl, by omega, by omega, hide ⟨0, rfl⟩, hide rfl⟩
          case round =>
            obtain ⟨x, rfl, hx1, hx2, HJ, HWR⟩ := hrel
            have hmul : IntKind.u64.wrap (2 * (x : Int)) = 2 * (x : Int) := by rw [wrM]; omega
            have hmul2 : IntKind.u64.wrap ((x : Int) * 2) = 2 * (x : Int) := by rw [wrM]; omega
            by_cases hlt : 2 * x < n9
            · have hlt' : 2 * (x : Int) < (n9 : Int) := by omega
              have HJ2 := hide (by obtain ⟨y, hy⟩ := unhide HJ; exact ⟨y + 1, by rw [Nat.pow_succ]; omega⟩ : ∃ y, 2 * x = 2 ^ y)
              go_wp2_with (first | simp only [hmul] | simp only [hmul2] | simp only [hsub])
              go_roundw
              case rel => exact ⟨2 * x, by simp, by omega, by omega, HJ2, HWR⟩
              case measure => simp [intOf]; omega
            · have hlt' : ¬ 2 * (x : Int) < (n9 : Int) := by omega
              have hxm : x = bm := by
                obtain ⟨y, hy⟩ := unhide HJ
                have h9 := unhide HBE y (by omega) (by rw [Nat.pow_succ]; omega)
                omega
              subst hxm
              have hwr := unhide HWR
              subst hwr
              have hadd : IntKind.u64.wrap ((lo : Int) + (x : Int)) = ((lo + x : Nat) : Int) := by rw [wrM]; have := unhide HN9; omega
              have HMD := hide (by rw [unhide HBM] : lo + belT n9 = lo + x)
              obtain ⟨md, hmd⟩ : ∃ md, lo + x = md := ⟨_, rfl⟩
              rw [hmd] at hadd HMD
              have hmd1 : lo < md ∧ md < hi := by have := unhide HN9; omega
              have HMH := hide (by have := unhide HBH; have := unhide HN9; omega : md - lo ≤ 2 ^ c ∧ hi - md ≤ 2 ^ c)
              clear hmd
              have HZ := hide (heap_alloc_new wr (.cells (zb 32) 26))
              have HKZ := hide ((Kept.refl [] wr).alloc (.cells (zb 32) 26))
              by_cases hside : at' < md
              · have hcmp : (at' : Int) < (md : Int) := by omega
                have HSPL := hide (by
                  have h1 := pathF_l (i := at') (c := c) (lo := lo) (hi := hi) (by have := unhide HN9; omega) (by rw [unhide HN9, unhide HMD]; exact hside)
                  rw [unhide HN9, unhide HMD] at h1
                  have h2 := unhide HPT
                  rw [h1, rgL_app, unhide HJX] at h2
                  have h3 := List.append_inj' h2 rfl
                  refine ⟨h3.1, ?_⟩
                  have h4 := h3.2
                  simp only [rgL, List.map_cons, List.map_nil, List.cons.injEq, and_true] at h4
                  exact h4 : P.take j = rgL (k : Int) ds (pathF at' c lo md) ∧ P.getD j [] = rgD (k : Int) ds md hi)
                have HRC := hide (unhide HRG md hi _ ((unhide HK9).trans ((unhide HKR).trans (unhide HKZ) (by simp)) (by simp)))
                rw [← (unhide HSPL).2, show rgE ds md hi = 0 from if_neg (by rw [unhide HDS]; omega)] at HRC
                have HTN := hide (unhide HSPL).1
                clear HSPL
                generalize P.getD j [] = X at HRC HPR HPD
                have hxl := (unhide HPD).1
                have hq := fun W => dig_eq W X X hxl hxl
                rw [decide_eq_true rfl] at hq
                have ia : ¬ (P.length : Int) ≤ (j : Int) := by omega
                go_wp2_with (first | simp only [hmul] | simp only [hsub] | simp only [hadd])
                rw [zb32]
                refine (unhide HRC).mono ?_
                rintro e wa ⟨rfl, ka⟩
                have HZa := hide (ka.heap (unhide HZ) (by simp))
                have HKa := hide ((unhide HKZ).trans ka (by simp))
                have HZb := hide (setRow_heap wa wr.heap.size _ (brow X) 26 (0, 0) (unhide HZa))
                have HKb := hide ((unhide HKa).setRow (g := wr.heap.size) (Or.inr (Nat.le_refl _)) (brow X))
                obtain ⟨wb, hwb⟩ : ∃ wb, wa.setRow wr.heap.size (brow X) = wb := ⟨_, rfl⟩
                rw [hwb] at HZb HKb
                have HWB := hide hwb
                clear ka hwb HKa
                have r2 := range_kept (unhide HPR) (unhide HKb) (by simp)
                have hne : ∀ p : Prop, (∀ w', Kept [] wb w' → p) = p := fun p => propext ⟨fun h => h wb (Kept.refl [] wb), fun h _ _ => h⟩
                go_wp2_with (first
                  | simp only [hadd]
                  | (refine wpList_store_row rfl 26 (.tmp 34) _ rfl wr.heap.size (brow X) rfl rfl _ (zb 32) (unhide HZa) (Tryd.szD hxl) (by rw [zb_size, brow_size, hxl]) (brow_one _) ?_; rw [unhide HWB]))
                refine wp_region_keep (by kernel_rfl) (by kernel_rfl) ?_
                iterate 3 (go_big_quiet_step (fail))
                refine wpQuiet_row rfl 26 (.tmp 34) rfl wr.heap.size rfl _ (brow X) (0, 0) _ (fun w' hw' => hw'.heap (unhide HZb) (by simp)) Tryd.underlying26 rfl (Tryd.szD hxl) ?_
                simp only [Act.put, List.setIfInBounds_toArray, List.set_cons_succ, List.set_cons_zero]
                iterate 3 (go_big_quiet_step (fail))
                refine wpQuiet_mid rfl 26 _ rfl pb (po + j * 32) rfl (X.map Go.Proofs.YtajfaekfhohbmaaDoor.u8) _ (fun w' hw' => range_kept r2 hw' (by simp)) Tryd.underlying26 rfl (by rw [List.length_map, hxl]; exact Tryd.size_dig) ?_
                simp only [Act.put, List.setIfInBounds_toArray, List.set_cons_succ, List.set_cons_zero]
                refine wpQuiet_val rfl (.bool false) (fun w' _ => run_neq 26 _ _ _ rfl (brow X) (X.map Go.Proofs.YtajfaekfhohbmaaDoor.u8).toArray rfl rfl w' true (by kernel_rfl) (hq w')) ?_
                simp only [Act.put, List.setIfInBounds_toArray, List.set_cons_succ, List.set_cons_zero]
                repeat (go_big_quiet_step (fail))
                refine wpQuiet_nil ?_
                intro wc hwc
                have HKC := hide (((unhide HKR).trans (unhide HKb) (by simp)).trans hwc (by simp))
                clear hwc hne hq r2
                go_wp2_with fail
                go_roundw
                case rel => exact ⟨lo, md, j, c, rfl, rfl, rfl, by simp, by omega, by omega, by omega, by omega, hide (unhide HMH).1, HTN, HKC⟩
                case measure => simp [intOf]
              · have hcmp : ¬ (at' : Int) < (md : Int) := by omega
                have HSPL := hide (by
                  have h1 := pathF_r (i := at') (c := c) (lo := lo) (hi := hi) (by have := unhide HN9; omega) (by rw [unhide HN9, unhide HMD]; exact hside)
                  rw [unhide HN9, unhide HMD] at h1
                  have h2 := unhide HPT
                  rw [h1, rgL_app, unhide HJX] at h2
                  have h3 := List.append_inj' h2 rfl
                  refine ⟨h3.1, ?_⟩
                  have h4 := h3.2
                  simp only [rgL, List.map_cons, List.map_nil, List.cons.injEq, and_true] at h4
                  exact h4 : P.take j = rgL (k : Int) ds (pathF at' c md hi) ∧ P.getD j [] = rgD (k : Int) ds lo md)
                have HRC := hide (unhide HRG lo md _ ((unhide HK9).trans ((unhide HKR).trans (unhide HKZ) (by simp)) (by simp)))
                rw [← (unhide HSPL).2, show rgE ds lo md = 0 from if_neg (by rw [unhide HDS]; omega)] at HRC
                have HTN := hide (unhide HSPL).1
                clear HSPL
                generalize P.getD j [] = X at HRC HPR HPD
                have hxl := (unhide HPD).1
                have hq := fun W => dig_eq W X X hxl hxl
                rw [decide_eq_true rfl] at hq
                have ia : ¬ (P.length : Int) ≤ (j : Int) := by omega
                go_wp2_with (first | simp only [hmul] | simp only [hsub] | simp only [hadd])
                rw [zb32]
                refine (unhide HRC).mono ?_
                rintro e wa ⟨rfl, ka⟩
                have HZa := hide (ka.heap (unhide HZ) (by simp))
                have HKa := hide ((unhide HKZ).trans ka (by simp))
                have HZb := hide (setRow_heap wa wr.heap.size _ (brow X) 26 (0, 0) (unhide HZa))
                have HKb := hide ((unhide HKa).setRow (g := wr.heap.size) (Or.inr (Nat.le_refl _)) (brow X))
                obtain ⟨wb, hwb⟩ : ∃ wb, wa.setRow wr.heap.size (brow X) = wb := ⟨_, rfl⟩
                rw [hwb] at HZb HKb
                have HWB := hide hwb
                clear ka hwb HKa
                have r2 := range_kept (unhide HPR) (unhide HKb) (by simp)
                have hne : ∀ p : Prop, (∀ w', Kept [] wb w' → p) = p := fun p => propext ⟨fun h => h wb (Kept.refl [] wb), fun h _ _ => h⟩
                go_wp2_with (first
                  | simp only [hadd]
                  | (refine wpList_store_row rfl 26 (.tmp 34) _ rfl wr.heap.size (brow X) rfl rfl _ (zb 32) (unhide HZa) (Tryd.szD hxl) (by rw [zb_size, brow_size, hxl]) (brow_one _) ?_; rw [unhide HWB]))
                refine wp_region_keep (by kernel_rfl) (by kernel_rfl) ?_
                iterate 3 (go_big_quiet_step (fail))
                refine wpQuiet_row rfl 26 (.tmp 34) rfl wr.heap.size rfl _ (brow X) (0, 0) _ (fun w' hw' => hw'.heap (unhide HZb) (by simp)) Tryd.underlying26 rfl (Tryd.szD hxl) ?_
                simp only [Act.put, List.setIfInBounds_toArray, List.set_cons_succ, List.set_cons_zero]
                iterate 3 (go_big_quiet_step (fail))
                refine wpQuiet_mid rfl 26 _ rfl pb (po + j * 32) rfl (X.map Go.Proofs.YtajfaekfhohbmaaDoor.u8) _ (fun w' hw' => range_kept r2 hw' (by simp)) Tryd.underlying26 rfl (by rw [List.length_map, hxl]; exact Tryd.size_dig) ?_
                simp only [Act.put, List.setIfInBounds_toArray, List.set_cons_succ, List.set_cons_zero]
                refine wpQuiet_val rfl (.bool false) (fun w' _ => run_neq 26 _ _ _ rfl (brow X) (X.map Go.Proofs.YtajfaekfhohbmaaDoor.u8).toArray rfl rfl w' true (by kernel_rfl) (hq w')) ?_
                simp only [Act.put, List.setIfInBounds_toArray, List.set_cons_succ, List.set_cons_zero]
                repeat (go_big_quiet_step (fail))
                refine wpQuiet_nil ?_
                intro wc hwc
                have HKC := hide (((unhide HKR).trans (unhide HKb) (by simp)).trans hwc (by simp))
                clear hwc hne hq r2
                go_wp2_with fail
                go_roundw
                case rel => exact ⟨md, hi, j, c, rfl, rfl, rfl, by simp, by omega, by omega, by omega, by omega, hide (unhide HMH).2, HTN, HKC⟩
                case measure => simp [intOf]

theorem wholeCounts_walk (n8 : Nat) (n i m : Nat) (w : World) (h8 : n8 < 256) (hn : n < 65536) (hi0 : i < 65536) (hm0 : m < 65536) (h : Tabs w ∧ Tab6 w) :
    Calls Tryd.prog 8 #[.int .u8 (n8 : Int), .int .u16 (n : Int), .int .u16 (i : Int), .int .u16 (m : Int)] w fun e w' => e = .returned (.bool true) ∧ Below w.heap.size w w' :=
  (wholeCounts_go n8 n i m w h8 hn hi0 hm0 h.1 h.2).mono fun e w' h9 => ⟨h9.1, h9.2.below (Nat.le_refl _) (by simp)⟩
end Go.Proofs.YtajfaekfhohbmaaDoor
namespace Go.Proofs.YtajfaekfhohbmaaDoor
open Go.ChangeShapes Go.WideShapes Go.ChangeAt Go.RowKit Go.Deep
set_option linter.unusedVariables false
set_option linter.unusedSimpArgs false

theorem own : ownKnob Tryd.prog.godebug = none := by kernel_rfl
theorem laidOut : laidOutB Tryd.prog = true := by kernel_rfl
theorem byte_of_wf {x : Int} (h : (Lit.int .u8 x).wf = true) : 0 ≤ x ∧ x < 256 := by
  simp [Lit.wf, IntKind.min, IntKind.max, IntKind.signed, IntKind.bits] at h
  exact ⟨by omega, by omega⟩
theorem int_of_wf {x : Int} (h : (Lit.int .i64 x).wf = true) : -9223372036854775808 ≤ x ∧ x ≤ 9223372036854775807 := by
  simp [Lit.wf, IntKind.min, IntKind.max, IntKind.signed, IntKind.bits] at h
  exact ⟨by omega, by omega⟩

theorem bulk_one {H : Type} (d : DataW H) : 1 ≤ Rows.uptoBulk d := by
  cases d with
  | lit l => cases l <;> simp [Rows.uptoBulk]
  | nil => simp [Rows.uptoBulk]
  | ptr d => simp [Rows.uptoBulk]
  | slice elems spare => simp [Rows.uptoBulk]
  | agg parts => simp [Rows.uptoBulk]
  | iface t d => simp [Rows.uptoBulk]
  | map entries => simp [Rows.uptoBulk]
  | held h => simp [Rows.uptoBulk]
theorem bulk_len {H : Type} (l : List (DataW H)) : l.length ≤ Rows.uptoBulkAll l := by
  induction l with
  | nil => simp [Rows.uptoBulkAll]
  | cons x r ih => have := bulk_one x; simp only [Rows.uptoBulkAll, List.length_cons]; omega
theorem Tryd.bytes5 : Tryd.prog.bytesOf 5 = 1 := by kernel_rfl

section
variable {H : Type} {enc : TypeId × Value → H} {W : World}

/-- Bytes that came in, as the walks want them, of whatever length. -/
theorem open_bytes {fuel : Nat} {cs : List Value} {x : DataW H × List MemPlace} (h : DataW.trod enc Tryd.prog W 0 (fun _ => true) true fuel 95 cs = some x) :
    ∃ v bs, cs = [v] ∧ (bs.length ≤ 140737488355328 → Rd W v bs) ∧ ((bs = [] ∧ x.1 = .nil) ∨ ∃ elems spare, x.1 = .slice elems spare ∧ elems.length = bs.length) := by
  rcases open_ints Tryd.underlying95 Tryd.underlying5 (by kernel_rfl) h with ⟨rfl, rfl⟩ | ⟨a, len, cap, zs, rfl, _, hl, hm, hz, rfl, hcell, hwz⟩
  · exact ⟨_, [], rfl, fun _ => Rd.nil W, .inl ⟨rfl, rfl⟩⟩
  · have h2 : (lits (H := H) .u8 (zs.take len)).length = len := by simp only [lits, List.length_map, List.length_take]; simp at hz; omega
    have hbl : ((zs.take len).map Int.toNat).length = len := by simp at hz; simp; omega
    refine ⟨_, (zs.take len).map Int.toNat, rfl, fun hB => ⟨_, _, _, rfl, hbl, hl, ⟨by unfold maxLen at hm; omega, by omega⟩, by simp, ?_, ?_⟩, .inr ⟨_, _, rfl, by rw [h2, hbl]⟩⟩
    · intro y hy
      obtain ⟨z, hz1, rfl⟩ := List.mem_map.1 hy
      have := byte_of_wf (hwz z (List.mem_of_mem_take hz1)); omega
    · intro hp
      simp at hz
      have hc0 := hcell 0 (by omega)
      obtain ⟨b, off, spot⟩ := a
      have hspot : spot = none := by simpa [Addr.add] using World.cell?_spot hc0
      subst hspot
      refine ⟨b, off, rfl, fun i hi => ?_⟩
      have hc := hcell i (by omega)
      have hzi : i < zs.length := by omega
      rw [Addr.add_mid] at hc
      rw [hc]
      have hw := byte_of_wf (hwz (zs[i]) (List.getElem_mem hzi))
      simp only [List.getD_eq_getElem?_getD, List.getElem?_eq_getElem hzi, Option.getD_some, List.getElem?_map, List.getElem?_take, hi, if_true, Option.map_some]
      simp [u8]; omega
/-- Their length, by the reach. -/
theorem reach_bytes {ts : List TypeId} {ds : List (DataW H)} (h : (DataW.weightsEach Tryd.prog ts ds).all (· ≤ reachBytes) = true) {j : Nat} (ht : ts[j]? = some 95) {d : DataW H} (hd : ds[j]? = some d) {bs : List Nat}
    (hx : (bs = [] ∧ d = .nil) ∨ ∃ elems spare, d = .slice elems spare ∧ elems.length = bs.length) : bs.length ≤ 140737488351232 := by
  rcases hx with ⟨rfl, _⟩ | ⟨elems, spare, rfl, he⟩
  · simp
  · have := sized_slice h ht hd Tryd.underlying95
    rw [Tryd.bytes5, Nat.mul_one] at this
    unfold reachBytes at this
    omega
/-- Their length, by the bulk. -/
theorem bulk_bytes {d : DataW H} {bs : List Nat} (hx : (bs = [] ∧ d = .nil) ∨ ∃ elems spare, d = .slice elems spare ∧ elems.length = bs.length) : bs.length + 1 ≤ Rows.uptoBulk d := by
  rcases hx with ⟨rfl, rfl⟩ | ⟨elems, spare, rfl, he⟩
  · simp [Rows.uptoBulk]
  · have := bulk_len elems
    simp only [Rows.uptoBulk]; omega
end
end Go.Proofs.YtajfaekfhohbmaaDoor
