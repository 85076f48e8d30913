import Derived.Test.YtnimfbbhhdgepabDoorLShaSums
import Derived.Test.YtnimfbbhhdgepabDoorSMark
import Derived.Test.YtnimfbbhhdgepabDoorSDocB
import Derived.Test.YtnimfbbhhdgepabDoorSSame
namespace Go.Proofs.YtnimfbbhhdgepabDoor
open Go.RowKit Go.BigFrame
set_option linter.unusedVariables false
set_option linter.unusedSimpArgs false

theorem own_fresh' {w : World} {g : Nat} {bs : List Nat} (h : w.heap[g]? = some (.cells (bs.map u8).toArray 5 (0, 0))) (hl : bs.length ≤ 140737488355328) : w.ownsRow g 5 1 (.slice (some ⟨g, 0, none⟩) bs.length bs.length) bs.length (bs.map u8) :=
  ⟨by simp, Or.inr ⟨g, bs.length, _, rfl, Nat.le_refl _, h, Nat.le_refl _, by unfold maxLen; omega, by simp, List.take_of_length_le (by simp)⟩⟩
theorem rd_arr' {w : World} {g : Nat} {bs : List Nat} {t : TypeId} {fr : Nat × Nat} (h : w.heap[g]? = some (.cells (brow bs) t fr)) (hb : ∀ x ∈ bs, x < 256) (n : Nat) (hn : bs.length = n) (hl : n ≤ 140737488355328) :
    Rd w (.slice (some ⟨g, 0, none⟩) n n) bs := by
  refine ⟨_, _, _, rfl, hn, Nat.le_refl _, ⟨by omega, hl⟩, by simp, hb, fun hp => ⟨g, 0, rfl, fun i hi => ?_⟩⟩
  rw [Nat.zero_add]; exact brow_cell h i (by omega)
/-- A row of bytes in which p stands at the head. -/
theorem rd_head {w : World} {g : Nat} {p r : List Nat} (h : w.heap[g]? = some (.cells (brow (p ++ r)) 5 (0, 0))) (hb : ∀ x ∈ p, x < 256) (n c : Nat) (hn : p.length = n) (hc : n ≤ c) (hc2 : c ≤ 9223372036854775807) (hl : n ≤ 140737488355328) :
    Rd w (.slice (some ⟨g, 0, none⟩) n c) p := by
  refine ⟨_, _, _, rfl, hn, hc, ⟨hc2, hl⟩, by simp, hb, fun hp => ⟨g, 0, rfl, fun i hi => ?_⟩⟩
  rw [Nat.zero_add, brow_cell h i (by simp; omega)]
  simp [List.getD_eq_getElem?_getD, List.getElem?_append_left (show i < p.length by omega)]

theorem rd_row {w : World} {g : Nat} {C : List Nat} (h : w.heap[g]? = some (.cells (brow C) 5 (0, 0))) (hb : ∀ x ∈ C, x < 256) (n c : Nat) (hn : n ≤ C.length) (hc : n ≤ c) (hc2 : c ≤ 9223372036854775807) (hl : n ≤ 140737488355328) :
    Rd w (.slice (some ⟨g, 0, none⟩) n c) (C.take n) := by
  have : C = C.take n ++ C.drop n := (List.take_append_drop n C).symm
  rw [this] at h
  exact rd_head h (fun x hx => hb x (List.mem_of_mem_take hx)) n c (by simp; omega) hc hc2 hl
def Bts (C : List Nat) (n : Nat) : Prop := C.length = n ∧ ∀ x ∈ C, x < 256
theorem Bts.set {C : List Nat} {n : Nat} (h : Bts C n) (k x : Nat) (hx : x < 256) : Bts (C.set k x) n :=
  ⟨by simpa using h.1, fun y hy => by rcases List.mem_or_eq_of_mem_set hy with h1 | h1; exact h.2 y h1; rw [h1]; exact hx⟩

set_option maxRecDepth 100000 in
set_option maxHeartbeats 4000000 in
theorem shaMemory_walk (v : Value) (p : List Nat) (n : Nat) (w : World) (h : Rd w v p) (hl : p.length ≤ 1048576) (hn : n < 18446744073709551616) (hT : Tabs w) :
    Calls Tryd.prog 3 #[v, .int .u64 n] w fun e w' => e = .returned (.bool true) ∧ Below w.heap.size w w' := by
  have HT := hide hT
  have H := hide h
  have h2 := hT.two
  obtain ⟨va, vl, vc, rfl, hvl, _⟩ := h
  subst hvl
  clear hT
  go_enter Tryd.func3, Tryd.ntmps3
  go_wp2_with fail
  refine Calls.mono (shaAwake_any w (unhide HT)) ?_
  rintro e w1 ⟨rfl, k1⟩
  have HK1 := hide k1
  have hs1 := k1.size
  clear k1
  go_wp2_with fail
  refine Calls.mono (marked_any _ p w1 ((unhide H).old (unhide HK1) (by simp)) (by omega)) ?_
  rintro e w2 ⟨rfl, h2w, k2⟩
  have HG2 := hide h2w
  have HK2 := hide ((unhide HK1).trans k2 (by simp))
  obtain ⟨g, hg⟩ : ∃ g, w1.heap.size = g := ⟨_, rfl⟩
  rw [hg] at HG2
  have Hg := hide (by omega : w.heap.size ≤ g ∧ 2 ≤ g)
  clear h2w k2
  go_wp2_with fail
  refine Calls.mono (refsum_any _ p w2 ((unhide H).old (unhide HK2) (by simp))) ?_
  rintro e w3 ⟨rfl, k3⟩
  have HG3 := hide (k3.heap (unhide HG2) (by simp))
  have HK3 := hide ((unhide HK2).trans k3 (by simp))
  clear k3
  have hhl := hash_len p
  obtain ⟨D, hD⟩ : ∃ D, hash p = D := ⟨_, rfl⟩
  have HD := hide hD
  rw [hD] at hhl ⊢
  clear hD
  have hg3 := lt_of_block (unhide HG3)
  go_wp2_with (rw [zb32]; refine wpList_store_row rfl 27 _ _ rfl w3.heap.size (brow D) rfl rfl _ (zb 32) (heap_alloc_new _ _) (by rw [brow_size, hhl]; exact Tryd.size_a32b) (by rw [zb_size, brow_size, hhl]) (brow_one _) ?_)
  obtain ⟨W4, hW4⟩ : ∃ W, (w3.alloc (.cells (zb 32) 27)).setRow w3.heap.size (brow D) = W := ⟨_, rfl⟩
  obtain ⟨gw, hgw⟩ : ∃ g, w3.heap.size = g := ⟨_, rfl⟩
  have HKx := hide (by rw [← hW4]; exact (((Kept.refl [] w3).alloc _).setRow (Or.inr (Nat.le_refl _)) _) : Kept [] w3 W4)
  have HD4 := hide (by rw [← hW4, ← hgw]; exact setRow_heap _ _ _ _ _ _ (heap_alloc_new _ _) : W4.heap[gw]? = some (.cells (brow D) 27 (0, 0)))
  have HG4 := hide ((unhide HKx).heap (unhide HG3) (by simp))
  have HK4 := hide ((unhide HK3).trans (unhide HKx) (by simp))
  have Hgw := hide (by omega : g < gw)
  rw [hW4, hgw]
  clear hW4 hgw
  refine Calls.mono (snew_any W4) ?_
  rintro e w5 ⟨rfl, s5, k5⟩
  have HS5 := hide s5
  have HG5 := hide (k5.heap (unhide HG4) (by simp))
  have HD5 := hide (k5.heap (unhide HD4) (by simp))
  have HK5 := hide ((unhide HK4).trans k5 (by simp))
  obtain ⟨gs, hgs⟩ : ∃ g, W4.heap.size = g := ⟨_, rfl⟩
  rw [hgs] at HS5
  have Hgs := hide (by have := lt_of_block (unhide HD4); have := unhide Hgw; omega : g < gs ∧ gw < gs)
  clear s5 k5
  have HQ := hide (fun W (hW : W.heap[g]? = some (.cells (brow (mk p)) 5 (0, 0))) => rd_head hW (unhide H).byte p.length (p.length + 96) rfl (by omega) (by omega) (by omega) : ∀ W : World, W.heap[g]? = some (.cells (brow (mk p)) 5 (0, 0)) → Rd W (.slice (some ⟨g, 0, none⟩) p.length (p.length + 96)) p)
  go_wp2_with fail
  refine Calls.mono (write_any gs [] _ p w5 (unhide HS5) (unhide HQ _ (unhide HG5)) (by intro _; have := unhide Hgs; simp [blk]; omega) (by have := unhide Hgs; have := unhide Hg; omega) (by simp; omega) ((unhide HT).k (unhide HK5))) ?_
  rintro e w6 ⟨rfl, s6, k6⟩
  rw [List.nil_append] at s6
  have HS6 := hide s6
  have HG6 := hide (k6.heap (unhide HG5) (by have := unhide Hgs; simp; omega))
  have HD6 := hide (k6.heap (unhide HD5) (by have := unhide Hgs; simp; omega))
  have HK6 := hide ((unhide HK5).trans k6 (by have := unhide Hgs; have := unhide Hg; simp; omega))
  clear s6 k6
  go_wp2_with fail
  refine Calls.mono (sum256_any _ p w6 (unhide HQ _ (unhide HG6)) (by omega) ((unhide HT).k (unhide HK6))) ?_
  rintro e w7 ⟨rfl, k7⟩
  have HS7 := hide ((unhide HS6).kept k7 (by simp))
  have HG7 := hide (k7.heap (unhide HG6) (by simp))
  have HD7 := hide (k7.heap (unhide HD6) (by simp))
  have HK7 := hide ((unhide HK6).trans k7 (by simp))
  clear k7
  rw [unhide HD]
  go_wp2_with fail
  refine Calls.mono (sum256_any _ p w7 (unhide HQ _ (unhide HG7)) (by omega) ((unhide HT).k (unhide HK7))) ?_
  rintro e w8 ⟨rfl, k8⟩
  have HS8 := hide ((unhide HS7).kept k8 (by simp))
  have HG8 := hide (k8.heap (unhide HG7) (by simp))
  have HD8 := hide (k8.heap (unhide HD7) (by simp))
  have HK8 := hide ((unhide HK7).trans k8 (by simp))
  clear k8
  rw [unhide HD]
  have hlt8 := (unhide HS8).lt
  have hqD := fun W => row_eq W D D hhl hhl
  simp only [decide_true] at hqD
  obtain ⟨W9, hW9⟩ : ∃ W, (((w8.alloc (.cells (zb 32) 27)).alloc (.cells (zb 32) 27)).setRow w8.heap.size (brow D)).setRow (w8.heap.size + 1) (brow D) = W := ⟨_, rfl⟩
  have HKy := hide (by rw [← hW9]; exact ((((Kept.refl [] w8).alloc _).alloc _).setRow (Or.inr (Nat.le_refl _)) _).setRow (Or.inr (by omega)) _ : Kept [] w8 W9)
  have HA9 := hide (by rw [← hW9, setRow_other _ _ _ _ (by omega)]; exact setRow_heap _ _ _ _ _ _ (heap_alloc2_old _ _ _) : W9.heap[w8.heap.size]? = some (.cells (brow D) 27 (0, 0)))
  have HB9 := hide (by rw [← hW9]; exact setRow_heap _ _ _ _ _ _ (by rw [setRow_other _ _ _ _ (by omega)]; exact heap_alloc2_new _ _ _) : W9.heap[w8.heap.size + 1]? = some (.cells (brow D) 27 (0, 0)))
  have HS9 := hide ((unhide HS8).kept (unhide HKy) (by simp))
  have HG9 := hide ((unhide HKy).heap (unhide HG8) (by simp))
  have HD9 := hide ((unhide HKy).heap (unhide HD8) (by simp))
  have HK9 := hide ((unhide HK8).trans (unhide HKy) (by simp))
  have HZZ := hide (by rw [brow_size, hhl]; exact Tryd.size_a32b : (Tryd.prog.info? 27).map (·.size) = some (brow D).size)
  have HWW := hide hW9
  clear hW9
  go_wp2_with (first
    | (rw [zb32]; refine wpList_store_row rfl 27 (.tmp 9) _ rfl w8.heap.size (brow D) rfl rfl _ (zb 32) (heap_alloc2_old _ _ _) (unhide HZZ) (by rw [zb_size, brow_size, hhl]) (brow_one _) ?_)
    | (refine wpList_store_row rfl 27 (.tmp 10) _ rfl (w8.heap.size + 1) (brow D) rfl rfl _ (zb 32) (by rw [setRow_other _ _ _ _ (by omega)]; exact heap_alloc2_new _ _ _) (unhide HZZ) (by rw [zb_size, brow_size, hhl]) (brow_one _) ?_; rw [unhide HWW])
    | (refine wpList_load_rowG rfl 27 (.tmp 9) rfl w8.heap.size rfl _ (brow D) (0, 0) _ (unhide HA9) Tryd.underlying27 rfl (unhide HZZ) ?_)
    | (refine wpList_load_rowG rfl 27 (.tmp 10) rfl (w8.heap.size + 1) rfl _ (brow D) (0, 0) _ (unhide HB9) Tryd.underlying27 rfl (unhide HZZ) ?_)
    | (refine wpList_load_rowG rfl 27 (.tmp 7) rfl gw rfl _ (brow D) (0, 0) _ (unhide HD9) Tryd.underlying27 rfl (unhide HZZ) ?_))
  refine Calls.mono (untouched_any _ _ p W9 ((unhide H).old (unhide HK9) (by simp)) (rd_arr' (unhide HG9) (by unfold mk; intro x hx; rcases List.mem_append.1 hx with h | h; exact (unhide H).byte x h; exact mks_byte _ _ x h) _ (mk_len p) (by omega)) (by omega)) ?_
  rintro e w10 ⟨rfl, n10, rfl⟩
  have HC0 := hide (⟨mk_len p, by unfold mk; intro x hx; rcases List.mem_append.1 hx with h | h; exact (unhide H).byte x h; exact mks_byte _ _ x h⟩ : Bts (mk p) (p.length + 96))
  obtain ⟨ga, hga⟩ : ∃ g, w8.heap.size = g := ⟨_, rfl⟩
  rw [hga] at HA9 HB9 ⊢
  have Hga := hide (by have := unhide Hgs; omega : gs < ga ∧ g < ga ∧ gw < ga)
  clear hga HZZ HWW HKy
  go_wp2_with fail
  go_loopw [11] (fun t11 wr => ∃ (k : Nat) (C : List Nat), k ≤ p.length ∧ t11 = .int .i64 k ∧ Hid (Bts C (p.length + 96)) ∧ Hid (wr.heap[g]? = some (.cells (brow C) 5 (0, 0))) ∧ Hid (St wr gs p) ∧ Hid (wr.heap[gw]? = some (.cells (brow D) 27 (0, 0))) ∧ Hid (Kept [] w wr)) (fun t _ => p.length - (intOf t).toNat)
  case atStart => exact ⟨0, mk p, Nat.zero_le _, rfl, HC0, HG9, HS9, HD9, hide ((unhide HK9).drewN n10)⟩
  case round =>
    clear HC0 HG9 HS9 HD9 HK9 HA9 HB9
    obtain ⟨k, C, hk, rfl, HC, HG, HS, HDw, HK⟩ := hrel
    by_cases hlt : k < p.length
    · have hlt' : (k : Int) < p.length := by omega
      have cg := brow_cell (unhide HG) k (by rw [(unhide HC).1]; omega)
      have hx := byteD (unhide HC).2 k
      generalize C.getD k 0 = x at cg hx
      have hxx : bits .xor .u8 (x : Int) 85 = ((x ^^^ 85 : Nat) : Int) := u8_xor_nat x 85 hx (by decide)
      have hzb : x ^^^ 85 < 256 := Nat.xor_lt_two_pow (n := 8) hx (by decide)
      generalize x ^^^ 85 = z at hxx hzb
      have fr : wr.frozen? ⟨g, k, none⟩ = false := frozen_of_row _ _ _ _ _ (unhide HG)
      have HCN := hide ((unhide HC).set k z hzb)
      have HGN := hide (brow_setCell (unhide HG) k z)
      have HKg := hide ((Kept.refl [g] wr).setCell (p := ⟨g, k, none⟩) (by simp) (Go.Proofs.YtnimfbbhhdgepabDoor.u8 z))
      have HSN := hide ((unhide HS).kept (unhide HKg) (by have := unhide Hgs; simp; omega))
      have HDN := hide ((unhide HKg).heap (unhide HDw) (by have := unhide Hgw; simp; omega))
      have HKN := hide ((unhide HK).setCell (p := ⟨g, k, none⟩) (Or.inr (unhide Hg).1) (Go.Proofs.YtnimfbbhhdgepabDoor.u8 z))
      go_wp2
      go_roundw
      case rel => exact ⟨k + 1, _, by omega, by go_num, HCN, HGN, HSN, HDN, HKN⟩
      case measure => simp [intOf]; omega
    · have hlt' : ¬ (k : Int) < p.length := by omega
      obtain ⟨Q, hQ⟩ : ∃ Q, C.take p.length = Q := ⟨_, rfl⟩
      have hQl : Q.length = p.length := by rw [← hQ]; simp [(unhide HC).1]
      have HQb := hide (by rw [← hQ]; exact fun x hx => (unhide HC).2 x (List.mem_of_mem_take hx) : ∀ x ∈ Q, x < 256)
      have HQr := hide (fun W (hW : W.heap[g]? = some (.cells (brow C) 5 (0, 0))) => by have := rd_row hW (unhide HC).2 p.length (p.length + 96) (by rw [(unhide HC).1]; omega) (by omega) (by omega) (by omega); rw [hQ] at this; exact this : ∀ W : World, W.heap[g]? = some (.cells (brow C) 5 (0, 0)) → Rd W (.slice (some ⟨g, 0, none⟩) p.length (p.length + 96)) Q)
      clear hQ
      go_wp2_with fail
      refine Calls.mono (ltwin_any _ Q wr (unhide HQr _ (unhide HG))) ?_
      rintro e w11 ⟨rfl, k11, h11⟩
      have HN11 := hide h11
      have HG11 := hide (k11.heap (unhide HG) (by simp))
      have HS11 := hide ((unhide HS).kept k11 (by simp))
      have HD11 := hide (k11.heap (unhide HDw) (by simp))
      have HK11 := hide ((unhide HK).trans k11 (by simp))
      obtain ⟨gn, hgn⟩ : ∃ g, wr.heap.size = g := ⟨_, rfl⟩
      have hsn := (unhide HS).lt
      rw [hgn] at HN11 hsn
      have Hgn := hide (by have := unhide Hgs; omega : gs < gn ∧ g < gn ∧ gw < gn)
      have HNr := hide (fun W (hW : W.heap[gn]? = some (.cells (Q.map Go.Proofs.YtnimfbbhhdgepabDoor.u8).toArray 5 (0, 0))) => by have := rd_fresh hW (unhide HQb) (by omega); rw [hQl] at this; exact this : ∀ W : World, W.heap[gn]? = some (.cells (Q.map Go.Proofs.YtnimfbbhhdgepabDoor.u8).toArray 5 (0, 0)) → Rd W (.slice (some ⟨gn, 0, none⟩) p.length p.length) Q)
      clear k11 h11
      go_wp2_with fail
      have hqh := hash_len Q
      have HCA := hide (fun w' (hw' : Kept [] w11 w') => (sum256_any _ Q w' (unhide HQr _ (hw'.heap (unhide HG11) (by simp))) (by omega) ((unhide HT).k ((unhide HK11).trans hw' (by simp)))).mono (fun e w2 (h2 : _ ∧ _) => (⟨h2.1, hw'.trans h2.2 (by simp)⟩ : _ ∧ Kept [] w11 w2)))
      have HRA := hide (fun w' (hw' : Kept [] w11 w') => (refsum_any _ Q w' (unhide HNr _ (hw'.heap (unhide HN11) (by simp)))).mono (fun e w2 (h2 : _ ∧ _) => (⟨h2.1, hw'.trans h2.2 (by simp)⟩ : _ ∧ Kept [] w11 w2)))
      have HSA := hide (fun w' (hw' : Kept [] w11 w') => by
        have := (ssum_any gs p w' ((unhide HS11).kept hw' (by simp)) (by omega) ((unhide HT).k ((unhide HK11).trans hw' (by simp)))).mono (fun e w2 (h2 : _ ∧ _) => (⟨h2.1, hw'.trans h2.2 (by simp)⟩ : _ ∧ Kept [] w11 w2))
        rw [unhide HD] at this; exact this : ∀ w', Kept [] w11 w' → Calls Tryd.prog 14 #[.pointer (some ⟨gs, 0, none⟩)] w' fun e w2 => e = .returned (.agg (brow D)) ∧ Kept [] w11 w2)
      have hne : ∀ p : Prop, (∀ w', Kept [] w11 w' → p) = p := fun p => propext ⟨fun h => h w11 (Kept.refl [] w11), fun h _ _ => h⟩
      have HZZ := hide (by rw [brow_size, hhl]; exact Tryd.size_a32b : (Tryd.prog.info? 27).map (·.size) = some (brow D).size)
      have HqD := hide hqD
      clear hqD
      refine wp_region_keep (by kernel_rfl) (by kernel_rfl) ?_
      go_big_quiet_step (fail)
      go_big_quiet_want
      go_big_quiet_op
      apply Exists.intro
      refine ⟨fun w' hw' => ?_, ?_⟩
      · exact unhide HCA w' hw'
      go_big_quiet_on
      go_big_quiet_step (fail)
      go_big_quiet_want
      go_big_quiet_op
      apply Exists.intro
      refine ⟨fun w' hw' => ?_, ?_⟩
      · exact unhide HRA w' hw'
      go_big_quiet_on
      refine wpQuiet_val rfl (.bool (!true)) (fun w' _ => run_neq 27 (.tmp 68) (.tmp 70) 27 rfl (brow (hash Q)) (brow (hash Q)) rfl rfl w' true (by kernel_rfl) (by rw [row_eq w' _ _ hqh hqh, decide_eq_true rfl])) ?_
      simp only [Act.put, List.setIfInBounds_toArray, List.set_cons_succ, List.set_cons_zero, Bool.not_true]
      go_big_quiet_step (fail)
      go_big_quiet_step (fail)
      go_big_quiet_want
      go_big_quiet_op
      apply Exists.intro
      refine ⟨fun w' hw' => ?_, ?_⟩
      · exact unhide HSA w' hw'
      go_big_quiet_on
      refine wpQuiet_row rfl 27 (.tmp 7) rfl gw rfl _ (brow D) (0, 0) _ (fun w' hw' => hw'.heap (unhide HD11) (by simp)) Tryd.underlying27 rfl (unhide HZZ) ?_
      simp only [Act.put, List.setIfInBounds_toArray, List.set_cons_succ, List.set_cons_zero]
      refine wpQuiet_val rfl (.bool (!true)) (fun w' _ => run_neq 27 (.tmp 74) (.tmp 75) 27 rfl (brow D) (brow D) rfl rfl w' true (by kernel_rfl) (unhide HqD w')) ?_
      simp only [Act.put, List.setIfInBounds_toArray, List.set_cons_succ, List.set_cons_zero, Bool.not_true]
      repeat (go_big_quiet_step (fail))
      refine wpQuiet_nil ?_
      intro w12 hw12
      have HG12 := hide (hw12.heap (unhide HG11) (by simp))
      have HN12 := hide (hw12.heap (unhide HN11) (by simp))
      have HS12 := hide ((unhide HS11).kept hw12 (by simp))
      have HK12 := hide ((unhide HK11).trans hw12 (by simp))
      clear hw12 hne
      go_wp2_with fail
      refine Calls.mono (write_any gs p _ Q w12 (unhide HS12) (unhide HQr _ (unhide HG12)) (by intro _; have := unhide Hgs; simp [blk]; omega) (by have := unhide Hgs; have := unhide Hg; omega) (by omega) ((unhide HT).k (unhide HK12))) ?_
      rintro e w13 ⟨rfl, s13, k13⟩
      have HS13 := hide s13
      have HG13 := hide (k13.heap (unhide HG12) (by have := unhide Hgs; simp; omega))
      have HN13 := hide (k13.heap (unhide HN12) (by have := unhide Hgn; simp; omega))
      have HK13 := hide ((unhide HK12).trans k13 (by have := unhide Hgs; have := unhide Hg; simp; omega))
      clear s13 k13
      go_wp2_with fail
      go_loopw [13] (fun t13 wq => ∃ (k : Nat) (C2 : List Nat), k ≤ p.length + 96 ∧ t13 = .int .i64 k ∧ Hid (Bts C2 (p.length + 96)) ∧ Hid (wq.heap[g]? = some (.cells (brow C2) 5 (0, 0))) ∧ Hid (St wq gs (p ++ Q)) ∧ Hid (wq.heap[gn]? = some (.cells (Q.map Go.Proofs.YtnimfbbhhdgepabDoor.u8).toArray 5 (0, 0))) ∧ Hid (Kept [] w wq)) (fun t _ => p.length + 96 - (intOf t).toNat)
      case atStart => exact ⟨0, C, Nat.zero_le _, rfl, HC, HG13, HS13, HN13, HK13⟩
      case round =>
        clear HG13 HS13 HN13 HK13
        obtain ⟨k2, C2, hk2, rfl, HC2, HGr, HSr, HNr2, HKr⟩ := hrel
        by_cases hlt2 : k2 < p.length + 96
        · have hlt2' : (k2 : Int) < (p.length : Int) + 96 := by omega
          have cg := brow_cell (unhide HGr) k2 (by rw [(unhide HC2).1]; omega)
          have fr : wr.frozen? ⟨g, k2, none⟩ = false := frozen_of_row _ _ _ _ _ (unhide HGr)
          have HCN := hide ((unhide HC2).set k2 51 (by decide))
          have HGN := hide (brow_setCell (unhide HGr) k2 51)
          have HKg := hide ((Kept.refl [g] wr).setCell (p := ⟨g, k2, none⟩) (by simp) (Go.Proofs.YtnimfbbhhdgepabDoor.u8 51))
          have HSN := hide ((unhide HSr).kept (unhide HKg) (by have := unhide Hgs; simp; omega))
          have HNN := hide ((unhide HKg).heap (unhide HNr2) (by have := unhide Hgn; simp; omega))
          have HKN := hide ((unhide HKr).setCell (p := ⟨g, k2, none⟩) (Or.inr (unhide Hg).1) (Go.Proofs.YtnimfbbhhdgepabDoor.u8 51))
          go_wp2
          go_roundw
          case rel => exact ⟨k2 + 1, _, by omega, by go_num, HCN, HGN, HSN, HNN, HKN⟩
          case measure => simp [intOf]; omega
        · have hlt2' : ¬ (k2 : Int) < (p.length : Int) + 96 := by omega
          go_wp2_with fail
          refine Calls.mono (ssum_any gs (p ++ Q) wr (unhide HSr) (by simp; omega) ((unhide HT).k (unhide HKr))) ?_
          rintro e w14 ⟨rfl, k14⟩
          have HN14 := hide (k14.heap (unhide HNr2) (by simp))
          have HK14 := hide ((unhide HKr).trans k14 (by simp))
          clear k14
          go_wp2_with fail
          refine Calls.mono (ltwin_any _ p w14 ((unhide H).old (unhide HK14) (by simp))) ?_
          rintro e w15 ⟨rfl, k15, h15⟩
          have HO15 := hide (own_fresh' h15 (by omega))
          have HN15 := hide (k15.heap (unhide HN14) (by simp))
          have HKa := hide k15
          have HK15 := hide ((unhide HK14).trans k15 (by simp))
          clear k15 h15
          have HQl := hide hQl
          have HPQb := hide (fun x hx => by rcases List.mem_append.1 hx with h | h; exact (unhide H).byte x h; exact unhide HQb x h : ∀ x ∈ p ++ Q, x < 256)
          clear hQl
          go_wp2_with (at_builtin; go_must (refine wpList_appendAll rfl _ _ rfl rfl _ w14.heap.size (.slice (some ⟨w14.heap.size, 0, none⟩) p.length p.length) p Q _ p.length _ (by exact unhide HO15) (by exact unhide HNr _ (unhide HN15)) (by rw [unhide HQl]; omega) (unhide HKa).size rfl rfl ?_; intro x1 y1 w16 HO16 HG16 HA16))
          have HK16 := hide ((unhide HK15).grown (unhide HG16) (fun j hj => Or.inr (by cases hj; exact (unhide HK14).size)))
          have HR16 := hide (rd_owns (bs := p ++ Q) (unhide HO16) (unhide HPQb) (by rw [List.length_append, unhide HQl]; omega))
          clear HO16 HG16 HA16 HO15 HKa
          have hlpq := hash_len (p ++ Q)
          have hqPQ := fun W => row_eq W (hash (p ++ Q)) (hash (p ++ Q)) hlpq hlpq
          simp only [decide_true] at hqPQ
          refine Calls.mono (refsum_any _ (p ++ Q) w16 (unhide HR16)) ?_
          rintro e w17 ⟨rfl, k17⟩
          have HK17 := hide ((unhide HK16).trans k17 (by simp))
          clear k17
          obtain ⟨m, hm⟩ : ∃ m, (n + 1) % 18446744073709551616 = m := ⟨_, rfl⟩
          have hmI : ((n : Int) + 1) % 18446744073709551616 = (m : Int) := by omega
          have hmb : m < 18446744073709551616 := by omega
          have hmW : IntKind.u64.wrap ((n : Int) + 1) = (m : Int) := by rw [IntKind.wrap_u64]; exact hmI
          have hln : (pad n).length ≤ 140737488355328 := by have := padZ_le n; rw [pad_len]; omega
          have hlm : (pad m).length ≤ 140737488355328 := by have := padZ_le m; rw [pad_len]; omega
          obtain ⟨L, hL⟩ : ∃ L, (pad n).length = L := ⟨_, rfl⟩
          obtain ⟨M, hM⟩ : ∃ M, (pad m).length = M := ⟨_, rfl⟩
          have hLs : L ≤ 140 := by have := padZ_le n; have := pad_len n; omega
          have hMs : M ≤ 140 := by have := padZ_le m; have := pad_len m; omega
          clear hm
          go_wp2_with fail
          refine Calls.mono (padding_any n w17 hn) ?_
          rintro e w18 ⟨rfl, h18, k18⟩
          rw [hL]
          have HX18 := hide h18
          have HK18 := hide ((unhide HK17).trans k18 (by simp))
          obtain ⟨gx, hgx⟩ : ∃ g, w17.heap.size = g := ⟨_, rfl⟩
          rw [hgx] at HX18
          have Hgx := hide (by have := (unhide HK17).size; omega : w.heap.size ≤ gx)
          clear k18 h18
          have hx18 := lt_of_block (unhide HX18)
          go_wp2_with fail
          refine Calls.mono (padding_any n w18 hn) ?_
          rintro e w19 ⟨rfl, h19, k19⟩
          rw [hL]
          have HY19 := hide h19
          have HX19 := hide (k19.heap (unhide HX18) (by simp))
          have HK19 := hide ((unhide HK18).trans k19 (by simp))
          obtain ⟨gy, hgy⟩ : ∃ g, w18.heap.size = g := ⟨_, rfl⟩
          rw [hgy] at HY19 hx18
          clear k19 h19
          have hy19 := lt_of_block (unhide HY19)
          go_wp2_with fail
          refine Calls.mono (padding_any m w19 hmb) ?_
          rintro e w20 ⟨rfl, h20, k20⟩
          rw [hM]
          have HZ20 := hide h20
          have HX20 := hide (k20.heap (unhide HX19) (by simp))
          have HY20 := hide (k20.heap (unhide HY19) (by simp))
          have HK20 := hide ((unhide HK19).trans k20 (by simp))
          obtain ⟨gz, hgz⟩ : ∃ g, w19.heap.size = g := ⟨_, rfl⟩
          rw [hgz] at HZ20 hy19
          clear k20 h20
          have hz20 := lt_of_block (unhide HZ20)
          go_wp2_with fail
          refine Calls.mono (docPaddingB_any n w20 hn) ?_
          rintro e w21 ⟨l1, rfl, r21, k21, b21⟩
          have HP21 := hide r21
          have HB21 := hide b21
          have HX21 := hide (k21.heap (unhide HX20) (by simp))
          have HY21 := hide (k21.heap (unhide HY20) (by simp))
          have HZ21 := hide (k21.heap (unhide HZ20) (by simp))
          have HK21 := hide ((unhide HK20).trans k21 (by simp))
          have hs21 := k21.size
          clear k21 r21 b21
          go_wp2_with fail
          refine Calls.mono (docPaddingB_any m w21 hmb) ?_
          rintro e w22 ⟨l2, rfl, r22, k22, b22⟩
          have HN22 := hide r22
          have HB22 := hide b22
          have HP22 := hide ((unhide HP21).old k22 (by simp))
          have HX22 := hide (k22.heap (unhide HX21) (by simp))
          have HY22 := hide (k22.heap (unhide HY21) (by simp))
          have HZ22 := hide (k22.heap (unhide HZ21) (by simp))
          have HK22 := hide ((unhide HK21).trans k22 (by simp))
          clear k22 r22 b22
          have Hne := hide (by omega : gx < gy ∧ gy < gz ∧ gz < w20.heap.size ∧ w20.heap.size ≤ w21.heap.size)
          have HRX := hide (fun W (hW : W.heap[gx]? = some (.cells (brow (pad n)) 5 (0, 0))) => rd_arr' hW (pad_byte n) L hL (by omega) : ∀ W : World, W.heap[gx]? = some (.cells (brow (pad n)) 5 (0, 0)) → Rd W (.slice (some ⟨gx, 0, none⟩) L L) (pad n))
          have HRY := hide (fun W (hW : W.heap[gy]? = some (.cells (brow (pad n)) 5 (0, 0))) => rd_arr' hW (pad_byte n) L hL (by omega) : ∀ W : World, W.heap[gy]? = some (.cells (brow (pad n)) 5 (0, 0)) → Rd W (.slice (some ⟨gy, 0, none⟩) L L) (pad n))
          have HRZ := hide (fun W (hW : W.heap[gz]? = some (.cells (brow (pad m)) 5 (0, 0))) => rd_arr' hW (pad_byte m) M hM (by omega) : ∀ W : World, W.heap[gz]? = some (.cells (brow (pad m)) 5 (0, 0)) → Rd W (.slice (some ⟨gz, 0, none⟩) M M) (pad m))
          have HLn := hide hL
          have HMm := hide hM
          clear hL hM hx18 hy19 hz20 hs21
          go_wp2_with fail
          refine Calls.mono (ssame_any _ l1 (pad n) (pad n) w22 (unhide HRX _ (unhide HX22)) (unhide HP22)) ?_
          rintro e w23 ⟨rfl, n23, rfl⟩
          simp only [decide_true]
          go_wp2_with fail
          refine Calls.mono (ssame_any _ l1 (pad n) (pad n) (w22.drewN n23) (unhide HRY _ (unhide HY22)) (unhide HP22)) ?_
          rintro e w24 ⟨rfl, n24, rfl⟩
          simp only [decide_true]
          go_wp2_with fail
          refine Calls.mono (ssame_any _ l2 (pad m) (pad m) (w22.drewN (n23 + n24)) (unhide HRZ _ (unhide HZ22)) (unhide HN22)) ?_
          rintro e w25 ⟨rfl, n25, rfl⟩
          simp only [decide_true]
          go_wp2_with fail
          go_loopw [19] (fun t19 wq => ∃ (k3 : Nat) (X : List Nat), k3 ≤ L ∧ t19 = .int .i64 k3 ∧ Hid (Bts X L) ∧ Hid (wq.heap[gx]? = some (.cells (brow X) 5 (0, 0))) ∧ Hid (Kept [gx] w22 wq) ∧ Hid (Kept [] w wq)) (fun t _ => L - (intOf t).toNat)
          case atStart => exact ⟨0, pad n, Nat.zero_le _, rfl, hide ⟨unhide HLn, pad_byte n⟩, HX22, hide ((Kept.refl [gx] w22).drewN _), hide ((unhide HK22).drewN _)⟩
          case round =>
            obtain ⟨k3, X, hk3, rfl, HXB, HXr, HKx3, HK3'⟩ := hrel
            by_cases hlt3 : k3 < L
            · have hlt3' : (k3 : Int) < (L : Int) := by omega
              have cg := brow_cell (unhide HXr) k3 (by rw [(unhide HXB).1]; exact hlt3)
              have fr : wr.frozen? ⟨gx, k3, none⟩ = false := frozen_of_row _ _ _ _ _ (unhide HXr)
              have HCN := hide ((unhide HXB).set k3 1 (by decide))
              have HGN := hide (brow_setCell (unhide HXr) k3 1)
              have HKxN := hide ((unhide HKx3).setCell (p := ⟨gx, k3, none⟩) (by simp) (Go.Proofs.YtnimfbbhhdgepabDoor.u8 1))
              have HKN := hide ((unhide HK3').setCell (p := ⟨gx, k3, none⟩) (Or.inr (unhide Hgx)) (Go.Proofs.YtnimfbbhhdgepabDoor.u8 1))
              go_wp2
              go_roundw
              case rel => exact ⟨k3 + 1, _, by omega, by go_num, HCN, HGN, HKxN, HKN⟩
              case measure => simp [intOf]; omega
            · have hlt3' : ¬ (k3 : Int) < (L : Int) := by omega
              have HO0 := hide (by have := own_fresh' (bs := X) (unhide HXr) (by rw [(unhide HXB).1]; omega); rw [(unhide HXB).1] at this; exact this : wr.ownsRow gx 5 1 (.slice (some ⟨gx, 0, none⟩) L L) L (X.map Go.Proofs.YtnimfbbhhdgepabDoor.u8))
              have HOB0 := hide (fun k hk => Or.inl (by cases hk; rfl) : ∀ k, (Value.slice (some ⟨gx, 0, none⟩) L L).ownBlock = some k → k = gx ∨ w22.heap.size ≤ k)
              have HX0 := HXB
              go_wp2_with fail
              go_loopw [20, 21] (fun t20 t21 wq => ∃ (k4 : Nat) (ao : Option Addr) (cap : Nat) (Y : List Nat), k4 ≤ 80 ∧ t20 = .slice ao (L + k4) cap ∧ t21 = .int .i64 k4 ∧ Hid (Bts Y (L + k4)) ∧ Hid (wq.ownsRow gx 5 1 (.slice ao (L + k4) cap) (L + k4) (Y.map Go.Proofs.YtnimfbbhhdgepabDoor.u8)) ∧ Hid (∀ k, (Value.slice ao (L + k4) cap).ownBlock = some k → k = gx ∨ w22.heap.size ≤ k) ∧ Hid (Kept [gx] w22 wq) ∧ Hid (Kept [] w wq)) (fun _ t _ => 80 - (intOf t).toNat)
              case atStart => exact ⟨0, _, _, X, Nat.zero_le _, rfl, rfl, HX0, HO0, HOB0, HKx3, HK3'⟩
              case round =>
                clear HX0 HO0 HOB0 HKx3 HK3' HXB HXr
                obtain ⟨k4, ao, cap, Y, hk4, rfl, rfl, HYB, HYO, HOB, HKx4, HK4'⟩ := hrel
                have hxw : gx ≤ wr.heap.size := by have := (unhide HKx4).size; have := lt_of_block (unhide HX22); omega
                by_cases hlt4 : k4 < 80
                · have hlt4' : (k4 : Int) < 80 := by omega
                  have HYl := hide (unhide HYB).1
                  have HO' := hide (by rw [(unhide HYB).1]; exact unhide HYO : wr.ownsRow gx 5 1 (.slice ao (L + k4) cap) Y.length (Y.map Go.Proofs.YtnimfbbhhdgepabDoor.u8))
                  have HRs := hide (rd_lit (heap_alloc_new wr (.cells #[.int .u8 2] 5)) rfl (by simp) 1 rfl (by omega) : Rd (wr.alloc (.cells #[.int .u8 2] 5)) (.slice (some ⟨wr.heap.size, 0, none⟩) 1 1) [2])
                  go_wp2_with (at_builtin; go_must (refine wpList_appendAll rfl _ _ rfl rfl _ gx (.slice ao (L + k4) cap) Y [2] _ 1 1 (by exact (unhide HO').alloc _) (by exact unhide HRs) (by rw [unhide HYl]; simp; omega) (by simp; omega) rfl rfl ?_; intro ao1 cap1 w27 HO1 HG1 HA1; rw [unhide HYl] at HO1 HA1 ⊢; simp only [List.length_cons, List.length_nil, Nat.zero_add] at HO1 HA1 ⊢))
                  have HKx5 := hide (((unhide HKx4).alloc (.cells #[.int .u8 2] 5)).grown (unhide HG1) (fun k hk => by rcases unhide HOB k hk with h | h; left; simp [h]; right; exact h))
                  have HK5' := hide (((unhide HK4').alloc (.cells #[.int .u8 2] 5)).grown (unhide HG1) (fun k hk => Or.inr (by rcases unhide HOB k hk with h | h; rw [h]; exact unhide Hgx; have := (unhide HK22).size; omega)))
                  have HYB5 := hide (⟨by rw [List.length_append, (unhide HYB).1]; simp; omega, fun x hx => by rcases List.mem_append.1 hx with h | h; exact (unhide HYB).2 x h; simp at h; omega⟩ : Bts (Y ++ [2]) (L + (k4 + 1)))
                  have HYO5 := hide (by have h5 := unhide HO1; rw [List.length_append, (unhide HYB).1] at h5; simpa [Nat.add_assoc] using h5 : w27.ownsRow gx 5 1 (.slice ao1 (L + (k4 + 1)) cap1) (L + (k4 + 1)) ((Y ++ [2]).map Go.Proofs.YtnimfbbhhdgepabDoor.u8))
                  have HOB5 := hide (fun k hk => by
                    rcases unhide HA1 with h | h
                    · exact unhide HOB k (h.symm.trans hk)
                    · right
                      have h7 := h.symm.trans hk
                      have h8 := (unhide HKx4).size
                      simp at h7
                      omega : ∀ k, (Value.slice ao1 (L + (k4 + 1)) cap1).ownBlock = some k → k = gx ∨ w22.heap.size ≤ k)
                  go_wp2
                  go_roundw
                  case rel => exact ⟨k4 + 1, ao1, cap1, _, by omega, by simp [Nat.add_assoc], by go_num, HYB5, HYO5, HOB5, HKx5, HK5'⟩
                  case measure => simp [intOf]; omega
                · have hlt4' : ¬ (k4 : Int) < 80 := by omega
                  have HYw := hide ((unhide HKx4).heap (unhide HY22) (by have := unhide Hne; simp; omega))
                  have HZw := hide ((unhide HKx4).heap (unhide HZ22) (by have := unhide Hne; simp; omega))
                  have HPw := hide ((unhide HP22).kept (unhide HKx4) (fun x hx => by have := unhide HB21 x hx; have := unhide Hne; simp; omega))
                  have HNw := hide ((unhide HN22).kept (unhide HKx4) (fun x hx => by have := unhide HB22 x hx; have := unhide Hne; simp; omega))
                  go_wp2_with fail
                  refine Calls.mono (ssame_any _ l1 (pad n) (pad n) wr (unhide HRY _ (unhide HYw)) (unhide HPw)) ?_
                  rintro e w28 ⟨rfl, n28, rfl⟩
                  simp only [decide_true]
                  go_wp2_with fail
                  refine Calls.mono (ssame_any _ l2 (pad m) (pad m) (wr.drewN n28) (unhide HRZ _ (unhide HZw)) (unhide HNw)) ?_
                  rintro e w29 ⟨rfl, n29, rfl⟩
                  simp only [decide_true]
                  go_wp2_with fail
                  refine Calls.mono (padding_any n (wr.drewN (n28 + n29)) hn) ?_
                  rintro e w30 ⟨rfl, h30, k30⟩
                  rw [unhide HLn]
                  have HF30 := hide (rd_arr' h30 (pad_byte n) L (unhide HLn) (by omega))
                  have HP30 := hide ((unhide HPw).old (L := []) (((Kept.refl [] wr).drewN (n28 + n29)).trans k30 (by simp)) (by simp))
                  have HK30 := hide (((unhide HK4').drewN (n28 + n29)).trans k30 (by simp))
                  clear k30 h30
                  go_wp2_with fail
                  refine Calls.mono (ssame_any _ l1 (pad n) (pad n) w30 (unhide HF30) (unhide HP30)) ?_
                  rintro e w31 ⟨rfl, n31, rfl⟩
                  simp only [decide_true]
                  go_wp2
                  go_ret
                  exact ⟨rfl, ((unhide HK30).drewN n31).below (Nat.le_refl _) (by simp)⟩
end Go.Proofs.YtnimfbbhhdgepabDoor
