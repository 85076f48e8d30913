import Derived.Test.YtbbjbpjpejekgaaDoorSSch
namespace Go.Proofs.YtbbjbpjpejekgaaDoor
open Go.RowKit
set_option linter.unusedVariables false
set_option linter.unusedSimpArgs false

theorem compl32 (c : Nat) (hc : c < 4294967296) : bits .xor .u32 IntKind.u32.max (c : Int) = ((c ^^^ 4294967295 : Nat) : Int) := by
  rw [show IntKind.u32.max = ((4294967295 : Nat) : Int) from rfl, u32_xor_nat _ _ (by decide) hc, Nat.xor_comm]
/-- The table of the round words. -/
def KTab (w : World) : Prop := ∀ i, i < 64 → w.cell? ⟨1, i, none⟩ = some (wv (kt.getD i 0))
theorem KTab.kept {w w' : World} (h : KTab w) (k : Kept [] w w') : KTab w' := fun j hj => k.cell (h j hj) (by simp)

set_option maxRecDepth 100000 in
set_option maxHeartbeats 1000000 in
theorem compress_any (h b : List Nat) (w : World) (hh : Wds h) (hl : b.length = 64) (hb : ∀ x ∈ b, x < 256) (hT : KTab w) :
    Calls Tryd.prog 81 #[.agg (row h), .agg (brow b)] w fun e w' => e = .returned (.agg (row (comp h b))) ∧ Kept [] w w' := by
  have HH := hide hh
  have HB := hide hb
  have HT := hide hT
  clear hh hb hT
  go_enter Tryd.func81, Tryd.ntmps81
  go_wp2_with (rw [zw8]; refine wpList_load_row rfl 115 (.tmp 3) rfl (w.heap.size + 1) rfl _ (brow b) (0, 0) _ (heap_alloc3 _ _ _ _).2.1 Tryd.underlying115 rfl (by rw [brow_size, hl]; exact Tryd.size_a64b) ?_)
  refine (schedule_any b _ hl (unhide HB)).mono ?_
  rintro e w1 ⟨ws, rfl, wl, wg, k1⟩
  have HA := hide (k1.heap (heap_alloc3 w (.cells (row h) 114) (.cells (brow b) 115) (.cells (zw 8) 114)).1 (by simp))
  have HZ := hide (k1.heap (heap_alloc3 w (.cells (row h) 114) (.cells (brow b) 115) (.cells (zw 8) 114)).2.2 (by simp))
  have HK1 := hide (((((Kept.refl [] w).alloc (.cells (row h) 114)).alloc (.cells (brow b) 115)).alloc (.cells (zw 8) 114)).trans k1 (by simp))
  have HW := hide wg
  have Hs1 := hide (show w.heap.size + 1 + 1 < w1.heap.size by have := k1.size; simp at this; omega)
  clear k1 wg
  go_wp2_with (rw [zw64]; refine wpList_store_row rfl 124 _ _ rfl w1.heap.size (row ws) rfl rfl _ (zw 64) (heap_alloc_new _ _) (by rw [row_size, wl]; exact Tryd.size_a64w) (by rw [zw_size, row_size, wl]) (row_one _) ?_)
  obtain ⟨W, hW⟩ : ∃ W, (w1.alloc (.cells (zw 64) 124)).setRow w1.heap.size (row ws) = W := ⟨_, rfl⟩
  obtain ⟨gw, hgw⟩ : ∃ gw, w1.heap.size = gw := ⟨_, rfl⟩
  have HK2 := hide (by rw [← hW]; exact ((unhide HK1).alloc _).setRow (Or.inr (by have := unhide Hs1; omega)) _ : Kept [] w W)
  have HR2 := hide (by rw [← hW, ← hgw]; exact setRow_heap _ _ _ _ _ _ (heap_alloc_new _ _) : W.heap[gw]? = some (.cells (row ws) 124 (0, 0)))
  have HA2 := hide (by rw [← hW, setRow_other _ _ _ _ (by have := unhide Hs1; omega), heap_alloc_old _ _ (by have := unhide Hs1; omega)]; exact unhide HA : W.heap[w.heap.size]? = some (.cells (row h) 114 (0, 0)))
  have HZ2 := hide (by rw [← hW, setRow_other _ _ _ _ (by have := unhide Hs1; omega), heap_alloc_old _ _ (by have := unhide Hs1; omega)]; exact unhide HZ : W.heap[w.heap.size + 1 + 1]? = some (.cells (zw 8) 114 (0, 0)))
  rw [hW, hgw]
  clear hW hgw HA HZ HK1 Hs1
  have hlh := (unhide HH).1
  have c0 := row_cell (unhide HA2) 0 (by omega)
  have c1 := row_cell (unhide HA2) 1 (by omega)
  have c2 := row_cell (unhide HA2) 2 (by omega)
  have c3 := row_cell (unhide HA2) 3 (by omega)
  have c4 := row_cell (unhide HA2) 4 (by omega)
  have c5 := row_cell (unhide HA2) 5 (by omega)
  have c6 := row_cell (unhide HA2) 6 (by omega)
  have c7 := row_cell (unhide HA2) 7 (by omega)
  have HL := hide hlh
  clear hlh
  have HOK := hide (rg_ok (unhide HH))
  obtain ⟨x0, e0⟩ : ∃ x0, h.getD 0 0 = x0 := ⟨_, rfl⟩
  obtain ⟨x1, e1⟩ : ∃ x1, h.getD 1 0 = x1 := ⟨_, rfl⟩
  obtain ⟨x2, e2⟩ : ∃ x2, h.getD 2 0 = x2 := ⟨_, rfl⟩
  obtain ⟨x3, e3⟩ : ∃ x3, h.getD 3 0 = x3 := ⟨_, rfl⟩
  obtain ⟨x4, e4⟩ : ∃ x4, h.getD 4 0 = x4 := ⟨_, rfl⟩
  obtain ⟨x5, e5⟩ : ∃ x5, h.getD 5 0 = x5 := ⟨_, rfl⟩
  obtain ⟨x6, e6⟩ : ∃ x6, h.getD 6 0 = x6 := ⟨_, rfl⟩
  obtain ⟨x7, e7⟩ : ∃ x7, h.getD 7 0 = x7 := ⟨_, rfl⟩
  have HX := hide (by unfold rg; rw [e0, e1, e2, e3, e4, e5, e6, e7] : rg h = ⟨x0, x1, x2, x3, x4, x5, x6, x7⟩)
  have HCO := hide (by unfold comp addH; rw [e0, e1, e2, e3, e4, e5, e6, e7] : comp h b = [(x0 + (rounds b (rg h) 64).a) % 4294967296, (x1 + (rounds b (rg h) 64).b) % 4294967296, (x2 + (rounds b (rg h) 64).c) % 4294967296, (x3 + (rounds b (rg h) 64).d) % 4294967296, (x4 + (rounds b (rg h) 64).e) % 4294967296, (x5 + (rounds b (rg h) 64).f) % 4294967296, (x6 + (rounds b (rg h) 64).g) % 4294967296, (x7 + (rounds b (rg h) 64).h) % 4294967296])
  rw [e0] at c0
  rw [e1] at c1
  rw [e2] at c2
  rw [e3] at c3
  rw [e4] at c4
  rw [e5] at c5
  rw [e6] at c6
  rw [e7] at c7
  clear e0 e1 e2 e3 e4 e5 e6 e7
  go_quiet (fail)
  go_wp2
  go_loopw [6, 7, 8, 9, 10, 11, 12, 13, 35] (fun t6 t7 t8 t9 t10 t11 t12 t13 t35 wr => ∃ (k a b' c d e f g h' n : Nat), k ≤ 64 ∧ t6 = .int .u32 a ∧ t7 = .int .u32 b' ∧ t8 = .int .u32 c ∧ t9 = .int .u32 d ∧ t10 = .int .u32 e ∧ t11 = .int .u32 f ∧ t12 = .int .u32 g ∧ t13 = .int .u32 h' ∧ t35 = .int .i64 k ∧ Hid (Rg.ok ⟨a, b', c, d, e, f, g, h'⟩) ∧ Hid (⟨a, b', c, d, e, f, g, h'⟩ = rounds b (rg h) k) ∧ wr = W.drewN n) (fun _ _ _ _ _ _ _ _ t _ => 64 - (intOf t).toNat)
  case atStart => exact ⟨0, x0, x1, x2, x3, x4, x5, x6, x7, _, by omega, rfl, rfl, rfl, rfl, rfl, rfl, rfl, rfl, rfl, hide (by rw [← unhide HX]; exact unhide HOK), hide (unhide HX).symm, rfl⟩
  case round =>
    obtain ⟨k, a, b', c, d, e, f, g, h', n, hk, rfl, rfl, rfl, rfl, rfl, rfl, rfl, rfl, rfl, HO, HS, rfl⟩ := hrel
    obtain ⟨oa, ob, oc, od, oe, of_, og, oh⟩ := unhide HO
    by_cases hlt : k < 64
    · have hlt' : (k : Int) < 64 := by omega
      have cK := (unhide HT).kept (unhide HK2) k hlt
      have cW := row_cell (unhide HR2) k (by rw [wl]; exact hlt)
      rw [unhide HW k hlt] at cW
      have HN := hide (by rw [unhide HS]; rfl : rnd (kt.getD k 0) (wd b k) ⟨a, b', c, d, e, f, g, h'⟩ = rounds b (rg h) (k + 1))
      have HNO := hide (rnd_ok (k := kt.getD k 0) (w := wd b k) (unhide HO))
      have lK := kt_lt k hlt
      have lW := wd_lt b (unhide HB) k
      generalize kt.getD k 0 = K at cK HN HNO lK
      generalize wd b k = V at cW HN HNO lW
      have tE : ∀ W', Calls Tryd.prog 90 #[.int .u32 e, .int .i64 6, .int .i64 11, .int .i64 25] W' fun x w' => x = .returned (.int .u32 (bs1 e : Nat)) ∧ w' = W' := fun W' => turned_any e 6 11 25 W' oe (by decide) (by decide) (by decide)
      have tA : ∀ W', Calls Tryd.prog 90 #[.int .u32 a, .int .i64 2, .int .i64 13, .int .i64 22] W' fun x w' => x = .returned (.int .u32 (bs0 a : Nat)) ∧ w' = W' := fun W' => turned_any a 2 13 22 W' oa (by decide) (by decide) (by decide)
      have TE := hide tE
      have TA := hide tA
      clear tE tA
      have f1 : bits .and .u32 (e : Int) (f : Int) = ((e &&& f : Nat) : Int) := u32_and_nat e f oe of_
      have f2 := compl32 e oe
      have f3 : bits .and .u32 ((e ^^^ 4294967295 : Nat) : Int) (g : Int) = (((e ^^^ 4294967295) &&& g : Nat) : Int) := u32_and_nat _ g (chi_lt oe) og
      have f4 : bits .xor .u32 ((e &&& f : Nat) : Int) (((e ^^^ 4294967295) &&& g : Nat) : Int) = (cho e f g : Nat) := u32_xor_nat _ _ (alt oe) (alt (chi_lt oe))
      have f5 : bits .and .u32 (a : Int) (b' : Int) = ((a &&& b' : Nat) : Int) := u32_and_nat a b' oa ob
      have f6 : bits .and .u32 (a : Int) (c : Int) = ((a &&& c : Nat) : Int) := u32_and_nat a c oa oc
      have f7 : bits .and .u32 (b' : Int) (c : Int) = ((b' &&& c : Nat) : Int) := u32_and_nat b' c ob oc
      have f8 : bits .xor .u32 ((a &&& b' : Nat) : Int) ((a &&& c : Nat) : Int) = (((a &&& b') ^^^ (a &&& c) : Nat) : Int) := u32_xor_nat _ _ (alt oa) (alt oa)
      have f9 : bits .xor .u32 (((a &&& b') ^^^ (a &&& c) : Nat) : Int) ((b' &&& c : Nat) : Int) = (maj a b' c : Nat) := u32_xor_nat _ _ (xlt (alt oa) (alt oa)) (alt ob)
      have hsg : IntKind.u32.signed = false := rfl
      go_wp2_with fail
      go_quiet (first | (go_at_call 90; exact (unhide TE _).mono (fun x w' hx => ⟨hx.1, _, hx.2⟩)))
      go_wp2_with fail
      refine (unhide TA _).mono ?_
      rintro x1' w2 ⟨rfl, hw2⟩
      subst hw2
      go_wp2
      go_roundw
      case rel => exact ⟨k + 1, (t1 K V ⟨a, b', c, d, e, f, g, h'⟩ + t2 ⟨a, b', c, d, e, f, g, h'⟩) % 4294967296, a, b', c, (d + t1 K V ⟨a, b', c, d, e, f, g, h'⟩) % 4294967296, e, f, g, _, by omega, by simp only [t1, t2]; congr 1 <;> omega, rfl, rfl, rfl, by simp only [t1]; congr 1 <;> omega, rfl, rfl, rfl, by go_num, HNO, HN, rfl⟩
      case measure => simp [intOf]; omega
    · have hlt' : ¬ (k : Int) < 64 := by omega
      have hk64 : k = 64 := by omega
      subst hk64
      have HF := hide (by have := unhide HCO; rw [← unhide HS] at this; exact this : comp h b = [(x0 + a) % 4294967296, (x1 + b') % 4294967296, (x2 + c) % 4294967296, (x3 + d) % 4294967296, (x4 + e) % 4294967296, (x5 + f) % 4294967296, (x6 + g) % 4294967296, (x7 + h') % 4294967296])
      have HRW := hide (by rw [unhide HF]; simp [row] : row (comp h b) = #[.int .u32 (((x0 : Int) + a) % 4294967296), .int .u32 (((x1 : Int) + b') % 4294967296), .int .u32 (((x2 : Int) + c) % 4294967296), .int .u32 (((x3 : Int) + d) % 4294967296), .int .u32 (((x4 : Int) + e) % 4294967296), .int .u32 (((x5 : Int) + f) % 4294967296), .int .u32 (((x6 : Int) + g) % 4294967296), .int .u32 (((x7 : Int) + h') % 4294967296)])
      go_wp2_with (rw [← unhide HRW]; refine wpList_store_row rfl 114 (.tmp 4) _ rfl (w.heap.size + 1 + 1) (row (comp h b)) rfl rfl _ (zw 8) (unhide HZ2) (by rw [row_size]; exact Tryd.size_a8) (by rw [zw_size, row_size]; rfl) (row_one _) ?_)
      refine bodyPost_ret (v := .agg (row (comp h b))) ?_ rfl ⟨rfl, ((unhide HK2).drewN _).setRow (Or.inr (by omega)) _⟩
      exact results_cell_row rfl _ _ (w.heap.size + 1 + 1) _ (row (comp h b)) (0, 0) _ rfl (setRow_heap _ _ _ _ _ _ (unhide HZ2)) Tryd.underlying114 rfl (by rw [row_size]; exact Tryd.size_a8)
end Go.Proofs.YtbbjbpjpejekgaaDoor
