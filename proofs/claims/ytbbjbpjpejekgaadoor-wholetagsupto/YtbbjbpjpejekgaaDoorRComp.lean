import Derived.Test.YtbbjbpjpejekgaaDoorRSpread
import Derived.Test.YtbbjbpjpejekgaaDoorRRing
namespace Go.Proofs.YtbbjbpjpejekgaaDoor
open Go.RowKit Go.BigFrame
set_option linter.unusedVariables false
set_option linter.unusedSimpArgs false

theorem place0 {o p : Nat} (e : o % 8 = p) : Int.tmod (o : Int) 8 = (p : Int) ∧ (p : Int) < 8 ∧ p < 8 := by
  rw [Int.tmod_eq_emod_of_nonneg (by omega)]; omega
theorem placej {o p : Nat} (j : Nat) (e : (o + j) % 8 = p) : Int.tmod ((o : Int) + (j : Int)) 8 = (p : Int) ∧ (p : Int) < 8 ∧ p < 8 := by
  rw [Int.tmod_eq_emod_of_nonneg (by omega)]; omega
theorem olt {a b : Nat} (ha : a < 4294967296) (hb : b < 4294967296) : a ||| b < 4294967296 := Nat.or_lt_two_pow (n := 32) ha hb
theorem word5 {a b c d e t : Nat} (h : t = (a + b + c + d + e) % 4294967296) : ((a : Int) + b + c + d + e) % 4294967296 = (t : Int) := by omega
theorem word2 {a b t : Nat} (h : (a + b) % 4294967296 = t) : ((a : Int) + b) % 4294967296 = (t : Int) := by omega
theorem word3 {t z m u r : Nat} (hu : u = (z + m) % 4294967296) (h : (t + u) % 4294967296 = r) : ((t : Int) + z + m) % 4294967296 = (r : Int) := by omega
theorem place37 {o p q : Nat} (e : (o + 3) % 8 = p) (e' : (o + 7) % 8 = q) : p ≠ q := by omega

set_option maxRecDepth 100000 in
set_option maxHeartbeats 4000000 in
theorem refcomp_any (v : Value) (h b : List Nat) (w : World) (hh : Wds h) (hr : Rd w v b) (hl : b.length = 64) :
    Calls Tryd.prog 87 #[.agg (row h), v] w fun e w' => e = .returned (.agg (row (comp h b))) ∧ Kept [] w w' := by
  have HH := hide hh
  have HB := hide hr.byte
  have H := hide hr
  clear hh hr
  go_enter Tryd.func87, Tryd.ntmps87
  go_wp2_with fail
  rw [zw8]
  refine (spread_any v b _ ((unhide H).old (((Kept.refl [] w).alloc _).alloc _) (by simp)) hl).mono ?_
  rintro e w1 ⟨ws, rfl, wl, wg, k1⟩
  have HA := hide (k1.heap (heap_alloc2_old w (.cells (row h) 114) (.cells (zw 8) 114)) (by simp))
  have HZ := hide (k1.heap (heap_alloc2_new w (.cells (row h) 114) (.cells (zw 8) 114)) (by simp))
  have HK1 := hide ((((Kept.refl [] w).alloc (.cells (row h) 114)).alloc (.cells (zw 8) 114)).trans k1 (by simp))
  have HW := hide wg
  have Hs1 := hide (show w.heap.size + 1 < w1.heap.size by have := k1.size; simp at this; omega)
  clear k1 wg
  go_wp2_with (rw [zw64]; refine wpList_store_row rfl 124 _ _ rfl w1.heap.size (row ws) rfl rfl _ (zw 64) (heap_alloc_new _ _) (by rw [row_size, wl]; exact Tryd.size_a64w) (by rw [zw_size, row_size, wl]) (row_one _) ?_)
  obtain ⟨W1, hW⟩ : ∃ W, (w1.alloc (.cells (zw 64) 124)).setRow w1.heap.size (row ws) = W := ⟨_, rfl⟩
  obtain ⟨gw, hgw⟩ : ∃ gw, w1.heap.size = gw := ⟨_, rfl⟩
  have HK2 := hide (by rw [← hW]; exact ((unhide HK1).alloc _).setRow (Or.inr (by have := unhide Hs1; omega)) _ : Kept [] w W1)
  have HR2 := hide (by rw [← hW, ← hgw]; exact setRow_heap _ _ _ _ _ _ (heap_alloc_new _ _) : W1.heap[gw]? = some (.cells (row ws) 124 (0, 0)))
  have HA2 := hide (by rw [← hW, setRow_other _ _ _ _ (by have := unhide Hs1; omega), heap_alloc_old _ _ (by have := unhide Hs1; omega)]; exact unhide HA : W1.heap[w.heap.size]? = some (.cells (row h) 114 (0, 0)))
  have HZ2 := hide (by rw [← hW, setRow_other _ _ _ _ (by have := unhide Hs1; omega), heap_alloc_old _ _ (by have := unhide Hs1; omega)]; exact unhide HZ : W1.heap[w.heap.size + 1]? = some (.cells (zw 8) 114 (0, 0)))
  have Hs2 := hide (by have := lt_of_block (unhide HR2); have := unhide Hs1; omega : w.heap.size + 1 < gw ∧ gw < W1.heap.size)
  rw [hW, hgw]
  clear hW hgw HA HZ HK1 Hs1
  refine (words_any _).mono ?_
  rintro e w2 ⟨rfl, k2⟩
  have HK3 := hide ((unhide HK2).trans k2 (by simp))
  have HR3 := hide (k2.heap (unhide HR2) (by simp))
  have HA3 := hide (k2.heap (unhide HA2) (by simp))
  have HZ3 := hide (k2.heap (unhide HZ2) (by simp))
  have Hs3 := hide (by have := k2.size; have := unhide Hs2; omega : w.heap.size + 1 < gw ∧ gw < w2.heap.size)
  clear k2 HK2 HR2 HA2 HZ2 Hs2
  go_wp2_with (first
    | (rw [zw64]; refine wpList_store_row rfl 124 _ _ rfl w2.heap.size (row kt) rfl rfl _ (zw 64) (heap_alloc_new _ _) (by rw [row_size]; exact Tryd.size_a64w) (by rw [zw_size, row_size]; rfl) (row_one _) ?_)
    | (refine wpList_load_row rfl 114 (.tmp 2) rfl w.heap.size rfl _ (row h) (0, 0) _ (by rw [setRow_other _ _ _ _ (by have := unhide Hs3; omega), heap_alloc_old _ _ (by have := unhide Hs3; omega)]; exact unhide HA3) Tryd.underlying114 rfl (by rw [row_size, (unhide HH).1]; exact Tryd.size_a8) ?_)
    | (rw [zw8]; refine wpList_store_row rfl 114 _ _ rfl (w2.heap.size + 1) (row h) rfl rfl _ (zw 8) (by rw [show w2.heap.size + 1 = ((w2.alloc (.cells (zw 64) 124)).setRow w2.heap.size (row kt)).heap.size by simp [World.setRow]]; exact heap_alloc_new _ _) (by rw [row_size, (unhide HH).1]; exact Tryd.size_a8) (by rw [zw_size, row_size, (unhide HH).1]) (row_one _) ?_))
  obtain ⟨X, hX⟩ : ∃ X, (w2.alloc (.cells (zw 64) 124)).setRow w2.heap.size (row kt) = X := ⟨_, rfl⟩
  have HKX := hide (by rw [← hX]; exact ((unhide HK3).alloc _).setRow (Or.inr (by have := unhide Hs3; omega)) _ : Kept [] w X)
  have hXs : X.heap.size = w2.heap.size + 1 := by rw [← hX]; simp [World.setRow]
  have HXk := hide (by rw [← hX]; exact setRow_heap _ _ _ _ _ _ (heap_alloc_new _ _) : X.heap[w2.heap.size]? = some (.cells (row kt) 124 (0, 0)))
  have HXw := hide (by rw [← hX, setRow_other _ _ _ _ (by have := unhide Hs3; omega), heap_alloc_old _ _ (by have := unhide Hs3; omega)]; exact unhide HR3 : X.heap[gw]? = some (.cells (row ws) 124 (0, 0)))
  have HXh := hide (by rw [← hX, setRow_other _ _ _ _ (by have := unhide Hs3; omega), heap_alloc_old _ _ (by have := unhide Hs3; omega)]; exact unhide HA3 : X.heap[w.heap.size]? = some (.cells (row h) 114 (0, 0)))
  have HXz := hide (by rw [← hX, setRow_other _ _ _ _ (by have := unhide Hs3; omega), heap_alloc_old _ _ (by have := unhide Hs3; omega)]; exact unhide HZ3 : X.heap[w.heap.size + 1]? = some (.cells (zw 8) 114 (0, 0)))
  rw [hX]
  obtain ⟨gk, hgk⟩ : ∃ gk, w2.heap.size = gk := ⟨_, rfl⟩
  obtain ⟨gr, hgr⟩ : ∃ gr, gk + 1 = gr := ⟨_, rfl⟩
  rw [hgk] at HXk Hs3 hXs
  rw [hgr] at hXs
  have Hs4 := hide (by have := unhide Hs3; omega : w.heap.size + 1 < gw ∧ gw < gk ∧ gk < gr)
  obtain ⟨W, hW⟩ : ∃ W, (X.alloc (.cells (zw 8) 114)).setRow gr (row h) = W := ⟨_, rfl⟩
  have HK := hide (by rw [← hW]; exact ((unhide HKX).alloc _).setRow (Or.inr (by have := unhide Hs4; omega)) _ : Kept [] w W)
  have HRr := hide (by rw [← hW, ← hXs]; exact setRow_heap _ _ _ _ _ _ (heap_alloc_new _ _) : W.heap[gr]? = some (.cells (row h) 114 (0, 0)))
  have HRk := hide (by rw [← hW, setRow_other _ _ _ _ (by have := unhide Hs4; omega), heap_alloc_old _ _ (by rw [hXs]; have := unhide Hs4; omega)]; exact unhide HXk : W.heap[gk]? = some (.cells (row kt) 124 (0, 0)))
  have HRw := hide (by rw [← hW, setRow_other _ _ _ _ (by have := unhide Hs4; omega), heap_alloc_old _ _ (by rw [hXs]; have := unhide Hs4; omega)]; exact unhide HXw : W.heap[gw]? = some (.cells (row ws) 124 (0, 0)))
  have HRh := hide (by rw [← hW, setRow_other _ _ _ _ (by have := unhide Hs4; omega), heap_alloc_old _ _ (by rw [hXs]; have := unhide Hs4; omega)]; exact unhide HXh : W.heap[w.heap.size]? = some (.cells (row h) 114 (0, 0)))
  have HRz := hide (by rw [← hW, setRow_other _ _ _ _ (by have := unhide Hs4; omega), heap_alloc_old _ _ (by rw [hXs]; have := unhide Hs4; omega)]; exact unhide HXz : W.heap[w.heap.size + 1]? = some (.cells (zw 8) 114 (0, 0)))
  rw [hgk, hgr, hW]
  clear hW hgr hgk hXs hX HXk HXw HXh HXz HKX HK3 HR3 HA3 HZ3 Hs3
  go_loopw [8] (fun t8 wr => ∃ (k : Nat) (rs : List Nat), k ≤ 64 ∧ t8 = .int .i64 k ∧ Hid (Ring rs k (rounds b (rg h) k)) ∧ Hid (wr.heap[gr]? = some (.cells (row rs) 114 (0, 0))) ∧ Hid (wr.heap[gk]? = some (.cells (row kt) 124 (0, 0))) ∧ Hid (wr.heap[gw]? = some (.cells (row ws) 124 (0, 0))) ∧ Hid (wr.heap[w.heap.size]? = some (.cells (row h) 114 (0, 0))) ∧ Hid (wr.heap[w.heap.size + 1]? = some (.cells (zw 8) 114 (0, 0))) ∧ Hid (Kept [] w wr)) (fun t _ => 64 - (intOf t).toNat)
  case atStart => exact ⟨0, h, by omega, rfl, hide (Ring.first (unhide HH)), HRr, HRk, HRw, HRh, HRz, HK⟩
  case round =>
    clear HRr HRk HRw HRh HRz HK
    obtain ⟨k, rs, hk, rfl, HM, HRr, HRk, HRw, HRh, HRz, HK⟩ := hrel
    by_cases hlt : k < 64
    · have hlt' : (k : Int) < 64 := by omega
      obtain ⟨o, hko⟩ : ∃ o : Nat, k + o = 64 := ⟨64 - k, by omega⟩
      have hov : 64 - k = o := by omega
      have ho64 : (o : Int) ≤ 64 := by omega
      have hoi : (64 : Int) - (k : Int) = (o : Int) := by omega
      have hS := (unhide HM)
      have hok := rounds_ok (b := b) (rg_ok (unhide HH)) k
      have HN : Hid (∀ K V, rnd K V (rounds b (rg h) k) = rnd K V (rounds b (rg h) k)) := hide fun _ _ => rfl
      have HNX := hide (show rounds b (rg h) (k + 1) = rnd (kt.getD k 0) (wd b k) (rounds b (rg h) k) from rfl)
      generalize rounds b (rg h) k = S at hS hok HNX
      obtain ⟨a, b', c, d, e, f, g, h'⟩ := S
      obtain ⟨oa, ob, oc, od, oe, of_, og, oh⟩ := hok
      simp only at oa ob oc od oe of_ og oh
      have HST := hide (hS.step (kt.getD k 0) (wd b k) hlt)
      rw [hov] at HST
      obtain ⟨hlen, s0, s1, s2, s3, s4, s5, s6, s7⟩ := hS
      rw [hov] at s0 s1 s2 s3 s4 s5 s6 s7
      obtain ⟨p0, e0⟩ : ∃ p, o % 8 = p := ⟨_, rfl⟩
      obtain ⟨p1, e1⟩ : ∃ p, (o + 1) % 8 = p := ⟨_, rfl⟩
      obtain ⟨p2, e2⟩ : ∃ p, (o + 2) % 8 = p := ⟨_, rfl⟩
      obtain ⟨p3, e3⟩ : ∃ p, (o + 3) % 8 = p := ⟨_, rfl⟩
      obtain ⟨p4, e4⟩ : ∃ p, (o + 4) % 8 = p := ⟨_, rfl⟩
      obtain ⟨p5, e5⟩ : ∃ p, (o + 5) % 8 = p := ⟨_, rfl⟩
      obtain ⟨p6, e6⟩ : ∃ p, (o + 6) % 8 = p := ⟨_, rfl⟩
      obtain ⟨p7, e7⟩ : ∃ p, (o + 7) % 8 = p := ⟨_, rfl⟩
      obtain ⟨m0, i0, l0⟩ := place0 e0
      obtain ⟨m1, i1, l1⟩ : Int.tmod ((o : Int) + 1) 8 = (p1 : Int) ∧ (p1 : Int) < 8 ∧ p1 < 8 := placej 1 e1
      obtain ⟨m2, i2, l2⟩ : Int.tmod ((o : Int) + 2) 8 = (p2 : Int) ∧ (p2 : Int) < 8 ∧ p2 < 8 := placej 2 e2
      obtain ⟨m3, i3, l3⟩ : Int.tmod ((o : Int) + 3) 8 = (p3 : Int) ∧ (p3 : Int) < 8 ∧ p3 < 8 := placej 3 e3
      obtain ⟨m4, i4, l4⟩ : Int.tmod ((o : Int) + 4) 8 = (p4 : Int) ∧ (p4 : Int) < 8 ∧ p4 < 8 := placej 4 e4
      obtain ⟨m5, i5, l5⟩ : Int.tmod ((o : Int) + 5) 8 = (p5 : Int) ∧ (p5 : Int) < 8 ∧ p5 < 8 := placej 5 e5
      obtain ⟨m6, i6, l6⟩ : Int.tmod ((o : Int) + 6) 8 = (p6 : Int) ∧ (p6 : Int) < 8 ∧ p6 < 8 := placej 6 e6
      obtain ⟨m7, i7, l7⟩ : Int.tmod ((o : Int) + 7) 8 = (p7 : Int) ∧ (p7 : Int) < 8 ∧ p7 < 8 := placej 7 e7
      have c0 := row_cell (unhide HRr) p0 (Nat.lt_of_lt_of_eq l0 hlen.symm)
      have c1 := row_cell (unhide HRr) p1 (Nat.lt_of_lt_of_eq l1 hlen.symm)
      have c2 := row_cell (unhide HRr) p2 (Nat.lt_of_lt_of_eq l2 hlen.symm)
      have c3 := row_cell (unhide HRr) p3 (Nat.lt_of_lt_of_eq l3 hlen.symm)
      have c4 := row_cell (unhide HRr) p4 (Nat.lt_of_lt_of_eq l4 hlen.symm)
      have c5 := row_cell (unhide HRr) p5 (Nat.lt_of_lt_of_eq l5 hlen.symm)
      have c6 := row_cell (unhide HRr) p6 (Nat.lt_of_lt_of_eq l6 hlen.symm)
      have c7 := row_cell (unhide HRr) p7 (Nat.lt_of_lt_of_eq l7 hlen.symm)
      have cK := row_cell (unhide HRk) k (by simpa [kt] using hlt)
      have cW := row_cell (unhide HRw) k (Nat.lt_of_lt_of_eq hlt wl.symm)
      rw [unhide HW k hlt] at cW
      rw [← e0, s0] at c0
      rw [← e1, s1] at c1
      rw [← e2, s2] at c2
      rw [← e3, s3] at c3
      rw [← e4, s4] at c4
      rw [← e5, s5] at c5
      rw [← e6, s6] at c6
      rw [← e7, s7] at c7
      rw [e0] at c0
      rw [e1] at c1
      rw [e2] at c2
      rw [e3] at c3 HST
      rw [e4] at c4
      rw [e5] at c5
      rw [e6] at c6
      rw [e7] at c7 HST
      have n37 : p3 ≠ p7 := place37 e3 e7
      clear e0 e1 e2 e3 e4 e5 e6 e7 s0 s1 s2 s3 s4 s5 s6 s7 hov hko HM
      have lK := kt_lt k hlt
      have lW := wd_lt b (unhide HB) k
      generalize kt.getD k 0 = K at cK HST HNX lK
      generalize wd b k = V at cW HST HNX lW
      have f1 : bits .xor .u32 (f : Int) (g : Int) = ((f ^^^ g : Nat) : Int) := u32_xor_nat f g of_ og
      have f2 : bits .and .u32 (e : Int) ((f ^^^ g : Nat) : Int) = ((e &&& (f ^^^ g) : Nat) : Int) := u32_and_nat e _ oe (xlt of_ og)
      have f3 : bits .xor .u32 (g : Int) ((e &&& (f ^^^ g) : Nat) : Int) = (cho e f g : Nat) := by rw [u32_xor_nat g _ og (alt oe), chol_ref oe of_ og]
      have f4 : bits .and .u32 (a : Int) (b' : Int) = ((a &&& b' : Nat) : Int) := u32_and_nat a b' oa ob
      have f5 : bits .or .u32 (a : Int) (b' : Int) = ((a ||| b' : Nat) : Int) := u32_or_nat a b' oa ob
      have f6 : bits .and .u32 (c : Int) ((a ||| b' : Nat) : Int) = ((c &&& (a ||| b') : Nat) : Int) := u32_and_nat c _ oc (olt oa ob)
      have f7 : bits .or .u32 ((a &&& b' : Nat) : Int) ((c &&& (a ||| b') : Nat) : Int) = (maj a b' c : Nat) := by rw [u32_or_nat _ _ (alt oa) (alt oc), maj_ref]
      have g1 : bits .xor .u32 (rotr 6 e : Int) (rotr 11 e : Int) = ((rotr 6 e ^^^ rotr 11 e : Nat) : Int) := u32_xor_nat _ _ (rotr_lt (by omega) oe) (rotr_lt (by omega) oe)
      have g2 : bits .xor .u32 ((rotr 6 e ^^^ rotr 11 e : Nat) : Int) (rotr 25 e : Int) = (bs1 e : Nat) := u32_xor_nat _ _ (xlt (rotr_lt (by omega) oe) (rotr_lt (by omega) oe)) (rotr_lt (by omega) oe)
      have g3 : bits .xor .u32 (rotr 2 a : Int) (rotr 13 a : Int) = ((rotr 2 a ^^^ rotr 13 a : Nat) : Int) := u32_xor_nat _ _ (rotr_lt (by omega) oa) (rotr_lt (by omega) oa)
      have g4 : bits .xor .u32 ((rotr 2 a ^^^ rotr 13 a : Nat) : Int) (rotr 22 a : Int) = (bs0 a : Nat) := u32_xor_nat _ _ (xlt (rotr_lt (by omega) oa) (rotr_lt (by omega) oa)) (rotr_lt (by omega) oa)
      have T6 : Hid (∀ w, Calls Tryd.prog 93 #[wv e, .int .i64 6] w fun x w' => x = .returned (.int .u32 (rotr 6 e : Nat)) ∧ ∃ m, w' = w.drewN m) := hide fun w => turn_any e 6 w oe (by decide) (by decide)
      have T11 : Hid (∀ w, Calls Tryd.prog 93 #[wv e, .int .i64 11] w fun x w' => x = .returned (.int .u32 (rotr 11 e : Nat)) ∧ ∃ m, w' = w.drewN m) := hide fun w => turn_any e 11 w oe (by decide) (by decide)
      have T25 : Hid (∀ w, Calls Tryd.prog 93 #[wv e, .int .i64 25] w fun x w' => x = .returned (.int .u32 (rotr 25 e : Nat)) ∧ ∃ m, w' = w.drewN m) := hide fun w => turn_any e 25 w oe (by decide) (by decide)
      have T2 : Hid (∀ w, Calls Tryd.prog 93 #[wv a, .int .i64 2] w fun x w' => x = .returned (.int .u32 (rotr 2 a : Nat)) ∧ ∃ m, w' = w.drewN m) := hide fun w => turn_any a 2 w oa (by decide) (by decide)
      have T13 : Hid (∀ w, Calls Tryd.prog 93 #[wv a, .int .i64 13] w fun x w' => x = .returned (.int .u32 (rotr 13 a : Nat)) ∧ ∃ m, w' = w.drewN m) := hide fun w => turn_any a 13 w oa (by decide) (by decide)
      have T22 : Hid (∀ w, Calls Tryd.prog 93 #[wv a, .int .i64 22] w fun x w' => x = .returned (.int .u32 (rotr 22 a : Nat)) ∧ ∃ m, w' = w.drewN m) := hide fun w => turn_any a 22 w oa (by decide) (by decide)
      have lz1 := bs1_lt oe
      have lz0 := bs0_lt oa
      have lch := chol (f := f) (g := g) oe
      have lmj := majl (c := c) oa ob
      have ht1 : t1 K V ⟨a, b', c, d, e, f, g, h'⟩ = (h' + bs1 e + cho e f g + K + V) % 4294967296 := rfl
      have ht2 : t2 ⟨a, b', c, d, e, f, g, h'⟩ = (bs0 a + maj a b' c) % 4294967296 := rfl
      generalize t1 K V ⟨a, b', c, d, e, f, g, h'⟩ = T at ht1 HST
      generalize t2 ⟨a, b', c, d, e, f, g, h'⟩ = U at ht2 HST
      simp only at HST
      generalize bs1 e = z1 at g2 lz1 ht1
      generalize bs0 a = z0 at g4 lz0 ht2
      generalize cho e f g = ch at f3 lch ht1
      generalize maj a b' c = mj at f7 lmj ht2
      obtain ⟨D, hD⟩ : ∃ D, (d + T) % 4294967296 = D := ⟨_, rfl⟩
      obtain ⟨A, hA⟩ : ∃ A, (T + U) % 4294967296 = A := ⟨_, rfl⟩
      rw [hD, hA] at HST
      have v1 : ((h' : Int) + z1 + ch + K + V) % 4294967296 = (T : Int) := word5 ht1
      have v1' : (((h' : Int) + z1 + ch + K) % 4294967296 + V) % 4294967296 = (T : Int) := by rw [← v1]; omega
      have v2 : ((d : Int) + T) % 4294967296 = (D : Int) := word2 hD
      have v3 : ((T : Int) + z0 + mj) % 4294967296 = (A : Int) := word3 ht2 hA
      clear ht1 ht2 hD hA
      have HR1 := hide (by
        have h1 := heap_setCell_same wr gr p3 _ 114 (wv D) (unhide HRr)
        rw [row_set] at h1; exact h1 : (wr.setCell ⟨gr, p3, none⟩ (wv D)).heap[gr]? = some (.cells (row (rs.set p3 D)) 114 (0, 0)))
      have HR2 := hide (by
        have h1 := heap_setCell_same _ gr p7 _ 114 (wv A) (unhide HR1)
        rw [row_set] at h1; exact h1 : ((wr.setCell ⟨gr, p3, none⟩ (wv D)).setCell ⟨gr, p7, none⟩ (wv A)).heap[gr]? = some (.cells (row ((rs.set p3 D).set p7 A)) 114 (0, 0)))
      have fr1 : wr.frozen? ⟨gr, p3, none⟩ = false := frozen_of_row _ _ _ _ _ (unhide HRr)
      have fr2 : ∀ x y, (((wr.drewN x).setCell ⟨gr, p3, none⟩ (.int .u32 (D : Int))).drewN y).frozen? ⟨gr, p7, none⟩ = false := fun x y => frozen_of_row _ _ _ _ _ (unhide HR1)
      have c7' : ∀ x y, (((wr.drewN x).setCell ⟨gr, p3, none⟩ (.int .u32 (D : Int))).drewN y).cell? ⟨gr, p7, none⟩ = some (wv ((rs.set p3 D).getD p7 0)) := fun x y => row_cell (w := ((wr.drewN x).setCell ⟨gr, p3, none⟩ (.int .u32 (D : Int))).drewN y) (unhide HR1) p7 (by rw [List.length_set, hlen]; exact l7)
      have HRkN := hide ((heap_setCell_other (wr.setCell ⟨gr, p3, none⟩ (wv D)) ⟨gr, p7, none⟩ gk (wv A) (by have := unhide Hs4; simp only [ne_eq]; omega)).trans ((heap_setCell_other wr ⟨gr, p3, none⟩ gk (wv D) (by have := unhide Hs4; simp only [ne_eq]; omega)).trans (unhide HRk)))
      have HRwN := hide ((heap_setCell_other (wr.setCell ⟨gr, p3, none⟩ (wv D)) ⟨gr, p7, none⟩ gw (wv A) (by have := unhide Hs4; simp only [ne_eq]; omega)).trans ((heap_setCell_other wr ⟨gr, p3, none⟩ gw (wv D) (by have := unhide Hs4; simp only [ne_eq]; omega)).trans (unhide HRw)))
      have HRhN := hide ((heap_setCell_other (wr.setCell ⟨gr, p3, none⟩ (wv D)) ⟨gr, p7, none⟩ w.heap.size (wv A) (by have := unhide Hs4; simp only [ne_eq]; omega)).trans ((heap_setCell_other wr ⟨gr, p3, none⟩ w.heap.size (wv D) (by have := unhide Hs4; simp only [ne_eq]; omega)).trans (unhide HRh)))
      have HRzN := hide ((heap_setCell_other (wr.setCell ⟨gr, p3, none⟩ (wv D)) ⟨gr, p7, none⟩ (w.heap.size + 1) (wv A) (by have := unhide Hs4; simp only [ne_eq]; omega)).trans ((heap_setCell_other wr ⟨gr, p3, none⟩ (w.heap.size + 1) (wv D) (by have := unhide Hs4; simp only [ne_eq]; omega)).trans (unhide HRz)))
      go_wp2_with fail
      go_quiet (fail)
      go_wp2_with fail
      go_quiet (fail)
      go_wp2_with fail
      go_quiet (first | (go_at_call 93; with_reducible exact Calls.qd (unhide T6 _)) | (go_at_call 93; with_reducible exact Calls.qd (unhide T11 _)) | (go_at_call 93; with_reducible exact Calls.qd (unhide T25 _)))
      go_wp2_with fail
      rw [v1']
      refine (unhide T2 _).mono ?_
      rintro x2 w3 ⟨rfl, n2, rfl⟩
      go_wp2_with fail
      refine (unhide T13 _).mono ?_
      rintro x2 w3 ⟨rfl, n3, rfl⟩
      go_wp2_with fail
      refine (unhide T22 _).mono ?_
      rintro x2 w3 ⟨rfl, n4, rfl⟩
      go_wp2
      go_roundw
      case rel => exact ⟨k + 1, _, by omega, by go_num, hide (by rw [unhide HNX]; exact unhide HST), HR2, HRkN, HRwN, HRhN, HRzN, hide ((((((unhide HK).drewN _).setCell (p := ⟨gr, p3, none⟩) (Or.inr (by have := unhide Hs4; simp only; omega)) _).drewN _).setCell (p := ⟨gr, p7, none⟩) (Or.inr (by have := unhide Hs4; simp only; omega)) _))⟩
      case measure => simp [intOf]; omega
    · have hlt' : ¬ (k : Int) < 64 := by omega
      have hk64 : k = 64 := by omega
      subst hk64
      go_wp2
      go_loopw [19] (fun t19 wq => ∃ (j : Nat) (hs : List Nat), j ≤ 8 ∧ t19 = .int .i64 j ∧ Hid (hs.length = 8 ∧ ∀ i, i < 8 → hs.getD i 0 = if i < j then (h.getD i 0 + rs.getD i 0) % 4294967296 else h.getD i 0) ∧ Hid (wq.heap[gr]? = some (.cells (row rs) 114 (0, 0))) ∧ Hid (wq.heap[w.heap.size]? = some (.cells (row hs) 114 (0, 0))) ∧ Hid (wq.heap[w.heap.size + 1]? = some (.cells (zw 8) 114 (0, 0))) ∧ Hid (Kept [] w wq)) (fun t _ => 8 - (intOf t).toNat)
      case atStart => exact ⟨0, h, by omega, rfl, hide ⟨(unhide HH).1, by intro i hi; rw [if_neg (by omega)]⟩, HRr, HRh, HRz, HK⟩
      case round =>
        have HRing := HM
        clear HRr HRk HRw HRh HRz HK HM
        obtain ⟨j, hs, hj, rfl, HM, HRr, HRh, HRz, HK⟩ := hrel
        have hlr := (unhide HRing).len
        by_cases hlt2 : j < 8
        · have hlt2' : (j : Int) < 8 := by omega
          have cr := row_cell (unhide HRr) j (by omega)
          have chh := row_cell (unhide HRh) j (by rw [(unhide HM).1]; exact hlt2)
          rw [(unhide HM).2 j hlt2, if_neg (by omega)] at chh
          have HMN := hide (⟨by simpa using (unhide HM).1, fun i hi => by
            by_cases hij : i = j
            · subst hij; rw [getD_set_same _ _ _ (by rw [(unhide HM).1]; exact hi), if_pos (by omega)]
            · rw [getD_set_other _ _ _ _ hij, (unhide HM).2 i hi]
              by_cases h9 : i < j
              · rw [if_pos h9, if_pos (by omega)]
              · rw [if_neg h9, if_neg (by omega)]⟩ : (hs.set j ((h.getD j 0 + rs.getD j 0) % 4294967296)).length = 8 ∧ ∀ i, i < 8 → (hs.set j ((h.getD j 0 + rs.getD j 0) % 4294967296)).getD i 0 = if i < j + 1 then (h.getD i 0 + rs.getD i 0) % 4294967296 else h.getD i 0)
          generalize h.getD j 0 = x at chh HMN
          generalize rs.getD j 0 = y at cr HMN
          obtain ⟨z, hz⟩ : ∃ z, (x + y) % 4294967296 = z := ⟨_, rfl⟩
          rw [hz] at HMN
          have hzv : ((x : Int) + y) % 4294967296 = (z : Int) := word2 hz
          have fr : wr.frozen? ⟨w.heap.size, j, none⟩ = false := frozen_of_row _ _ _ _ _ (unhide HRh)
          have HNh := hide (by
            have h1 := heap_setCell_same wr w.heap.size j _ 114 (wv z) (unhide HRh)
            rw [row_set] at h1; exact h1 : (wr.setCell ⟨w.heap.size, j, none⟩ (wv z)).heap[w.heap.size]? = some (.cells (row (hs.set j z)) 114 (0, 0)))
          have HNr := hide ((heap_setCell_other wr ⟨w.heap.size, j, none⟩ gr (wv z) (by have := unhide Hs4; simp only [ne_eq]; omega)).trans (unhide HRr))
          have HNz := hide ((heap_setCell_other wr ⟨w.heap.size, j, none⟩ (w.heap.size + 1) (wv z) (by simp)).trans (unhide HRz))
          clear hz
          go_wp2_with fail
          refine wp_quiet_tail 7 (by kernel_rfl) (by kernel_rfl) ?_
          simp only [List.take_succ_cons, List.take_zero, List.drop_succ_cons, List.drop_zero]
          repeat (go_big_quiet_step (fail))
          refine wpQuiet_nil ?_
          intro _ hw'
          obtain ⟨n1, hw''⟩ := hw'
          subst hw''
          have HKN := hide (((unhide HK).drewN n1).setCell (p := ⟨w.heap.size, j, none⟩) (Or.inr (by simp)) (wv z))
          go_wp2
          go_roundw
          case rel => exact ⟨j + 1, _, by omega, by go_num, HMN, HNr, HNh, HNz, HKN⟩
          case measure => simp [intOf]; omega
        · have hlt2' : ¬ (j : Int) < 8 := by omega
          have hj8 : j = 8 := by omega
          subst hj8
          have hfin : hs = comp h b := Ring.last (unhide HRing) (unhide HM).1 (fun i hi => by rw [(unhide HM).2 i hi, if_pos hi])
          subst hfin
          go_wp2_with (first
            | (refine wpList_load_row rfl 114 (.tmp 2) rfl w.heap.size rfl _ (row (comp h b)) (0, 0) _ (unhide HRh) Tryd.underlying114 rfl (by rw [row_size]; exact Tryd.size_a8) ?_)
            | (refine wpList_store_row rfl 114 (.tmp 4) _ rfl (w.heap.size + 1) (row (comp h b)) rfl rfl _ (zw 8) (unhide HRz) (by rw [row_size]; exact Tryd.size_a8) (by rw [zw_size, row_size]; rfl) (row_one _) ?_))
          refine bodyPost_ret (v := .agg (row (comp h b))) ?_ rfl ⟨rfl, (unhide HK).setRow (by simp) _⟩
          exact results_cell_row rfl _ _ (w.heap.size + 1) _ (row (comp h b)) (0, 0) _ rfl (setRow_heap _ _ _ _ _ _ (unhide HRz)) Tryd.underlying114 rfl (by rw [row_size]; exact Tryd.size_a8)
end Go.Proofs.YtbbjbpjpejekgaaDoor
