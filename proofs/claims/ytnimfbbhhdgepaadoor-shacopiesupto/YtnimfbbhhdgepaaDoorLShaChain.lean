import Derived.Test.YtnimfbbhhdgepaaDoorLShaSums
import Derived.Test.YtnimfbbhhdgepaaDoorSPad
namespace Go.Proofs.YtnimfbbhhdgepaaDoor
open Go.RowKit Go.BigFrame
set_option linter.unusedVariables false
set_option linter.unusedSimpArgs false

theorem own_fresh {w : World} {g : Nat} {bs : List Nat} (h : w.heap[g]? = some (.cells (bs.map u8).toArray 5 (0, 0))) (hl : bs.length ≤ 140737488355328) : w.ownsRow g 5 1 (.slice (some ⟨g, 0, none⟩) bs.length bs.length) bs.length (bs.map u8) :=
  ⟨by simp, Or.inr ⟨g, bs.length, _, rfl, Nat.le_refl _, h, Nat.le_refl _, by unfold maxLen; omega, by simp, List.take_of_length_le (by simp)⟩⟩

theorem run_copy64 (w : World) (g b o c : Nat) (q : List Nat) (hq : q.length = 64) (cur : Array Value) (hcur : cur.size = 64) (t : TypeId) (hg : w.heap[g]? = some (.cells cur t (0, 0))) (hr : Rd w (.slice (some ⟨b, o, none⟩) 64 c) q) :
    (Builtin.copy_ #[22, 22] 3 #[.slice (some ⟨g, 0, none⟩) 64 64, .slice (some ⟨b, o, none⟩) 64 c]).run Tryd.prog w = .ok (goInt 64) (w.setRow g (brow q)) := by
  have hcs : (q.map u8).length = 64 := by simp [hq]
  have h1 := run_copy_row (P := Tryd.prog) w 22 22 3 5 g 0 64 64 ⟨b, o, none⟩ 64 c cur t (q.map u8) Tryd.underlying22 Tryd.size5 hg (by rw [hcs]; rfl)
    (fun j v hv => by
      obtain ⟨ad, e, hc⟩ := hr.src (by rw [hcs]; decide)
      cases e
      exact hc j v hv) (by rw [hcs, hcur]; decide) (u8_oneCell q)
  rw [hcs] at h1
  rw [h1]
  congr 2
  have : cur.toList.drop (0 + 64) = [] := List.drop_eq_nil_of_le (by simp [hcur])
  rw [this]; simp [brow]

theorem Tryd.sizeByte : (Tryd.prog.info? 5).map (·.size) = some 1 := by kernel_rfl
theorem run_index_b32 (ms : List Nat) (k : Nat) (w : World) (hl : ms.length = 32) (hk : k < 32) : (Instr.index 24 (.agg (brow ms)) (.int .i64 k)).run Tryd.prog w = .ok (u8 (ms.getD k 0)) w := by
  have h1 : (sizeOf 5).run Tryd.prog w = .ok 1 w := by
    cases hq : Tryd.prog.info? 5 with
    | none => have := Tryd.sizeByte; rw [hq] at this; cases this
    | some i => have := Tryd.sizeByte; rw [hq] at this; simp at this; simp [sizeOf, typeInfo, hq, this]
  have h2 : (isAgg 5).run Tryd.prog w = .ok false w := by
    unfold isAgg
    rw [Sem.run_bind, run_underlying Tryd.underlying5 w]; simp
  have hg := brow_get ms k (by omega)
  simp [Instr.index, asIntOf, run_underlying Tryd.underlying24, Sem.run_bind, part, h1, h2, hg, go_sem]
  omega

set_option maxRecDepth 100000 in
set_option maxHeartbeats 4000000 in
theorem shaChain_walk (v : Value) (p : List Nat) (w : World) (h : Rd w v p) (hl : p.length ≤ 140737488351232) (hT : Tabs w) :
    Calls Tryd.prog 8 #[v] w fun e w' => e = .returned (.bool true) ∧ Below w.heap.size w w' := by
  have H := hide h
  have HT := hide hT
  obtain ⟨ao, len, cap, rfl, hlen, h2, ⟨h3, h3'⟩, h4, h5, h6⟩ := h
  subst hlen
  clear hT h4 h5 h6
  go_enter Tryd.func8, Tryd.ntmps8
  go_wp2_with fail
  refine (shaAwake_any w (unhide HT)).mono ?_
  rintro e w1 ⟨rfl, k1⟩
  have HK1 := hide k1
  clear k1
  go_wp2_with fail
  refine (first_any _).mono ?_
  rintro e w2 ⟨rfl, k2⟩
  have HK2 := hide ((unhide HK1).trans k2 (by simp))
  clear k2
  go_wp2_with (first
    | (rw [zw8]; refine wpList_store_row rfl 30 _ _ rfl w2.heap.size (row h0) rfl rfl _ (zw 8) (heap_alloc_new _ _) (by rw [row_size]; exact Tryd.size_a8) (by rw [zw_size, row_size]; rfl) (row_one _) ?_))
  obtain ⟨W2, hW⟩ : ∃ W, (w2.alloc (.cells (zw 8) 30)).setRow w2.heap.size (row h0) = W := ⟨_, rfl⟩
  obtain ⟨gh, hgh⟩ : ∃ gh, w2.heap.size = gh := ⟨_, rfl⟩
  have HK3 := hide (by rw [← hW]; exact ((unhide HK2).alloc _).setRow (Or.inr (unhide HK2).size) _ : Kept [] w W2)
  have HR3 := hide (by rw [← hW, ← hgh]; exact setRow_heap _ _ _ _ _ _ (heap_alloc_new _ _) : W2.heap[gh]? = some (.cells (row h0) 30 (0, 0)))
  have Hs3 := hide (by have := (unhide HK2).size; omega : w.heap.size ≤ gh)
  rw [hW, hgh]
  clear hW hgh
  refine (ltwin_any _ p W2 ((unhide H).old (unhide HK3) (by simp))).mono ?_
  rintro e w3 ⟨rfl, k3, h3w⟩
  have HO3 := hide (own_fresh h3w (by omega))
  have HK4 := hide ((unhide HK3).trans k3 (by simp))
  have HR4 := hide (k3.heap (unhide HR3) (by simp))
  have Hs4 := hide (by have := lt_of_block (unhide HR3); omega : gh < W2.heap.size)
  clear k3 h3w
  go_wp2_with fail
  have hpl := padZ_le p.length
  have hpl2 := pad_len p.length
  have hpf := pad_full p.length
  refine (padding_any p.length w3 (by omega)).mono ?_
  rintro e w4 ⟨rfl, hr4, k4⟩
  have HRp := hide (rd_mark hr4 rfl (pad_byte p.length) _ rfl (by omega))
  have HO4 := hide (k4.owns (unhide HO3) (by simp))
  have HK5 := hide ((unhide HK4).trans k4 (by simp))
  have HR5 := hide (k4.heap (unhide HR4) (by simp))
  have Hs5 := hide (by have := (unhide HO4).lt W2.heap.size rfl; omega : W2.heap.size ≤ w4.heap.size)
  have Hs6 := hide (unhide HK3).size
  obtain ⟨T, hTT⟩ : ∃ T, p ++ pad p.length = T := ⟨_, rfl⟩
  obtain ⟨N, hN⟩ : ∃ N, p.length + (pad p.length).length = N := ⟨_, rfl⟩
  have hTN : T.length = N := by rw [← hTT, List.length_append]; exact hN
  obtain ⟨m, hm⟩ : ∃ m, N = 64 * m := ⟨N / 64, by omega⟩
  have HTb := hide (by rw [← hTT]; intro x hx; rcases List.mem_append.1 hx with h | h; exact (unhide H).byte x h; exact pad_byte _ x h : ∀ x ∈ T, x < 256)
  have HHW := hide (by unfold hashW; rw [hTT] : hashW p = chain h0 T)
  have hmod : (N : Int) % 64 = 0 := by omega
  have hmod' : Int.tmod (N : Int) 64 = 0 := by rw [Int.tmod_eq_emod_of_nonneg (by omega)]; omega
  have hN9 : N ≤ 140737488355328 ∧ 0 < N := by omega
  clear k4 hr4 hpl hpl2 hpf
  go_wp2_with (at_builtin; go_must (refine wpList_appendAll rfl _ _ rfl rfl _ W2.heap.size (.slice (some ⟨W2.heap.size, 0, none⟩) p.length p.length) p (pad p.length) _ (pad p.length).length (pad p.length).length (by exact unhide HO4) (by exact unhide HRp) (by omega) (unhide Hs5) rfl rfl ?_; intro ao5 cap5 w5 HO5 HG5 HA5; rw [hTT] at HO5; rw [hN] at HO5 HA5 ⊢; rw [hTN] at HO5))
  have HK6 := hide ((unhide HK5).grown (unhide HG5) (by intro j hj; right; cases hj; exact unhide Hs6))
  have HT5 := hide (rd_owns (bs := T) (by rw [hTN]; exact unhide HO5) (unhide HTb) (by omega) : Rd w5 (.slice ao5 T.length cap5) T)
  rw [hTN] at HT5
  have HT6 := HT5
  obtain ⟨_, _, _, he5, _, hc5, ⟨hc5', _⟩, _, _, hx5⟩ := unhide HT6
  cases he5
  obtain ⟨gb, go5, rfl, _⟩ := hx5 (by omega)
  have hgb := ((unhide HO5).lt gb rfl).1
  have Hne := hide (by have := unhide Hs4; omega : gb ≠ gh)
  have HR6 := hide (((unhide HG5).block gh (lt_of_block (unhide HR5)) (fun h => absurd (show gh = W2.heap.size by simpa [Value.ownBlock] using h) (by have := unhide Hs4; omega))).trans (unhide HR5))
  clear hx5 HO5 HG5 HA5 HT6 HRp HO4 hgb HO3 HR5 HR4 HR3
  go_wp2_with fail
  go_loopw [5] (fun t5 wr => ∃ (j : Nat) (ys : List Nat), j ≤ m ∧ t5 = .int .i64 (64 * j : Nat) ∧ Hid (ys = chain h0 (T.take (64 * j))) ∧ Hid (wr.heap[gh]? = some (.cells (row ys) 30 (0, 0))) ∧ Hid (Kept [] w wr) ∧ Hid (Kept [gh] w5 wr)) (fun t _ => N - (intOf t).toNat)
  case atStart => exact ⟨0, h0, Nat.zero_le _, rfl, hide (by rw [show 64 * 0 = 0 from rfl, List.take_zero, chain_short (by simp)]), HR6, HK6, hide (Kept.refl _ _)⟩
  case round =>
    have HR6' := HR6
    clear HR6
    obtain ⟨j, ys, hj, rfl, HM2, HRh2, HK2', HKg2⟩ := hrel
    obtain ⟨s2, hs2⟩ : ∃ s2, 64 * j = s2 := ⟨_, rfl⟩
    rw [hs2]
    have hyw := hide (by rw [unhide HM2]; exact chain_wds' h0_wds _ : Wds ys)
    by_cases hlt2 : j < m
    · have hse : s2 + 64 ≤ N := by omega
      have hltI2 : (s2 : Int) < (N : Int) := by omega
      have HRd2 := hide (((unhide HT5).kept (unhide HKg2) (by have := unhide Hne; simpa [blk] using this)) : Rd wr (.slice (some ⟨gb, go5, none⟩) N cap5) T)
      rw [← hTN] at HRd2
      have HRd3 := hide ((unhide HRd2).mid (s := s2) (x := 64) (by omega))
      have HCN := hide (by rw [chain_next h0 T j (by omega), ← unhide HM2, hs2] : chain h0 (T.take (64 * (j + 1))) = comp ys ((T.drop s2).take 64))
      have hbl : ((T.drop s2).take 64).length = 64 := by simp; omega
      have HBb := hide (fun x hx => unhide HTb x (List.mem_of_mem_drop (List.mem_of_mem_take hx)) : ∀ x ∈ (T.drop s2).take 64, x < 256)
      have hI1 : (s2 : Int) + 64 ≤ cap5 := by omega
      have hcs5 : ¬ cap5 = s2 := by omega
      obtain ⟨B, hB⟩ : ∃ B, (T.drop s2).take 64 = B := ⟨_, rfl⟩
      rw [hB] at HRd3 HCN hbl HBb
      clear hB
      have HRhn := hide (unhide HRh2)
      have hlth := lt_of_block (unhide HRh2)
      go_wp2_with fail
      rw [zb64]
      have hcp : ∀ n, (Builtin.copy_ #[22, 22] 3 #[.slice (some ⟨wr.heap.size, 0, none⟩) 64 64, .slice (some ⟨gb, go5 + s2, none⟩) 64 (cap5 - s2)]).run Tryd.prog ((wr.alloc (.cells (zb 64) 31)).drewN n) = .ok (goInt 64) (((wr.alloc (.cells (zb 64) 31)).drewN n).setRow wr.heap.size (brow B)) := fun n =>
        run_copy64 _ _ _ _ _ B hbl (zb 64) (by simp [zb, brow]) 31 (heap_alloc_new wr (.cells (zb 64) 31)) ((unhide HRd3).old (L := []) (((Kept.refl [] wr).alloc _).drewN n) (by simp))
      refine wp_quiet_tail 6 (by kernel_rfl) (by kernel_rfl) ?_
      simp only [List.take_succ_cons, List.take_zero, List.drop_succ_cons, List.drop_zero]
      repeat (go_big_quiet_step (fail))
      refine wpQuiet_nil ?_
      intro _ hw'
      obtain ⟨n1, hw''⟩ := hw'
      subst hw''
      have HZB := hide (setRow_heap ((wr.alloc (.cells (zb 64) 31)).drewN n1) wr.heap.size (zb 64) (brow B) 31 (0, 0) (heap_alloc_new wr (.cells (zb 64) 31)))
      have HZH := hide ((setRow_other ((wr.alloc (.cells (zb 64) 31)).drewN n1) wr.heap.size gh (brow B) (by omega)).trans ((heap_alloc_old wr (.cells (zb 64) 31) hlth).trans (unhide HRh2)))
      have HKW := hide ((((Kept.refl [] wr).alloc (.cells (zb 64) 31)).drewN n1).setRow (g := wr.heap.size) (Or.inr (Nat.le_refl _)) (brow B))
      go_wp2_with (first
        | (refine wpList_load_row rfl 30 (.tmp 3) rfl gh rfl _ (row ys) (0, 0) _ (unhide HZH) Tryd.underlying30 rfl (by rw [row_size, (unhide hyw).1]; exact Tryd.size_a8) ?_)
        | (refine wpList_load_row rfl 31 (.tmp 6) rfl wr.heap.size rfl _ (brow B) (0, 0) _ (unhide HZB) Tryd.underlying31 rfl (by rw [brow_size, hbl]; exact Tryd.size_a64b) ?_))
      obtain ⟨W7, hW7⟩ : ∃ W7, ((wr.alloc (.cells (zb 64) 31)).drewN n1).setRow wr.heap.size (brow B) = W7 := ⟨_, rfl⟩
      rw [hW7] at HZH HKW ⊢
      have HK7 := hide ((unhide HK2').trans (unhide HKW) (by simp))
      have HKg7 := hide ((unhide HKg2).trans (unhide HKW) (by simp))
      clear hW7 HZB hcp
      refine (compress_any ys B W7 (unhide hyw) hbl (unhide HBb) ((unhide HT).k (unhide HK7)).1).mono ?_
      rintro e w8 ⟨rfl, k8⟩
      rw [← unhide HCN]
      obtain ⟨cn, hcn⟩ : ∃ cn, chain h0 (T.take (64 * (j + 1))) = cn := ⟨_, rfl⟩
      rw [hcn]
      have hcw := hide (by rw [← hcn]; exact chain_wds' h0_wds _ : Wds cn)
      have HK8 := hide ((unhide HK7).trans k8 (by simp))
      have HKg8 := hide ((unhide HKg7).trans k8 (by simp))
      have HR8 := hide (k8.heap (unhide HZH) (by simp))
      clear k8
      go_wp2_with (refine wpList_store_row rfl 30 (.tmp 3) _ rfl gh (row cn) rfl rfl _ (row ys) (unhide HR8) (by rw [row_size, (unhide hcw).1]; exact Tryd.size_a8) (by rw [row_size, row_size, (unhide hyw).1, (unhide hcw).1]) (row_one _) ?_)
      go_roundw
      case rel => exact ⟨j + 1, cn, by omega, by rw [← hs2]; congr 1 <;> omega, hide hcn.symm, hide (setRow_heap _ _ _ _ _ _ (unhide HR8)), hide ((unhide HK8).setRow (Or.inr (unhide Hs3)) _), hide ((unhide HKg8).setRow (by simp) _)⟩
      case measure => first | (simp [intOf]; done) | (simp [intOf]; omega)
    · have hje : j = m := by omega
      have hltI2 : ¬ (s2 : Int) < (N : Int) := by omega
      have HYS := hide (by rw [unhide HM2, unhide HHW, List.take_of_length_le (by omega)] : ys = hashW p)
      go_wp2_with fail
      refine (ltwin_any _ p wr ((unhide H).old (unhide HK2') (by simp))).mono ?_
      rintro e w9 ⟨rfl, k9, h9⟩
      have HR9 := hide (k9.heap (unhide HRh2) (by simp))
      have HK9 := hide ((unhide HK2').trans k9 (by simp))
      have HT9 := hide (rd_fresh h9 (unhide H).byte (by omega))
      clear k9 h9
      go_wp2_with fail
      refine (sum256_any _ p w9 (unhide HT9) (by omega) ((unhide HT).k (unhide HK9))).mono ?_
      rintro e w10 ⟨rfl, k10⟩
      have HR10 := hide (k10.heap (unhide HR9) (by simp))
      have HK10 := hide ((unhide HK9).trans k10 (by simp))
      clear k10
      have hyl := (unhide hyw).1
      have HYW := hide (unhide hyw).2
      have hdl := hash_len p
      have HDY := hide (by unfold hash; rw [unhide HYS] : hash p = dig ys)
      obtain ⟨D, hD⟩ : ∃ D, hash p = D := ⟨_, rfl⟩
      rw [hD] at hdl HDY ⊢
      have hlt10 := lt_of_block (unhide HR10)
      go_wp2_with (rw [zb32]; refine wpList_store_row rfl 24 _ _ rfl w10.heap.size (brow D) rfl rfl _ (zb 32) (heap_alloc_new _ _) (by rw [brow_size, hdl]; exact Tryd.size_a32b) (by rw [zb_size, brow_size, hdl]) (brow_one _) ?_)
      obtain ⟨W11, hW11⟩ : ∃ W, (w10.alloc (.cells (zb 32) 24)).setRow w10.heap.size (brow D) = W := ⟨_, rfl⟩
      have HR11 := hide (by rw [← hW11, setRow_other _ _ _ _ (by omega), heap_alloc_old _ _ hlt10]; exact unhide HR10 : W11.heap[gh]? = some (.cells (row ys) 30 (0, 0)))
      have HD11 := hide (by rw [← hW11]; exact setRow_heap _ _ _ _ _ _ (heap_alloc_new _ _) : W11.heap[w10.heap.size]? = some (.cells (brow D) 24 (0, 0)))
      have HK11 := hide (by rw [← hW11]; exact ((unhide HK10).alloc _).setRow (Or.inr (unhide HK10).size) _ : Kept [] w W11)
      rw [hW11]
      clear hW11
      go_loopw [8] (fun t8 wq => ∃ (i n : Nat), i ≤ 32 ∧ t8 = .int .i64 i ∧ wq = W11.drewN n) (fun t _ => 32 - (intOf t).toNat)
      case atStart => exact ⟨0, 0, by omega, rfl, rfl⟩
      case round =>
        obtain ⟨i, n, hi, rfl, rfl⟩ := hrel
        by_cases hlt3 : i < 32
        · have hlt3' : (i : Int) < 32 := by omega
          obtain ⟨q, hq⟩ : ∃ q, i / 4 = q := ⟨_, rfl⟩
          obtain ⟨r, hr⟩ : ∃ r, i % 4 = r := ⟨_, rfl⟩
          obtain ⟨sh, hsh⟩ : ∃ sh, 24 - 8 * r = sh := ⟨_, rfl⟩
          have hqI : (i : Int) / 4 = (q : Int) := by omega
          have hqI' : Int.tdiv (i : Int) 4 = (q : Int) := by rw [Int.tdiv_eq_ediv_of_nonneg (by omega)]; omega
          have hrI : (i : Int) % 4 = (r : Int) := by omega
          have hrI' : Int.tmod (i : Int) 4 = (r : Int) := by rw [Int.tmod_eq_emod_of_nonneg (by omega)]; omega
          have hshI : (24 : Int) - 8 * (r : Int) = (sh : Int) := by omega
          have hq8 : (q : Int) < 8 := by omega
          have hr4 : (r : Int) < 4 := by omega
          have hsh24 : (sh : Int) ≤ 24 := by omega
          have hshn : ¬ (sh : Int) < 0 := by omega
          have HV := hide (by have := dig_at ys i hlt3 hyl; rw [hq, hr, hsh, ← unhide HDY] at this; exact this : D.getD i 0 = ys.getD q 0 / 2 ^ sh % 256)
          have cq := row_cell (unhide HR11) q (by omega)
          have cd := brow_cell (unhide HD11) i (by omega)
          have lq := wordD (unhide HYW) q
          rw [unhide HV] at cd
          generalize ys.getD q 0 = x at cq cd lq
          obtain ⟨z, hz⟩ : ∃ z, x / 2 ^ sh % 256 = z := ⟨_, rfl⟩
          have hzv : (x : Int) / 2 ^ sh % 256 = (z : Int) := by rw [← hz]; simp
          rw [hz] at cd
          clear hz hq hr hsh
          go_wp2_with fail
          go_quiet (fail)
          go_wp2
          go_roundw
          case rel => exact ⟨i + 1, _, by omega, by go_num, rfl⟩
          case measure => simp [intOf]; omega
        · have hlt3' : ¬ (i : Int) < 32 := by omega
          go_wp2
          go_ret
          exact ⟨rfl, ((unhide HK11).drewN n).below (Nat.le_refl _) (by simp)⟩
end Go.Proofs.YtnimfbbhhdgepaaDoor
