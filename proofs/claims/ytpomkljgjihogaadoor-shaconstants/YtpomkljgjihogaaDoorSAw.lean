import Derived.Test.YtpomkljgjihogaaDoorSSum
import Derived.Lib.SlBytesConst
import Derived.ChangeKeysEq
namespace Go.Proofs.YtpomkljgjihogaaDoor
open Go.RowKit
set_option linter.unusedVariables false
set_option linter.unusedSimpArgs false

theorem rd_mark {w : World} {g : Nat} {bs : List Nat} {cs : Array Value} {fr : Nat × Nat} (h : w.heap[g]? = some (.cells cs 5 fr)) (hc : cs = (bs.map u8).toArray) (hb : ∀ x ∈ bs, x < 256) (n : Nat) (hn : bs.length = n) (hl : n ≤ 140737488355328) :
    Rd w (.slice (some ⟨g, 0, none⟩) n n) bs := by
  subst hc; subst hn
  refine ⟨_, _, _, rfl, rfl, Nat.le_refl _, ⟨by omega, hl⟩, by simp, hb, fun _ => ⟨g, 0, rfl, fun i hi => ?_⟩⟩
  rw [cell_of_row w g (0 + i) _ 5 fr h]
  simp [List.getD_eq_getElem?_getD, List.getElem?_eq_getElem hi]


set_option maxRecDepth 100000 in
set_option maxHeartbeats 1000000 in
theorem sum256_any (v : Value) (p : List Nat) (w : World) (h : Rd w v p) (hl : p.length ≤ 140737488355328) (hT : Tabs w) :
    Calls Tryd.prog 11 #[v] w fun e w' => e = .returned (.agg (brow (hash p))) ∧ Kept [] w w' := by
  have H := hide h
  have HT := hide hT
  have h2 := hT.two
  have HB := hide (show 0 < p.length → w.heap.size + 1 ∉ blk v from by
    intro hp
    obtain ⟨ao, len, cap, rfl, rfl, _, _, h4, _, h6⟩ := h
    obtain ⟨b, o, rfl, hc⟩ := h6 hp
    have := block_lt_of_cell (hc 0 hp)
    simp at this
    simp [blk]; omega)
  clear h hT
  have hzs := zero_st
  go_enter Tryd.func11, Tryd.ntmps11
  go_wp2_with fail
  rw [zb32]
  have HK0 := hide (((Kept.refl [] w).alloc (.cells (zb 32) 32)).alloc (.cells zst 46))
  refine (write_any (w.heap.size + 1) [] v p _ (st_zero (heap_alloc2_new _ _ _)) ((unhide H).old (unhide HK0) (by simp)) (unhide HB) (by omega) (by simp; omega) ((unhide HT).kept (unhide HK0) (by simp) (by simp))).mono ?_
  rintro e w1 ⟨rfl, s1, k1⟩
  rw [List.nil_append] at s1
  have HS1 := hide s1
  have HK1 := hide ((unhide HK0).trans k1 (by simp))
  have HZ1 := hide (k1.heap (heap_alloc2_old w (.cells (zb 32) 32) (.cells zst 46)) (by simp))
  clear s1 k1
  go_wp2_with fail
  refine (ssum_any (w.heap.size + 1) p w1 (unhide HS1) (by omega) ((unhide HT).kept (unhide HK1) (by simp) (by simp))).mono ?_
  rintro e w2 ⟨rfl, k2⟩
  have HK2 := hide ((unhide HK1).trans k2 (by simp))
  have HZ2 := hide (k2.heap (unhide HZ1) (by simp))
  clear k2
  have hhl : (hash p).length = 32 := by unfold hash hashW; rw [dig_len, (chain_ok _ h0_wds).1]
  have Hhl := hide hhl
  clear hhl
  obtain ⟨d, hd⟩ : ∃ d, d = hash p := ⟨_, rfl⟩
  rw [← hd] at Hhl ⊢
  have Hd := hide hd
  clear hd
  go_wp2_with (refine wpList_store_row rfl 32 _ _ rfl w.heap.size (brow d) rfl rfl _ (zb 32) (unhide HZ2) (by rw [brow_size, unhide Hhl]; exact Tryd.size_a32b) (by rw [zb_size, brow_size, unhide Hhl]) (brow_one _) ?_)
  refine bodyPost_ret (v := .agg (brow d)) ?_ rfl ⟨by rw [unhide Hd], (unhide HK2).setRow (by simp) _⟩
  exact results_cell_row rfl _ _ w.heap.size _ (brow d) (0, 0) _ rfl (setRow_heap _ _ _ _ _ _ (unhide HZ2)) Tryd.underlying32 rfl (by rw [brow_size, unhide Hhl]; exact Tryd.size_a32b)

theorem drop_dec {a b : List Nat} {s : Nat} (h : s < a.length) (h' : s < b.length) : decide (a.drop s = b.drop s) = (decide (a.getD s 0 = b.getD s 0) && decide (a.drop (s + 1) = b.drop (s + 1))) := by
  rw [List.drop_eq_getElem_cons h, List.drop_eq_getElem_cons h', List.getD_eq_getElem?_getD, List.getD_eq_getElem?_getD, List.getElem?_eq_getElem h, List.getElem?_eq_getElem h']
  simp only [List.cons.injEq, Bool.decide_and, Option.getD_some]
theorem eqItems_row (P : Program) (w : World) (he : P.plainKey 5 = true) (hu : P.underlying 5 = some (.int .u8)) (d : Nat) (a b : List Nat) (n : Nat) (ha : a.length = n) (hb : b.length = n) :
    ∀ k s, s + k = n → (Op.eqItems (d + 1) 5 1 (brow a) (brow b) (List.range' s k)).run P w = .ok (decide (a.drop s = b.drop s)) w
  | 0, s, h => by
    have : a.drop s = b.drop s := by rw [List.drop_eq_nil_of_le (by omega), List.drop_eq_nil_of_le (by omega)]
    simp [Op.eqItems, this]
  | k + 1, s, h => by
    rw [List.range'_succ]
    simp only [Op.eqItems, Sem.run_bind, Nat.mul_one]
    rw [run_part_plain w he (brow_get a s (by omega)), Result.andThen_ok, run_part_plain w he (brow_get b s (by omega)), Result.andThen_ok]
    simp only [u8]
    rw [run_equalIn_int w d 5 _ _ _ _ hu, Result.andThen_ok, drop_dec (by omega) (by omega)]
    by_cases e : a.getD s 0 = b.getD s 0
    · rw [e]
      simp only [beq_self_eq_true, Bool.not_true, Bool.false_eq_true, if_false]
      rw [eqItems_row P w he hu d a b n ha hb k (s + 1) (by omega)]
      simp
    · have : ((a.getD s 0 : Int) == (b.getD s 0 : Int)) = false := by rw [beq_eq_false_iff_ne]; omega
      rw [this, decide_eq_false e]
      simp only [Bool.false_and, Bool.not_false, if_true, Sem.run_pure]
theorem row_eq (w : World) (a b : List Nat) (ha : a.length = 32) (hb : b.length = 32) : (Op.equalIn 10000 32 (.agg (brow a)) (.agg (brow b))).run Tryd.prog w = .ok (decide (a = b)) w := by
  obtain ⟨i, hi, _⟩ := Option.map_eq_some_iff.1 Tryd.info5
  rw [run_equalIn_array w 9999 _ _ Tryd.underlying32 hi, List.range_eq_range', show Tryd.prog.cellsOf 5 = 1 from by kernel_rfl]
  exact eqItems_row Tryd.prog w (by unfold Program.plainKey; rw [Tryd.underlying5]) Tryd.underlying5 9998 a b 32 ha hb 32 0 rfl

/-- A literal of an array, as a row that is known. -/
theorem wpList_build_as {P : Program} {ops : Array Oper} {rest : List Oper} {o : Oper} {a : Act} {w : World} {Q : Exit → Act → World → Prop} (hg : o.guard = none) (t : TypeId) (parts : Array (Nat × Operand)) (ho : o.op = .build t parts) (cs : Array Value)
    (hb : P.built t (parts.map fun (i, x) => (i, a.eval x)).toList = some cs) (h : wpList P ops Q rest (a.put o.dst (.agg cs)) w) : wpList P ops Q (o :: rest) a w :=
  wpList_build hg t parts ho (by rw [hb]; rfl) (by rw [hb]; exact h)
def abcL : List Nat := [186, 120, 22, 191, 143, 1, 207, 234, 65, 65, 64, 222, 93, 174, 34, 35, 176, 3, 97, 163, 150, 23, 122, 156, 180, 16, 255, 97, 242, 0, 21, 173]

set_option maxRecDepth 100000 in
set_option maxHeartbeats 1000000 in
theorem abc_any (w : World) : Calls Tryd.prog 14 #[] w fun e w' => e = .returned (.agg (brow abcL)) ∧ Kept [] w w' := by
  go_enter Tryd.func14, Tryd.ntmps14
  go_wp2_with (first
    | (refine wpList_build_as rfl 32 _ rfl (brow abcL) (by kernel_rfl) ?_)
    | (rw [zb32]; refine wpList_store_row rfl 32 _ _ rfl w.heap.size (brow abcL) rfl rfl _ (zb 32) (heap_alloc_new _ _) (by rw [brow_size]; exact Tryd.size_a32b) (by rw [zb_size, brow_size]; rfl) (brow_one _) ?_))
  refine bodyPost_ret (v := .agg (brow abcL)) ?_ rfl ⟨rfl, ((Kept.refl [] w).alloc _).setRow (by simp) _⟩
  exact results_cell_row rfl _ _ w.heap.size _ (brow abcL) (0, 0) _ rfl (setRow_heap _ _ _ _ _ _ (heap_alloc_new _ _)) Tryd.underlying32 rfl (by rw [brow_size]; exact Tryd.size_a32b)

theorem St.lt {w : World} {g : Nat} {t : List Nat} (h : St w g t) : g < w.heap.size := by
  obtain ⟨ws, bl, hs, _⟩ := h
  exact block_lt_of_cell hs.count

set_option maxRecDepth 100000 in
set_option maxHeartbeats 1000000 in
theorem shaAwake_any (w : World) (hT : Tabs w) : Calls Tryd.prog 4 #[] w fun e w' => e = .returned (.bool true) ∧ Kept [] w w' := by
  have HT := hide hT
  clear hT
  have kc := fun (w : World) (C : Array Value) (n c : Nat) => Lib.run_convert_bytes_const (P := Tryd.prog) w 36 5 C n c Tryd.underlying36 Tryd.underlying5
  go_enter Tryd.func4, Tryd.ntmps4
  go_wp2_with fail
  refine (snew_any w).mono ?_
  rintro e w1 ⟨rfl, s1, k1⟩
  have HS1 := hide s1
  have HK1 := hide k1
  clear s1 k1
  go_wp2_with fail
  refine (sum256_any _ [97, 98, 99] _ (rd_mark (heap_alloc_new _ _) rfl (by decide) 3 rfl (by decide)) (by decide) ((unhide HT).kept ((unhide HK1).alloc _) (by simp) (by simp))).mono ?_
  rintro e w2 ⟨rfl, k2⟩
  have HS2 := hide (((unhide HS1).kept ((Kept.refl [] w1).alloc _) (by simp)).kept k2 (by simp))
  have HK2 := hide (((unhide HK1).alloc _).trans k2 (by simp))
  clear k2
  rw [show hash [97, 98, 99] = abcL from abc_hash]
  go_wp2_with fail
  refine (abc_any w2).mono ?_
  rintro e w3 ⟨rfl, k3⟩
  have HS3 := hide ((unhide HS2).kept k3 (by simp))
  have HK3 := hide ((unhide HK2).trans k3 (by simp))
  clear k3
  have hq := fun w => row_eq w abcL abcL rfl rfl
  simp only [decide_true] at hq
  have hlt3 := (unhide HS3).lt
  have h2 := (unhide HT).two
  go_wp2_with fail
  refine (write_any w.heap.size [] _ [97] _ ((unhide HS3).kept ((Kept.refl [] w3).alloc _) (by simp)) (rd_mark (heap_alloc_new _ _) rfl (by decide) 1 rfl (by decide)) (by intro _; simp [blk]; omega) (by omega) (by simp) ((unhide HT).kept ((unhide HK3).alloc _) (by simp) (by simp))).mono ?_
  rintro e w4 ⟨rfl, s4, k4⟩
  have HS4 := hide s4
  have HK4 := hide (((unhide HK3).alloc _).trans k4 (by simp))
  clear s4 k4
  have hlt4 := (unhide HS4).lt
  go_wp2_with fail
  refine (write_any w.heap.size _ _ [98, 99] _ ((unhide HS4).kept ((Kept.refl [] w4).alloc _) (by simp)) (rd_mark (heap_alloc_new _ _) rfl (by decide) 2 rfl (by decide)) (by intro _; simp [blk]; omega) (by omega) (by simp) ((unhide HT).kept ((unhide HK4).alloc _) (by simp) (by simp))).mono ?_
  rintro e w5 ⟨rfl, s5, k5⟩
  have HS5 := hide s5
  have HK5 := hide (((unhide HK4).alloc _).trans k5 (by simp))
  clear s5 k5
  go_wp2_with fail
  refine (ssum_any w.heap.size _ w5 (unhide HS5) (by simp) ((unhide HT).kept (unhide HK5) (by simp) (by simp))).mono ?_
  rintro e w6 ⟨rfl, k6⟩
  have HK6 := hide ((unhide HK5).trans k6 (by simp))
  clear k6
  rw [show hash ([] ++ [97] ++ [98, 99]) = abcL from abc_hash]
  go_wp2_with fail
  refine (abc_any w6).mono ?_
  rintro e w7 ⟨rfl, k7⟩
  have HK7 := hide ((unhide HK6).trans k7 (by simp))
  clear k7
  go_wp2_with fail
  go_ret
  exact ⟨rfl, unhide HK7⟩
end Go.Proofs.YtpomkljgjihogaaDoor
