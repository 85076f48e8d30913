import Derived.Test.YtbljofojeagdkaaDoorMPart
namespace Go.Proofs.YtbljofojeagdkaaDoor
open Go.RowKit Go.BigFrame
set_option linter.unusedVariables false
set_option linter.unusedSimpArgs false

set_option maxRecDepth 100000 in
set_option maxHeartbeats 1000000 in
theorem twidth_any (n : Nat) (w : World) (hn : n < 256) :
    Calls Tryd.prog 21 #[.int .u8 n] w fun e w' => e = .returned (.int .i64 ((1 + n % 32 : Nat) : Int)) ∧ w' = w := by
  have h1 : IntKind.i64.wrap (n : Int) = n := by simp [IntKind.wrap, IntKind.signed, IntKind.bits]; omega
  obtain ⟨y, hy⟩ : ∃ y, n % 32 = y := ⟨_, rfl⟩
  have hy2 : (n : Int) % 32 = y := by omega
  have hy3 : (n : Int).tmod 32 = y := by rw [Int.tmod_eq_emod_of_nonneg (by omega)]; omega
  have hy32 : (y : Int) < 32 := by omega
  rw [hy]
  have HY := hide hy
  clear hy
  go_enter Tryd.func21, Tryd.ntmps21
  go_wp2
  go_ret
  exact ⟨by congr 2, rfl⟩

def cI (k i : Nat) (d : List Nat) : List Nat := (d.take k ++ List.replicate (i - k) 0) ++ d.drop i
theorem cI_len {k i : Nat} {d : List Nat} (h : k ≤ i) (hi : i ≤ 32) (hd : d.length = 32) : (cI k i d).length = 32 := by simp [cI, hd]; omega
theorem cI_set {k i : Nat} {d : List Nat} (h : k ≤ i) (hi : i < 32) (hd : d.length = 32) : (brow (cI k i d)).setIfInBounds i (.int .u8 0) = brow (cI k (i + 1) d) := by
  have hA : (d.take k ++ List.replicate (i - k) 0).length = i := by simp [hd]; omega
  have e1 : (cI k i d).set i 0 = cI k (i + 1) d := by
    unfold cI
    rw [List.set_append_right _ _ (by omega), hA, Nat.sub_self, List.drop_eq_getElem_cons (show i < d.length by omega), List.set_cons_zero, show i + 1 - k = (i - k) + 1 by omega, List.replicate_succ']
    simp
  rw [← e1]
  unfold brow
  rw [List.setIfInBounds_toArray, List.map_set]
  rfl
theorem cI_end {k : Nat} {d : List Nat} (hd : d.length = 32) : cI k 32 d = cutL k d := by unfold cI cutL; rw [List.drop_eq_nil_of_le (by omega), List.append_nil]
theorem cI_start {k : Nat} {d : List Nat} : cI k k d = d := by simp [cI]

set_option maxRecDepth 100000 in
set_option maxHeartbeats 1000000 in
theorem tcut_any (k : Nat) (d : List Nat) (w : World) (h1 : 1 ≤ k) (h2 : k ≤ 32) (hd : d.length = 32) (hb : ∀ x ∈ d, x < 256) :
    Calls Tryd.prog 39 #[.int .i64 k, .agg (brow d)] w fun e w' => e = .returned (.agg (brow (cutL k d))) ∧ Kept [] w w' := by
  have hcl := cutL_len k d h2 hd
  have HCE := hide (cI_end (k := k) hd)
  clear hb
  go_enter Tryd.func39, Tryd.ntmps39
  go_wp2_with fail
  rw [zb32]
  have HA := hide (heap_alloc2_old w (.cells (brow d) 23) (.cells (zb 32) 23))
  have HB := hide (heap_alloc2_new w (.cells (brow d) 23) (.cells (zb 32) 23))
  have HK := hide (((Kept.refl [] w).alloc (.cells (brow d) 23)).alloc (.cells (zb 32) 23))
  obtain ⟨W, hW⟩ : ∃ W, (w.alloc (.cells (brow d) 23)).alloc (.cells (zb 32) 23) = W := ⟨_, rfl⟩
  rw [hW] at HA HB HK ⊢
  clear hW
  go_loopw [5] (fun t wr => ∃ (i : Nat), k ≤ i ∧ i ≤ 32 ∧ t = .int .i64 i ∧ Hid (wr.heap[w.heap.size]? = some (.cells (brow (cI k i d)) 23 (0, 0))) ∧ Hid (wr.heap[w.heap.size + 1]? = some (.cells (zb 32) 23 (0, 0))) ∧ Hid (Kept [] w wr)) (fun t _ => 32 - (intOf t).toNat)
  case atStart => exact ⟨k, Nat.le_refl _, h2, rfl, hide (by rw [cI_start]; exact unhide HA), HB, HK⟩
  case round =>
    obtain ⟨i, hi1, hi2, rfl, HG, HZ, HKr⟩ := hrel
    by_cases hlt : i < 32
    · have hlt' : (i : Int) < 32 := by omega
      have q0 := brow_cell (unhide HG) i (by rw [cI_len hi1 hi2 hd]; exact hlt)
      simp only [Go.Proofs.YtbljofojeagdkaaDoor.u8] at q0
      have z0 : wr.frozen? ⟨w.heap.size, i, none⟩ = false := frozen_of_row _ _ _ _ _ (unhide HG)
      have k1 := (Kept.refl [w.heap.size] wr).setCell (p := ⟨w.heap.size, i, none⟩) (Or.inl (by simp)) (.int .u8 0)
      have HG2 := hide (by have h9 := heap_setCell_same wr w.heap.size i _ 23 (.int .u8 0) (unhide HG); rw [cI_set hi1 hlt hd] at h9; exact h9 : (wr.setCell ⟨w.heap.size, i, none⟩ (.int .u8 0)).heap[w.heap.size]? = some (.cells (brow (cI k (i + 1) d)) 23 (0, 0)))
      have HZ2 := hide (k1.heap (unhide HZ) (by simp))
      have HK2 := hide ((unhide HKr).setCell (p := ⟨w.heap.size, i, none⟩) (Or.inr (Nat.le_refl _)) (.int .u8 0))
      clear k1
      go_wp2
      refine ⟨⟨i + 1, by omega, by omega, by go_num, HG2, HZ2, HK2⟩, ?_⟩
      simp [intOf]; omega
    · have hlt' : ¬ (i : Int) < 32 := by omega
      have hi32 : i = 32 := by omega
      subst hi32
      rw [unhide HCE] at HG
      go_wp2_with (first
        | (refine wpList_load_row rfl 23 _ rfl w.heap.size rfl _ (brow (cutL k d)) (0, 0) _ (unhide HG) Tryd.underlying23 rfl (by rw [brow_size, hcl]; exact Tryd.size_dig) ?_)
        | (refine wpList_store_row rfl 23 _ _ rfl (w.heap.size + 1) (brow (cutL k d)) rfl rfl _ (zb 32) (unhide HZ) (by rw [brow_size, hcl]; exact Tryd.size_dig) (by rw [zb_size, brow_size, hcl]) (brow_one _) ?_))
      refine bodyPost_ret (v := .agg (brow (cutL k d))) ?_ rfl ⟨rfl, (unhide HKr).setRow (Or.inr (by omega)) _⟩
      exact results_cell_row rfl _ _ (w.heap.size + 1) _ (brow (cutL k d)) (0, 0) _ rfl (setRow_heap _ _ _ _ _ _ (unhide HZ)) Tryd.underlying23 rfl (by rw [brow_size, hcl]; exact Tryd.size_dig)

theorem wpList_load_midT {P : Program} {ops : Array Oper} {rest : List Oper} {op : Oper} {a : Act} {w : World} {Q : Exit → Act → World → Prop} (hw : Region.wanted op (yielded ops a.tmps) = true) (ty : TypeId) (x : Operand) (ho : op.op = .load ty x)
    (b o : Nat) (hx : a.eval x = .pointer (some ⟨b, o, none⟩)) (cs : List Value) (d : TypeDesc) (hc : w.rangeAt b o cs)
    (hu : P.underlying ty = some d) (hd : d.isRow = true) (hi : (P.info? ty).map (·.size) = some cs.length)
    (h : wpList P ops Q rest (a.put op.dst (.agg cs.toArray)) w) : wpList P ops Q (op :: rest) a w :=
  wpList_want hw fun _ hK => wp_load_mid ty x ho b o hx cs d hc hu hd hi (hK _ _ h)
theorem RdD_nil {w : World} : RdD w (.slice none 0 0) [] := ⟨none, 0, 0, rfl, rfl, Nat.le_refl _, by omega, fun d hd => by simp at hd, fun h => by omega⟩
theorem cutL_cut2 {k : Nat} {d : List Nat} (hk : k ≤ 32) (hd : d.length = 32) : cutL k (cutL k d) = cutL k d := cutL_cutL k d (by omega)
theorem cut_dg {k : Nat} {d : List Nat} (hk : k ≤ 32) (hd : Dg d) : Dg (cutL k d) := ⟨cutL_len k d hk hd.1, cutL_byte k d hd.2⟩
theorem cut_form {k : Nat} {d : List Nat} (h1 : 1 ≤ k) (hk : k ≤ 32) (hd : Dg d) : formB (k : Int) (cutL k d) = true := by
  have hw : widthB (k : Int) = true := by simp [widthB]; omega
  unfold formB
  rw [hw, Int.toNat_natCast, cutL_cut2 hk hd.1]
  simp

end Go.Proofs.YtbljofojeagdkaaDoor
