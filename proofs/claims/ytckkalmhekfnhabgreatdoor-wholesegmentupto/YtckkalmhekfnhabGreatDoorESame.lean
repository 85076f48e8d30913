import Derived.Test.YtckkalmhekfnhabGreatDoorEDoc
namespace Go.Proofs.YtckkalmhekfnhabGreatDoor
open Go.RowKit Go.BigFrame
set_option linter.unusedVariables false
set_option linter.unusedSimpArgs false

theorem en_eq (a b : En) : decide (a = b) = (decide (a.k = b.k) && (decide (a.key = b.key) && decide (a.val = b.val))) := by
  cases a; cases b; simp

set_option maxRecDepth 100000 in
set_option maxHeartbeats 1000000 in
theorem sameEntry_any (a b : En) (ka va kb vb : Value) (w : World) (ha : OkE w a ka va) (hb : OkE w b kb vb) :
    Calls Tryz.prog 84 #[.agg (enC a ka va), .agg (enC b kb vb)] w fun r w' => r = .returned (.bool (decide (a = b))) ∧ Kept [] w w' := by
  rw [en_eq]
  obtain ⟨k, key, val⟩ := a
  obtain ⟨k', key', val'⟩ := b
  have HA := hide ha
  have HB := hide hb
  clear ha hb
  simp only
  obtain ⟨X, hX⟩ : ∃ X, decide (key = key') = X := ⟨_, rfl⟩
  obtain ⟨Y, hY⟩ : ∃ X, decide (val = val') = X := ⟨_, rfl⟩
  rw [hX, hY]
  have HX := hide hX
  have HY := hide hY
  clear hX hY
  unfold enC
  simp only
  have HG := hide (((Kept.refl [] (w.alloc (.cells #[.int .u8 (k : Int), ka, va] 44))).alloc (.cells #[.int .u8 (k' : Int), kb, vb] 44)).heap (heap_alloc_new w (.cells #[.int .u8 (k : Int), ka, va] 44)) (by simp))
  have HH := hide (alloc_at w (.cells #[.int .u8 (k : Int), ka, va] 44) (.cells #[.int .u8 (k' : Int), kb, vb] 44))
  have HK0 := hide (((Kept.refl [] w).alloc (.cells #[.int .u8 (k : Int), ka, va] 44)).alloc (.cells #[.int .u8 (k' : Int), kb, vb] 44))
  go_enter Tryz.func84, Tryz.ntmps84
  by_cases hk : k = k'
  · have e1 : ((k : Int) == (k' : Int)) = true := by rw [hk]; simp
    rw [decide_eq_true hk]
    have HKE := hide hk
    clear hk
    go_wp2_with fail
    refine Calls.mono (same_any _ _ key key' _ ((unhide HA).key.old (unhide HK0) (by simp)) ((unhide HB).key.old (unhide HK0) (by simp))) ?_
    rintro r w1 ⟨rfl, n1, rfl⟩
    rw [unhide HX]
    clear HX
    have HK1 := hide ((unhide HK0).drewN n1)
    have HA1 := hide ((unhide HA).val.old (unhide HK1) (by simp))
    have HB1 := hide ((unhide HB).val.old (unhide HK1) (by simp))
    cases X with
    | true =>
      go_wp2_with fail
      refine Calls.mono (same_any _ _ val val' _ (unhide HA1) (unhide HB1)) ?_
      rintro r w2 ⟨rfl, n2, rfl⟩
      rw [unhide HY]
      clear HY
      go_wp2
      go_ret
      exact ⟨by simp, (unhide HK0).drewN _⟩
    | false =>
      go_wp2
      go_ret
      exact ⟨by simp, unhide HK1⟩
  · have e1 : ((k : Int) == (k' : Int)) = false := by rw [beq_eq_false_iff_ne]; omega
    rw [decide_eq_false hk]
    clear hk
    go_wp2
    go_ret
    exact ⟨by simp, unhide HK0⟩

theorem eput3_heap {w : World} {g : Nat} {a b c : Value} {t : TypeId} (h : w.heap[g]? = some (.cells #[a, b, c] t (0, 0))) (x y z : Value) : (((w.setCell ⟨g, 0, none⟩ x).setCell ⟨g, 1, none⟩ y).setCell ⟨g, 2, none⟩ z).heap[g]? = some (.cells #[x, y, z] t (0, 0)) := by
  rw [heap_setCell_same _ g 2 _ t _ (heap_setCell_same _ g 1 _ t _ (heap_setCell_same w g 0 _ t _ h))]; rfl
theorem eput3_kept {L : List Nat} {w0 w : World} (k : Kept L w0 w) (g : Nat) (hg : g ∈ L ∨ w0.heap.size ≤ g) (x y z : Value) : Kept L w0 (((w.setCell ⟨g, 0, none⟩ x).setCell ⟨g, 1, none⟩ y).setCell ⟨g, 2, none⟩ z) := ((k.setCell hg x).setCell hg y).setCell hg z
theorem Tryz.size_entry : (Tryz.prog.info? 44).map (·.size) = some 3 := by kernel_rfl

theorem twin_ex (v : Value) (bs : List Nat) (w : World) (h : Rd w v bs) :
    Calls Tryz.prog 19 #[v] w fun e w' => ∃ v', e = .returned v' ∧ Rd w' v' bs ∧ (∀ x ∈ blk v', w.heap.size ≤ x) ∧ Kept [] w w' :=
  (twin_any v bs w h).mono fun e w' ⟨h1, h2, h3⟩ => ⟨_, h1, rd_fresh h3 h.byte h.len, by simp [blk], h2⟩
theorem Rd.one {w : World} {v : Value} {bs : List Nat} (h : Rd w v bs) : v.oneCell' = true := by obtain ⟨_, _, _, rfl, _⟩ := h; rfl

set_option maxRecDepth 100000 in
set_option maxHeartbeats 1000000 in
theorem twinEntry_any (e : En) (kv vv : Value) (w : World) (h : OkE w e kv vv) :
    Calls Tryz.prog 83 #[.agg (enC e kv vv)] w fun r w' => ∃ kv' vv', r = .returned (.agg (enC e kv' vv')) ∧ OkE w' e kv' vv' ∧ Kept [] w w' ∧ ∀ y, y ∈ blk kv' ∨ y ∈ blk vv' → w.heap.size ≤ y := by
  have H := hide h
  obtain ⟨k, key, val⟩ := e
  clear h
  unfold enC
  simp only
  have HG := hide (((Kept.refl [] (w.alloc (.cells #[.int .u8 (k : Int), kv, vv] 44))).alloc (.cells #[.int .u8 0, .slice none 0 0, .slice none 0 0] 44)).heap (heap_alloc_new w (.cells #[.int .u8 (k : Int), kv, vv] 44)) (by simp))
  have HZ := hide (alloc_at w (.cells #[.int .u8 (k : Int), kv, vv] 44) (.cells #[.int .u8 0, .slice none 0 0, .slice none 0 0] 44))
  have HK0 := hide (((Kept.refl [] w).alloc (.cells #[.int .u8 (k : Int), kv, vv] 44)).alloc (.cells #[.int .u8 0, .slice none 0 0, .slice none 0 0] 44))
  have HSZ := hide (show ((w.alloc (.cells #[.int .u8 (k : Int), kv, vv] 44)).alloc (.cells #[.int .u8 0, .slice none 0 0, .slice none 0 0] 44)).heap.size = w.heap.size + 2 by simp)
  go_enter Tryz.func83, Tryz.ntmps83
  go_wp2_with fail
  obtain ⟨W, hW⟩ : ∃ W, (w.alloc (.cells #[.int .u8 (k : Int), kv, vv] 44)).alloc (.cells #[.int .u8 0, .slice none 0 0, .slice none 0 0] 44) = W := ⟨_, rfl⟩
  rw [hW] at HG HZ HK0 HSZ ⊢
  clear hW
  have x0 : W.cell? ⟨w.heap.size, 0, none⟩ = some (.int .u8 (k : Int)) := by rw [cell_of_row _ _ _ _ _ _ (unhide HG)]; rfl
  have x1 : W.cell? ⟨w.heap.size, 1, none⟩ = some kv := by rw [cell_of_row _ _ _ _ _ _ (unhide HG)]; rfl
  have x2 : W.cell? ⟨w.heap.size, 2, none⟩ = some vv := by rw [cell_of_row _ _ _ _ _ _ (unhide HG)]; rfl
  have HX0 := hide x0
  have HX1 := hide x1
  have HX2 := hide x2
  have HKW := hide (((unhide H).key.old (unhide HK0) (by simp)).old (Kept.refl [] W).drew (by simp))
  have HVW := hide ((unhide H).val.old (unhide HK0) (by simp))
  have hne : w.heap.size ≠ w.heap.size + 1 := by omega
  go_region_held3 (fun w' => w'.cell? ⟨w.heap.size, 0, none⟩ = some (.int .u8 (k : Int)) ∧ w'.cell? ⟨w.heap.size, 1, none⟩ = some kv ∧ w'.cell? ⟨w.heap.size, 2, none⟩ = some vv) (go_keep) (first
    | (go_at_call 19; refine (twin_ex _ key _ (by exact unhide HKW)).mono ?_; rintro e w3 ⟨v3, rfl, r3, n3, k3⟩; obtain ⟨a3, m3, c3, hu3, _⟩ := id r3; subst hu3; have HR3 := hide r3; have HN3 := hide (show ∀ x ∈ blk (.slice a3 m3 c3), W.heap.size ≤ x from n3); have K3 := (Kept.refl [] W).drew.trans k3 (by simp); have HK3 := hide K3; have HV3 := hide ((unhide HVW).old K3 (by simp)); have y0 := K3.cell (unhide HX0) (by simp); have y1 := K3.cell (unhide HX1) (by simp); have y2 := K3.cell (unhide HX2) (by simp); clear K3 k3 r3 n3)
    | (go_at_call 19; refine (twin_ex _ val _ (by exact unhide HV3)).mono ?_; rintro e w4 ⟨v4, rfl, r4, n4, k4⟩; obtain ⟨a4, m4, c4, hu4, _⟩ := id r4; subst hu4; have HR4 := hide r4; have HN4 := hide n4; have HS4 := hide (unhide HK3).size; have HQ4 := hide ((unhide HR3).old k4 (by simp)); have K4 := (unhide HK3).trans k4 (by simp); have HK4 := hide K4; have z0 := K4.cell (unhide HX0) (by simp); have z1 := K4.cell (unhide HX1) (by simp); have z2 := K4.cell (unhide HX2) (by simp); have HZ4 := hide (K4.heap (unhide HZ) (by simp)); have t0 := cell_of_row _ _ 0 _ _ _ (unhide HZ4); have t1 := cell_of_row _ _ 1 _ _ _ (unhide HZ4); have t2 := cell_of_row _ _ 2 _ _ _ (unhide HZ4); have f0 := frozen_of_row _ _ 0 _ _ (unhide HZ4); have f1 := frozen_of_row _ _ 1 _ _ (unhide HZ4); have f2 := frozen_of_row _ _ 2 _ _ (unhide HZ4); clear K4 k4 r4 n4))
  all_goals go_wp2
  all_goals
    refine bodyPost_ret (v := .agg #[.int .u8 (k : Int), .slice a3 m3 c3, .slice a4 m4 c4]) ?_ rfl ⟨.slice a3 m3 c3, .slice a4 m4 c4, rfl, ⟨(unhide H).k, ?_, ?_⟩, ?_, ?_⟩
    · exact results_cell_row rfl _ _ (w.heap.size + 1) _ #[.int .u8 (k : Int), .slice a3 m3 c3, .slice a4 m4 c4] (0, 0) _ rfl (by exact eput3_heap (unhide HZ4) _ _ _) Tryz.underlying44 rfl Tryz.size_entry
    · refine (unhide HQ4).kept (eput3_kept (Kept.refl [w.heap.size + 1] w4) (w.heap.size + 1) (Or.inl (by simp)) _ _ _) ?_
      intro x hx hm
      have h9 := unhide HN3 x hx
      have h8 : x = w.heap.size + 1 := by simpa using hm
      have h7 := unhide HSZ
      omega
    · refine (unhide HR4).kept (eput3_kept (Kept.refl [w.heap.size + 1] w4) (w.heap.size + 1) (Or.inl (by simp)) _ _ _) ?_
      intro x hx hm
      have h9 := unhide HN4 x hx
      have h8 : x = w.heap.size + 1 := by simpa using hm
      have h7 := unhide HSZ
      have h6 := unhide HS4
      omega
    · exact eput3_kept ((unhide HK0).trans (unhide HK4) (by simp)) (w.heap.size + 1) (Or.inr (by omega)) _ _ _
    · intro y hy
      have h7 := unhide HSZ
      have h6 := unhide HS4
      rcases hy with hy | hy
      · have h9 := unhide HN3 y hy; omega
      · have h9 := unhide HN4 y hy; omega
end Go.Proofs.YtckkalmhekfnhabGreatDoor
