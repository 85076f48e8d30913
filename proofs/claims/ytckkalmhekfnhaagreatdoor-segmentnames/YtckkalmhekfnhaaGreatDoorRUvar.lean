import Derived.Test.YtckkalmhekfnhaaGreatDoorRWide
import Derived.Test.YtckkalmhekfnhaaGreatDoorCat
namespace Go.Proofs.YtckkalmhekfnhaaGreatDoor
open Go.RowKit
set_option linter.unusedVariables false
set_option linter.unusedSimpArgs false
attribute [local go_sem ↓] Go.wp_at_zero Go.wp_at_succ

set_option maxRecDepth 100000 in
set_option maxHeartbeats 1000000 in
theorem refUvar_any (x : Nat) (w : World) (hx : x < 18446744073709551616) :
    Calls Tryz.prog 71 #[.int .u64 x] w fun e w' => ∃ lv, e = .returned lv ∧ Rd w' lv (uv x) ∧ Kept [] w w' ∧ ∀ y ∈ blk lv, w.heap.size ≤ y := by
  go_enter Tryz.func71, Tryz.ntmps71
  go_wp2_with fail
  go_loopw [0, 3] (fun t0 t3 wr => ∃ (y : Nat) (cur : List Nat) (ao : Option Addr) (cap : Nat), t0 = .int .u64 y ∧ t3 = .slice ao cur.length cap ∧ y ≤ x ∧ Hid (cur ++ uv y = uv x) ∧ Hid (wr.ownsRow w.heap.size 5 1 (.slice ao cur.length cap) cur.length (cur.map u8)) ∧ Hid (Kept [] w wr)) (fun t _ _ => (intOf t).toNat)
  case atStart => exact ⟨x, [], none, 0, rfl, rfl, Nat.le_refl _, rfl, World.ownsRow_nil _ _ _ _, Kept.refl _ _⟩
  case round =>
    obtain ⟨y, cur, ao, cap, rfl, rfl, hy, Hp, HW, HK⟩ := hrel
    have hlen : cur.length + 1 ≤ 140737488355328 := by have h1 := congrArg List.length (unhide Hp); have h2 := uv_len x hx; have h3 := uv_pos y; simp at h1; omega
    have hcb : ∀ z ∈ cur, z < 256 := fun z hz => uv_byte x z (by rw [← unhide Hp]; simp [hz])
    have Hcb := hide hcb
    have hsz := (unhide HK).size
    clear hcb
    by_cases hlt : y < 128
    · have hlt' : (y : Int) < 128 := by omega
      have hrs : Rd (wr.alloc (.cells #[.int .u8 (y : Int)] 5)) (.slice (some ⟨wr.heap.size, 0, none⟩) 1 1) [y] := rd_lit (heap_alloc_new wr _) rfl (by simp; omega) 1 rfl (by omega)
      have HRs := hide hrs
      clear hrs
      go_wp2_with (at_builtin; go_must (refine wpList_appendAll rfl (.tmp 15) (.tmp 18) rfl rfl _ w.heap.size (.slice ao cur.length cap) cur [y] _ 1 1 (by exact (unhide HW).alloc _) (by exact unhide HRs) (by simpa using hlen) (by simp; omega) rfl rfl ?_; intro ao1 cap1 w1 HO1 HG1 HA1; simp only [List.length_cons, List.length_nil, Nat.zero_add] at HO1 HG1 HA1))
      go_ret
      have hk1 := ((unhide HK).alloc (.cells #[.int .u8 (y : Int)] 5)).grown (unhide HG1) (by intro k hk; right; exact ((unhide HW).lt k hk).1)
      refine ⟨_, rfl, ?_, hk1, ?_⟩
      · rw [← unhide Hp, uv_lt hlt]
        have h5 := unhide HO1
        rw [← List.length_singleton (a := y), ← List.length_append] at h5
        simpa using rd_owns h5 (by intro z hz; simp at hz; rcases hz with hz | rfl; exact unhide Hcb z hz; omega) (by simp; omega)
      · intro z hz
        cases ao1 with
        | none => simp [blk] at hz
        | some a => simp [blk] at hz; subst hz; exact ((unhide HO1).lt a.block rfl).1
    · have hge : 128 ≤ (y : Int) := by omega
      have hrs : Rd (wr.alloc (.cells #[.int .u8 ((y : Int) % 128 + 128)] 5)) (.slice (some ⟨wr.heap.size, 0, none⟩) 1 1) [y % 128 + 128] := rd_lit (heap_alloc_new wr _) (by simp) (by simp; omega) 1 rfl (by omega)
      have HRs := hide hrs
      clear hrs
      go_wp2_with (at_builtin; go_must (refine wpList_appendAll rfl (.tmp 6) (.tmp 11) rfl rfl _ w.heap.size (.slice ao cur.length cap) cur [y % 128 + 128] _ 1 1 (by exact (unhide HW).alloc _) (by exact unhide HRs) (by simpa using hlen) (by simp; omega) rfl rfl ?_; intro ao1 cap1 w1 HO1 HG1 HA1; simp only [List.length_cons, List.length_nil, Nat.zero_add] at HO1 HG1 HA1))
      have hk1 := ((unhide HK).alloc (.cells #[.int .u8 ((y : Int) % 128 + 128)] 5)).grown (unhide HG1) (by intro k hk; right; exact ((unhide HW).lt k hk).1)
      have HK1 := hide hk1
      clear hk1
      go_wp2
      go_roundw
      case rel => exact ⟨y / 128, cur ++ [y % 128 + 128], ao1, cap1, by simp, by simp, by omega, hide (by rw [← unhide Hp, uv_ge (v := y) (by omega)]; simp), hide (by have h5 := unhide HO1; simpa using h5), HK1⟩
      case measure => simp [intOf]; omega

set_option maxRecDepth 100000 in
set_option maxHeartbeats 1000000 in
theorem refBlob_any (v : Value) (p : List Nat) (w : World) (h : Rd w v p) (hp : p.length ≤ 70368744177664) :
    Calls Tryz.prog 110 #[v] w fun e w' => ∃ lv, e = .returned lv ∧ Rd w' lv (uv p.length ++ p) ∧ Kept [] w w' ∧ ∀ y ∈ blk lv, w.heap.size ≤ y := by
  have HR := hide h
  obtain ⟨ao, n, c, rfl, rfl, _⟩ := h
  have hul := uv_len p.length (by omega)
  go_enter Tryz.func110, Tryz.ntmps110
  go_wp2_with fail
  refine (refUvar_any p.length _ (by omega)).mono ?_
  rintro e w1 ⟨lv, rfl, hr1, k1, hb1⟩
  have HR1 := hide hr1
  have HK1 := hide k1
  clear hr1 k1 hb1
  go_wp2_with fail
  refine (join_any _ _ (uv p.length) p _ (unhide HR1) (by exact (unhide HR).old (unhide HK1) (by simp)) (by omega)).mono ?_
  rintro e w2 ⟨lv2, rfl, hr2, k2, hb2⟩
  have HR2 := hide hr2
  have HK2 := hide ((unhide HK1).trans k2 (by simp))
  have HB2 := hide (fun y (hy : y ∈ blk lv2) => (by have h1 := hb2 y hy; have h2 := (unhide HK1).size; omega : w.heap.size ≤ y))
  clear hr2 k2 hb2
  go_wp2
  go_ret
  exact ⟨_, rfl, unhide HR2, unhide HK2, unhide HB2⟩

set_option maxRecDepth 100000 in
set_option maxHeartbeats 1000000 in
/-- Join, and what it answers is new and owned. -/
theorem join_own (u v : Value) (p q : List Nat) (w : World) (hu : Rd w u p) (hv : Rd w v q) (hl : p.length + q.length ≤ 140737488355328) :
    Calls Tryz.prog 27 #[u, v] w fun e w' => ∃ lv, e = .returned lv ∧ w'.ownsRow w.heap.size 5 1 lv (p ++ q).length ((p ++ q).map u8) ∧ Kept [] w w' := by
  have HU := hide hu
  have HV := hide hv
  obtain ⟨a1, n1, c1, rfl, hn1, _⟩ := hu
  obtain ⟨a2, n2, c2, rfl, hn2, _⟩ := hv
  subst hn1
  subst hn2
  obtain ⟨i0, hi, hz0, hz1, hz2⟩ := info_parts Tryz.info5
  have hmk : ∀ W : World, (Instr.makeSlice 36 (.int .i64 0) (.int .i64 ((p.length : Int) + q.length))).run Tryz.prog W =
      .ok (.slice (some ⟨W.heap.size, 0, none⟩) 0 (p.length + q.length)) (W.alloc (.cells (zeros (p.length + q.length)).toArray 5)) := fun W => by
    have h := run_make (P := Tryz.prog) W 36 5 i0 (.int .u8 0) Tryz.underlying36 hi hz0 .i64 .i64 0 ((p.length : Int) + q.length) (by omega) (by omega) (by rw [hz2]; omega) (by omega)
    have e : ((p.length : Int) + q.length).toNat = p.length + q.length := by omega
    rw [e] at h
    simpa [hz1, Value.cells, madeZeros] using h
  clear hi hz0 hz1 hz2
  have HO := hide (World.ownsRow_made (base := w.heap.size) (e := 5) (size := 1) w (zeros (p.length + q.length)).toArray (p.length + q.length) (Nat.le_refl _) (by unfold maxLen; omega) (by simp [zeros]))
  have HU1 := hide ((unhide HU).old ((Kept.refl [] w).alloc (.cells (zeros (p.length + q.length)).toArray 5)) (by simp))
  go_enter Tryz.func27, Tryz.ntmps27
  go_wp2_with (at_builtin; first
    | (refine wpList_appendAll rfl (.tmp 12) (.tmp 13) rfl rfl _ w.heap.size (.slice (some ⟨w.heap.size, 0, none⟩) 0 (p.length + q.length)) [] p a1 p.length c1 (by exact unhide HO) (by exact unhide HU1) (by simp; omega) (by simp) rfl rfl ?_; intro ao1 cap1 w1 HO1 HG1 HA1; simp only [List.nil_append, List.length_nil, Nat.zero_add] at HO1 HA1; have HK1 := hide (((Kept.refl [] w).alloc _).grown (unhide HG1) (by intro k hk; right; simp [Value.ownBlock] at hk; omega)); have HA1' := hide (show ∀ g, (Value.slice ao1 p.length cap1).ownBlock = some g → w.heap.size ≤ g from fun g hg => ((unhide HO1).lt g hg).1); clear HG1 HA1)
    | (refine wpList_appendAll rfl (.tmp 15) (.tmp 16) rfl rfl _ w.heap.size (.slice ao1 p.length cap1) p q a2 q.length c2 (by exact unhide HO1) (by exact (unhide HV).old (unhide HK1) (by simp)) hl (by have := (unhide HK1).size; omega) (by simp [Act.eval]) (by simp [Act.eval]) ?_; intro ao2 cap2 w2 HO2 HG2 HA2; have HK2 := hide ((unhide HK1).grown (unhide HG2) (by intro k hk; right; exact unhide HA1' k hk)); clear HG2 HA2))
  go_ret
  refine ⟨_, rfl, ?_, unhide HK2⟩
  exact unhide HO2

end Go.Proofs.YtckkalmhekfnhaaGreatDoor
