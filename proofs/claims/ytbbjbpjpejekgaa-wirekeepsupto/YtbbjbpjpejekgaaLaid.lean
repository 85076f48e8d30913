import Derived.Test.YtbbjbpjpejekgaaGen
namespace Go.Proofs.Ytbbjbpjpejekgaa
open Go.RowKit
set_option linter.unusedVariables false
set_option linter.unusedSimpArgs false
attribute [local go_sem ↓] Go.wp_at_zero Go.wp_at_succ

/-- What 'Wide' has laid so far. -/
def wideCells (v n j : Nat) : Array Value := (zeros j ++ (wide v (n - j)).map u8).toArray
theorem wideCells_size (v n j : Nat) (h : j ≤ n) : (wideCells v n j).size = n := by simp [wideCells, zeros, wide_len]; omega
theorem wideCells_set (v n m : Nat) (h : m < n) : (wideCells v n (m + 1)).setIfInBounds m (u8 (v / 256 ^ (n - (m + 1)) % 256)) = wideCells v n m := by
  apply Array.toList_inj.1
  rw [Array.toList_setIfInBounds]
  simp only [wideCells]
  have e : n - m = (n - (m + 1)) + 1 := by omega
  rw [e]
  simp only [wide, List.map_cons]
  have hz : zeros (m + 1) = zeros m ++ [.int .u8 0] := by simp [zeros, List.replicate_succ']
  rw [hz]
  have hl : (zeros m).length = m := by simp [zeros]
  simp [List.set_append, hl]

set_option maxRecDepth 100000 in
set_option maxHeartbeats 1000000 in
theorem refWide_any (v n : Nat) (w : World) (hv : v < 18446744073709551616) (hn : n ≤ 8) :
    Calls Try.prog 36 #[.int .u64 v, .int .i64 n] w fun e w' => e = .returned (.slice (some ⟨w.heap.size, 0, none⟩) n n) ∧ Kept [] w w' ∧ w'.heap[w.heap.size]? = some (.cells ((wide v n).map u8).toArray 5 (0, 0)) := by
  have hmk := run_make_row' (P := Try.prog) 22 5 (.int .u8 0) 1 Try.underlying22 Try.info5 rfl .i64 .i64 n (by omega) (by omega)
  simp only [madeZeros] at hmk
  have h0 : (zeros n).toArray = wideCells v n n := by simp [wideCells, wide]
  rw [h0] at hmk
  clear h0
  go_enter Try.func36, Try.ntmps36
  go_wp2_with fail
  go_loopw [0, 6] (fun t0 t6 wr => ∃ (j y : Nat), j ≤ n ∧ y ≤ v ∧ t6 = .int .i64 ((j : Int) - 1) ∧ t0 = .int .u64 y ∧ Hid (y = v / 256 ^ (n - j)) ∧ wr = w.alloc (.cells (wideCells v n j) 5)) (fun _ t _ => (intOf t + 1).toNat)
  case atStart => exact ⟨n, v, Nat.le_refl _, Nat.le_refl _, rfl, rfl, hide (by simp), rfl⟩
  case round =>
    obtain ⟨j, y, hj, hyv, rfl, rfl, Hy, rfl⟩ := hrel
    by_cases hj0 : j = 0
    · subst hj0
      go_wp2
      go_ret
      refine ⟨rfl, (Kept.refl [] w).alloc _, ?_⟩
      rw [heap_alloc_new]; simp [wideCells, zeros]
    · obtain ⟨m, rfl⟩ : ∃ m, j = m + 1 := ⟨j - 1, by omega⟩
      have e1 : (((m + 1 : Nat) : Int) - 1) = (m : Int) := by omega
      rw [e1]
      have hm0 : (0 : Int) ≤ m := by omega
      have hmn : (m : Int) < n := by omega
      have hsz := wideCells_size v n (m + 1) (by omega)
      have hset := wideCells_set v n m (by omega)
      rw [← unhide Hy] at hset
      have hcell : ∃ c, (wideCells v n (m + 1))[m]? = some c := ⟨_, Array.getElem?_eq_getElem (by rw [hsz]; omega)⟩
      obtain ⟨c, hc⟩ := hcell
      have hset' : (wideCells v n (m + 1)).setIfInBounds m (.int .u8 ((y : Int) % 256)) = wideCells v n m := by rw [← hset]; simp [u8]
      clear hset e1
      generalize hA : wideCells v n (m + 1) = A at *
      generalize hB : wideCells v n m = B at *
      have HB := hide hB
      clear hA hB hsz
      go_wp2
      go_roundw
      case rel => exact ⟨m, y / 256, by omega, by omega, rfl, by simp, hide (by rw [unhide Hy, Nat.div_div_eq_div_mul, ← Nat.pow_succ]; congr 2; omega), by rw [unhide HB]⟩
      case measure => simp [intOf]

set_option maxRecDepth 100000 in
set_option maxHeartbeats 1000000 in
theorem refUvar_any (x : Nat) (w : World) (hx : x < 18446744073709551616) :
    Calls Try.prog 38 #[.int .u64 x] w fun e w' => ∃ lv, e = .returned lv ∧ Rd w' lv (uv x) ∧ Kept [] w w' ∧ ∀ y ∈ blk lv, w.heap.size ≤ y := by
  go_enter Try.func38, Try.ntmps38
  go_wp2_with fail
  go_loopw [0, 3] (fun t0 t3 wr => ∃ (y : Nat) (cur : List Nat) (ao : Option Addr) (cap : Nat), t0 = .int .u64 y ∧ t3 = .slice ao cur.length cap ∧ y ≤ x ∧ Hid (cur ++ uv y = uv x) ∧ Hid (wr.ownsRow w.heap.size 5 1 (.slice ao cur.length cap) cur.length (cur.map u8)) ∧ Hid (Kept [] w wr)) (fun t _ _ => (intOf t).toNat)
  case atStart => exact ⟨x, [], none, 0, rfl, rfl, Nat.le_refl _, rfl, World.ownsRow_nil _ _ _ _, Kept.refl _ _⟩
  case round =>
    obtain ⟨y, cur, ao, cap, rfl, rfl, hy, Hp, HW, HK⟩ := hrel
    have hlen : cur.length + 1 ≤ 140737488355328 := by have h1 := congrArg List.length (unhide Hp); have h2 := uv_len x hx; have h3 := uv_pos y; simp at h1; omega
    have hcb : ∀ z ∈ cur, z < 256 := fun z hz => uv_byte x z (by rw [← unhide Hp]; simp [hz])
    have Hcb := hide hcb
    have hsz := (unhide HK).size
    clear hcb
    by_cases hlt : y < 128
    · have hlt' : (y : Int) < 128 := by omega
      have hrs : Rd (wr.alloc (.cells #[.int .u8 (y : Int)] 5)) (.slice (some ⟨wr.heap.size, 0, none⟩) 1 1) [y] := rd_lit (heap_alloc_new wr _) rfl (by simp; omega) 1 rfl (by omega)
      have HRs := hide hrs
      clear hrs
      go_wp2_with (at_builtin; go_must (refine wpList_appendAll rfl (.tmp 15) (.tmp 18) rfl rfl _ w.heap.size (.slice ao cur.length cap) cur [y] _ 1 1 (by exact (unhide HW).alloc _) (by exact unhide HRs) (by simpa using hlen) (by simp; omega) rfl rfl ?_; intro ao1 cap1 w1 HO1 HG1 HA1; simp only [List.length_cons, List.length_nil, Nat.zero_add] at HO1 HG1 HA1))
      go_ret
      have hk1 := ((unhide HK).alloc (.cells #[.int .u8 (y : Int)] 5)).grown (unhide HG1) (by intro k hk; right; exact ((unhide HW).lt k hk).1)
      refine ⟨_, rfl, ?_, hk1, ?_⟩
      · rw [← unhide Hp, uv_lt hlt]
        have h5 := unhide HO1
        rw [← List.length_singleton (a := y), ← List.length_append] at h5
        simpa using rd_owns h5 (by intro z hz; simp at hz; rcases hz with hz | rfl; exact unhide Hcb z hz; omega) (by simp; omega)
      · intro z hz
        cases ao1 with
        | none => simp [blk] at hz
        | some a => simp [blk] at hz; subst hz; exact ((unhide HO1).lt a.block rfl).1
    · have hge : 128 ≤ (y : Int) := by omega
      have hrs : Rd (wr.alloc (.cells #[.int .u8 ((y : Int) % 128 + 128)] 5)) (.slice (some ⟨wr.heap.size, 0, none⟩) 1 1) [y % 128 + 128] := rd_lit (heap_alloc_new wr _) (by simp) (by simp; omega) 1 rfl (by omega)
      have HRs := hide hrs
      clear hrs
      go_wp2_with (at_builtin; go_must (refine wpList_appendAll rfl (.tmp 6) (.tmp 11) rfl rfl _ w.heap.size (.slice ao cur.length cap) cur [y % 128 + 128] _ 1 1 (by exact (unhide HW).alloc _) (by exact unhide HRs) (by simpa using hlen) (by simp; omega) rfl rfl ?_; intro ao1 cap1 w1 HO1 HG1 HA1; simp only [List.length_cons, List.length_nil, Nat.zero_add] at HO1 HG1 HA1))
      have hk1 := ((unhide HK).alloc (.cells #[.int .u8 ((y : Int) % 128 + 128)] 5)).grown (unhide HG1) (by intro k hk; right; exact ((unhide HW).lt k hk).1)
      have HK1 := hide hk1
      clear hk1
      go_wp2
      go_roundw
      case rel => exact ⟨y / 128, cur ++ [y % 128 + 128], ao1, cap1, by simp, by simp, by omega, hide (by rw [← unhide Hp, uv_ge (v := y) (by omega)]; simp), hide (by have h5 := unhide HO1; simpa using h5), HK1⟩
      case measure => simp [intOf]; omega

set_option maxRecDepth 100000 in
set_option maxHeartbeats 1000000 in
theorem refBlob_any (v : Value) (p : List Nat) (w : World) (h : Rd w v p) (hp : p.length ≤ 70368744177664) :
    Calls Try.prog 39 #[v] w fun e w' => ∃ lv, e = .returned lv ∧ Rd w' lv (uv p.length ++ p) ∧ Kept [] w w' ∧ ∀ y ∈ blk lv, w.heap.size ≤ y := by
  have HR := hide h
  obtain ⟨ao, n, c, rfl, rfl, _⟩ := h
  have hul := uv_len p.length (by omega)
  go_enter Try.func39, Try.ntmps39
  go_wp2_with fail
  refine (refUvar_any p.length _ (by omega)).mono ?_
  rintro e w1 ⟨lv, rfl, hr1, k1, hb1⟩
  have HR1 := hide hr1
  have HK1 := hide k1
  clear hr1 k1 hb1
  go_wp2_with fail
  refine (join_any _ _ (uv p.length) p _ (unhide HR1) (by exact (unhide HR).old (unhide HK1) (by simp)) (by omega)).mono ?_
  rintro e w2 ⟨lv2, rfl, hr2, k2, hb2⟩
  have HR2 := hide hr2
  have HK2 := hide ((unhide HK1).trans k2 (by simp))
  have HB2 := hide (fun y (hy : y ∈ blk lv2) => (by have h1 := hb2 y hy; have h2 := (unhide HK1).size; omega : w.heap.size ≤ y))
  clear hr2 k2 hb2
  go_wp2
  go_ret
  exact ⟨_, rfl, unhide HR2, unhide HK2, unhide HB2⟩

set_option maxRecDepth 100000 in
set_option maxHeartbeats 4000000 in
theorem laid_wide (k : Int) (x : Nat) (n : Int) (pv : Value) (w : World) (hx : x < 18446744073709551616) (hk : 0 < widthN k) (h8 : widthN k ≤ 8) :
    Calls Try.prog 18 #[opV k x n pv] w fun e w' => ∃ lv, e = .returned lv ∧ Rd w' lv (wide (cutN k x) (widthN k)) ∧ Kept [] w w' ∧ ∀ y ∈ blk lv, w.heap.size ≤ y := by
  have hcl := (by unfold cutN; repeat (first | (split; omega) | omega) : cutN k x < 18446744073709551616)
  have hcut := fun W => cut_any k x n pv W hx
  have hwid := fun W => width_any k W
  obtain ⟨m, hm⟩ : ∃ m, widthN k = m := ⟨_, rfl⟩
  obtain ⟨z, hz⟩ : ∃ z, cutN k x = z := ⟨_, rfl⟩
  simp only [hm] at hwid
  simp only [hz] at hcut
  rw [hm] at hk h8 ⊢
  rw [hz] at hcl ⊢
  have Hcut := hide hcut
  have Hwid := hide hwid
  have Hwide := hide (fun W => refWide_any z m W hcl h8)
  have hm0 : (0 : Int) < m := by omega
  clear hcut hwid hm hz
  go_enter Try.func18, Try.ntmps18
  go_wp2_with fail
  refine (unhide Hwid _).mono ?_
  rintro e w1 ⟨rfl, hw1⟩
  subst w1
  go_wp2_with fail
  go_region_with (first
    | (go_at_call 37; refine (unhide Hcut _).mono ?_; rintro e w1 ⟨rfl, k1⟩; have c0 := k1.cell (a := ⟨w.heap.size, 0, none⟩) (v := .int .i64 k) (by simp [go_sem]) (by simp); have HK1 := hide (show Kept [] w w1 from (((Kept.refl [] w).alloc _).drew).trans k1 (by simp)); clear k1)
    | (go_at_call 35; refine (unhide Hwid _).mono ?_; rintro e w2 ⟨rfl, hw2⟩; subst w2)
    | (go_at_call 36; refine (unhide Hwide _).mono ?_; rintro e w3 ⟨rfl, k3, h3⟩; have HK3 := hide k3; have H3 := hide h3; clear k3 h3))
  all_goals
    have hlw := (unhide HK1).size
    go_wp2
    go_ret
    refine ⟨.slice (some ⟨w1.heap.size, 0, none⟩) m m, rfl, ?_, (unhide HK1).trans (unhide HK3) (by simp), by simp [blk]; omega⟩
    have h5 := rd_fresh (unhide H3) (wide_byte z m) (by rw [wide_len]; omega)
    rw [wide_len] at h5
    exact h5

theorem layB_w {k : Int} {x : Nat} {p : List Nat} (h : 0 < widthN k) : layB k x p = wide (cutN k x) (widthN k) ∧ widthN k ≤ 8 := by
  rcases kinds4 k with rfl | rfl | rfl | rfl | ⟨h1, h2, h3, h4⟩
  · exact ⟨rfl, by decide⟩
  · exact ⟨rfl, by decide⟩
  · exact ⟨rfl, by decide⟩
  · exact ⟨rfl, by decide⟩
  · simp [widthN, h1, h2, h3, h4] at h

set_option maxRecDepth 100000 in
set_option maxHeartbeats 4000000 in
theorem laid_any (k : Int) (x : Nat) (n : Int) (pv : Value) (p : List Nat) (w : World) (hx : x < 18446744073709551616) (hr : Rd w pv p) (hp : p.length ≤ 70368744177664) :
    Calls Try.prog 18 #[opV k x n pv] w fun e w' => ∃ lv, e = .returned lv ∧ Rd w' lv (layB k x p) ∧ Kept [] w w' ∧ ∀ y ∈ blk lv, w.heap.size ≤ y := by
  by_cases hw : 0 < widthN k
  · obtain ⟨e, h8⟩ := layB_w (x := x) (p := p) hw
    rw [e]
    exact laid_wide k x n pv w hx hw h8
  · have hw0 : widthN k = 0 := by omega
    have HR := hide (hr.old ((Kept.refl [] w).alloc (.cells #[.int .i64 k, .int .u64 x, .int .i64 n, pv] 44)) (by simp))
    have hx' : (x : Int) ≤ 18446744073709551615 := by omega
    have Hwid := hide (fun W => width_any k W)
    have Hw0 := hide hw0
    rcases kinds7 k with rfl | rfl | rfl | rfl | rfl | rfl | rfl | ⟨h1, h2, h3, h4, h5, h6, h7⟩
    · exact absurd (by decide) hw
    · exact absurd (by decide) hw
    · exact absurd (by decide) hw
    · exact absurd (by decide) hw
    · clear hw hw0 hr
      have HV := hide (show layB 5 x p = uv x from rfl)
      go_enter Try.func18, Try.ntmps18
      go_wp2_with fail
      refine (unhide Hwid _).mono ?_
      rintro e w1 ⟨rfl, hw1⟩
      subst w1
      rw [unhide Hw0]
      go_wp2_with fail
      refine (refUvar_any x _ hx).mono ?_
      rintro e w1 ⟨lv, rfl, hr1, k1, hb1⟩
      have HR1 := hide hr1
      have HK1 := hide (((Kept.refl [] w).alloc _).trans k1 (by simp))
      have HB1 := hide (fun y (hy : y ∈ blk lv) => (by have := hb1 y hy; simp at this; omega : w.heap.size ≤ y))
      clear hr1 k1 hb1
      go_wp2
      go_ret
      rw [unhide HV]
      exact ⟨_, rfl, unhide HR1, unhide HK1, unhide HB1⟩
    · clear hw hw0 hr
      have HV := hide (show layB 6 x p = p from rfl)
      go_enter Try.func18, Try.ntmps18
      go_wp2_with fail
      refine (unhide Hwid _).mono ?_
      rintro e w1 ⟨rfl, hw1⟩
      subst w1
      rw [unhide Hw0]
      go_wp2_with fail
      refine (twin_any pv p _ (unhide HR)).mono ?_
      rintro e w1 ⟨rfl, k1, h1⟩
      have HR1 := hide (rd_fresh h1 (unhide HR).byte (by omega))
      have HK1 := hide (((Kept.refl [] w).alloc _).trans k1 (by simp))
      clear k1 h1
      go_wp2
      go_ret
      rw [unhide HV]
      exact ⟨.slice (some ⟨w.heap.size + 1, 0, none⟩) p.length p.length, rfl, by simpa using unhide HR1, unhide HK1, by simp [blk]⟩
    · clear hw hw0 hr
      have HV := hide (show layB 7 x p = uv p.length ++ p from rfl)
      go_enter Try.func18, Try.ntmps18
      go_wp2_with fail
      refine (unhide Hwid _).mono ?_
      rintro e w1 ⟨rfl, hw1⟩
      subst w1
      rw [unhide Hw0]
      go_wp2_with fail
      refine (refBlob_any pv p _ (unhide HR) hp).mono ?_
      rintro e w1 ⟨lv, rfl, hr1, k1, hb1⟩
      have HR1 := hide hr1
      have HK1 := hide (((Kept.refl [] w).alloc _).trans k1 (by simp))
      have HB1 := hide (fun y (hy : y ∈ blk lv) => (by have := hb1 y hy; simp at this; omega : w.heap.size ≤ y))
      clear hr1 k1 hb1
      go_wp2
      go_ret
      rw [unhide HV]
      exact ⟨_, rfl, unhide HR1, unhide HK1, unhide HB1⟩
    · have t5 : (k == 5) = false := by simp [h5]
      have t6 : (k == 6) = false := by simp [h6]
      have t7 : (k == 7) = false := by simp [h7]
      have HV := hide (by simp [layB, h1, h2, h3, h4, h5, h6, h7] : layB k x p = [])
      clear hw hw0 hr h1 h2 h3 h4 h5 h6 h7
      go_enter Try.func18, Try.ntmps18
      go_wp2_with fail
      refine (unhide Hwid _).mono ?_
      rintro e w1 ⟨rfl, hw1⟩
      subst w1
      rw [unhide Hw0]
      go_wp2
      go_ret
      rw [unhide HV]
      exact ⟨_, rfl, Rd.nil _, (Kept.refl [] w).alloc _, by simp [blk]⟩
end Go.Proofs.Ytbbjbpjpejekgaa
