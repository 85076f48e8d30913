import Derived.Test.YtdnacefdihipnadTLay
import Derived.Test.YtdnacefdihipnadTSame
namespace Go.Proofs.Ytdnacefdihipnad
open Go.RowKit
set_option linter.unusedVariables false
set_option linter.unusedSimpArgs false
attribute [local go_sem ↓] Go.wp_at_zero Go.wp_at_succ

set_option maxRecDepth 100000 in
set_option maxHeartbeats 4000000 in
theorem took_num (b : Nat) (gv : Value) (P : List Nat) (i e : Nat) (k : Int) (x : Nat) (pv : Value) (p : List Nat) (w : World) (h : ReAt w b gv P i e) (hr : ∀ w', Kept [b] w w' → Rd w' pv p) (hx : x < 18446744073709551616) (hk : k = 0 ∨ k = 1 ∨ k = 2 ∨ k = 3 ∨ k = 4) :
    Calls Try.prog 10 #[.pointer (some ⟨b, 0, none⟩), tV k x pv] w fun r w' => ∃ bb, r = .returned (.bool bb) ∧ ((rTake P i e (kk k) p.length).1 = cutN (kk k) x → (rTake P i e (kk k) p.length).2.1 = [] → bb = true) ∧ ReAt w' b gv P (rTake P i e (kk k) p.length).2.2.1 (rTake P i e (kk k) p.length).2.2.2 ∧ Kept [b] w w' := by
  have hx' : (x : Int) ≤ 18446744073709551615 := by omega
  have hbl := h.lt
  have hr0 := hr w (Kept.refl _ _)
  obtain ⟨ao, n, c, hpv⟩ : ∃ ao n c, pv = .slice ao n c := by obtain ⟨ao, n, c, e, _⟩ := hr0; exact ⟨ao, n, c, e⟩
  have hn : p.length = n := by subst hpv; obtain ⟨_, _, _, e, e2, _⟩ := hr0; cases e; exact e2
  subst hpv hn
  have HRe := hide (fun W (kW : Kept [] (w.alloc (.cells #[.int .u8 k, .int .u64 x, .slice ao p.length c] 33)) W) => (h.kept (((Kept.refl [] w).alloc _).trans kW (by simp)) (by simp) (by simp) : ReAt W b gv P i e))
  have HC1 := hide (fun W W1 (kW : Kept [] (w.alloc (.cells #[.int .u8 k, .int .u64 x, .slice ao p.length c] 33)) W) (k1 : Kept [b] W W1) => (by
    have hrow := k1.heap (kW.heap (heap_alloc_new w _) (by simp)) (by simp; omega)
    exact ⟨by rw [cell_of_row _ _ _ _ _ _ hrow]; rfl, by rw [cell_of_row _ _ _ _ _ _ hrow]; rfl, ((((Kept.refl [] w).alloc _).trans kW (by simp)).mono (by simp)).trans k1 (by simp)⟩ : W1.cell? ⟨w.heap.size, 1, none⟩ = some (.int .u64 x) ∧ W1.cell? ⟨w.heap.size, 2, none⟩ = some (.slice ao p.length c) ∧ Kept [b] w W1))
  clear h hr hr0
  rcases hk with rfl | rfl | rfl | rfl | rfl
  · have HV := hide (show rTake P i e (kk 0) p.length = ((rNum P i e 1).1 % 256, [], (rNum P i e 1).2) from rfl)
    have HX := hide (show cutN (kk 0) x = x % 256 from rfl)
    have HL := hide (fun W (kW : Kept [] (w.alloc (.cells #[.int .u8 0, .int .u64 x, .slice ao p.length c] 33)) W) => ru8_any b gv P i e W (unhide HRe W kW))
    obtain ⟨z, hz⟩ : ∃ z, (rNum P i e 1).1 % 256 = z := ⟨_, rfl⟩
    have hzb : z < 256 := by rw [← hz]; omega
    rw [hz] at HV HL
    clear hz
    go_enter Try.func10, Try.ntmps10
    go_wp2_with fail
    go_region_with (go_at_call 23; refine (unhide HL _ (by repeat (first | exact Kept.refl _ _ | apply Kept.drew | apply Kept.drewN | apply Kept.alloc))).mono ?_; rintro r w1 ⟨rfl, h1, h2⟩; obtain ⟨q1, q2, K1⟩ := unhide HC1 _ w1 (by repeat (first | exact Kept.refl _ _ | apply Kept.drew | apply Kept.drewN | apply Kept.alloc)) h2; have H1 := hide h1; have H2 := hide K1; clear h1 h2 K1)
    all_goals
      go_wp2
      go_ret
      rw [unhide HV, unhide HX]
      refine ⟨_, rfl, ?_, by first | exact unhide H1 | exact (unhide H1).drewN 1 | exact (unhide H1).drew, by repeat (first | exact unhide H2 | apply Kept.drew | apply Kept.drewN)⟩
      intro h3 _
      have h4 : z = x % 256 := h3
      subst h4
      simp <;> first | rw [IntKind.wrap_u8] | rw [IntKind.wrap_u16] | rw [IntKind.wrap_u32]
  · have HV := hide (show rTake P i e (kk 1) p.length = ((rNum P i e 2).1 % 65536, [], (rNum P i e 2).2) from rfl)
    have HX := hide (show cutN (kk 1) x = x % 65536 from rfl)
    have HL := hide (fun W (kW : Kept [] (w.alloc (.cells #[.int .u8 1, .int .u64 x, .slice ao p.length c] 33)) W) => ru16_any b gv P i e W (unhide HRe W kW))
    obtain ⟨z, hz⟩ : ∃ z, (rNum P i e 2).1 % 65536 = z := ⟨_, rfl⟩
    have hzb : z < 65536 := by rw [← hz]; omega
    rw [hz] at HV HL
    clear hz
    go_enter Try.func10, Try.ntmps10
    go_wp2_with fail
    go_region_with (go_at_call 9; refine (unhide HL _ (by repeat (first | exact Kept.refl _ _ | apply Kept.drew | apply Kept.drewN | apply Kept.alloc))).mono ?_; rintro r w1 ⟨rfl, h1, h2⟩; obtain ⟨q1, q2, K1⟩ := unhide HC1 _ w1 (by repeat (first | exact Kept.refl _ _ | apply Kept.drew | apply Kept.drewN | apply Kept.alloc)) h2; have H1 := hide h1; have H2 := hide K1; clear h1 h2 K1)
    all_goals
      go_wp2
      go_ret
      rw [unhide HV, unhide HX]
      refine ⟨_, rfl, ?_, by first | exact unhide H1 | exact (unhide H1).drewN 1 | exact (unhide H1).drew, by repeat (first | exact unhide H2 | apply Kept.drew | apply Kept.drewN)⟩
      intro h3 _
      have h4 : z = x % 65536 := h3
      subst h4
      simp <;> first | rw [IntKind.wrap_u8] | rw [IntKind.wrap_u16] | rw [IntKind.wrap_u32]
  · have HV := hide (show rTake P i e (kk 2) p.length = ((rNum P i e 4).1 % 4294967296, [], (rNum P i e 4).2) from rfl)
    have HX := hide (show cutN (kk 2) x = x % 4294967296 from rfl)
    have HL := hide (fun W (kW : Kept [] (w.alloc (.cells #[.int .u8 2, .int .u64 x, .slice ao p.length c] 33)) W) => ru32_any b gv P i e W (unhide HRe W kW))
    obtain ⟨z, hz⟩ : ∃ z, (rNum P i e 4).1 % 4294967296 = z := ⟨_, rfl⟩
    have hzb : z < 4294967296 := by rw [← hz]; omega
    rw [hz] at HV HL
    clear hz
    go_enter Try.func10, Try.ntmps10
    go_wp2_with fail
    go_region_with (go_at_call 24; refine (unhide HL _ (by repeat (first | exact Kept.refl _ _ | apply Kept.drew | apply Kept.drewN | apply Kept.alloc))).mono ?_; rintro r w1 ⟨rfl, h1, h2⟩; obtain ⟨q1, q2, K1⟩ := unhide HC1 _ w1 (by repeat (first | exact Kept.refl _ _ | apply Kept.drew | apply Kept.drewN | apply Kept.alloc)) h2; have H1 := hide h1; have H2 := hide K1; clear h1 h2 K1)
    all_goals
      go_wp2
      go_ret
      rw [unhide HV, unhide HX]
      refine ⟨_, rfl, ?_, by first | exact unhide H1 | exact (unhide H1).drewN 1 | exact (unhide H1).drew, by repeat (first | exact unhide H2 | apply Kept.drew | apply Kept.drewN)⟩
      intro h3 _
      have h4 : z = x % 4294967296 := h3
      subst h4
      simp <;> first | rw [IntKind.wrap_u8] | rw [IntKind.wrap_u16] | rw [IntKind.wrap_u32]
  · have HV := hide (show rTake P i e (kk 3) p.length = ((rNum P i e 8).1, [], (rNum P i e 8).2) from rfl)
    have HX := hide (show cutN (kk 3) x = x from rfl)
    have HL := hide (fun W (kW : Kept [] (w.alloc (.cells #[.int .u8 3, .int .u64 x, .slice ao p.length c] 33)) W) => ru64_any b gv P i e W (unhide HRe W kW))
    obtain ⟨z, hz⟩ : ∃ z, (rNum P i e 8).1 = z := ⟨_, rfl⟩
    have hzb : z < 18446744073709551616 := by rw [← hz]; exact ru_lt _ _ _ _
    rw [hz] at HV HL
    clear hz
    go_enter Try.func10, Try.ntmps10
    go_wp2_with fail
    go_region_with (go_at_call 25; refine (unhide HL _ (by repeat (first | exact Kept.refl _ _ | apply Kept.drew | apply Kept.drewN | apply Kept.alloc))).mono ?_; rintro r w1 ⟨rfl, h1, h2⟩; obtain ⟨q1, q2, K1⟩ := unhide HC1 _ w1 (by repeat (first | exact Kept.refl _ _ | apply Kept.drew | apply Kept.drewN | apply Kept.alloc)) h2; have H1 := hide h1; have H2 := hide K1; clear h1 h2 K1)
    all_goals
      go_wp2
      go_ret
      rw [unhide HV, unhide HX]
      refine ⟨_, rfl, ?_, by first | exact unhide H1 | exact (unhide H1).drewN 1 | exact (unhide H1).drew, by repeat (first | exact unhide H2 | apply Kept.drew | apply Kept.drewN)⟩
      intro h3 _
      have h4 : z = x := h3
      subst h4
      simp <;> first | rw [IntKind.wrap_u8] | rw [IntKind.wrap_u16] | rw [IntKind.wrap_u32]
  · have HV := hide (show rTake P i e (kk 4) p.length = ((rUvar P i e).1, [], (rUvar P i e).2) from rfl)
    have HX := hide (show cutN (kk 4) x = x from rfl)
    have HL := hide (fun W (kW : Kept [] (w.alloc (.cells #[.int .u8 4, .int .u64 x, .slice ao p.length c] 33)) W) => ruvar_any b gv P i e W (unhide HRe W kW))
    obtain ⟨z, hz⟩ : ∃ z, (rUvar P i e).1 = z := ⟨_, rfl⟩
    rw [hz] at HV HL
    clear hz
    go_enter Try.func10, Try.ntmps10
    go_wp2_with fail
    go_region_with (go_at_call 26; refine (unhide HL _ (by repeat (first | exact Kept.refl _ _ | apply Kept.drew | apply Kept.drewN | apply Kept.alloc))).mono ?_; rintro r w1 ⟨rfl, h1, h2⟩; obtain ⟨q1, q2, K1⟩ := unhide HC1 _ w1 (by repeat (first | exact Kept.refl _ _ | apply Kept.drew | apply Kept.drewN | apply Kept.alloc)) h2; have H1 := hide h1; have H2 := hide K1; clear h1 h2 K1)
    all_goals
      go_wp2
      go_ret
      rw [unhide HV, unhide HX]
      refine ⟨_, rfl, ?_, by first | exact unhide H1 | exact (unhide H1).drewN 1 | exact (unhide H1).drew, by repeat (first | exact unhide H2 | apply Kept.drew | apply Kept.drewN)⟩
      intro h3 _
      have h4 : z = x := h3
      subst h4
      simp <;> first | rw [IntKind.wrap_u8] | rw [IntKind.wrap_u16] | rw [IntKind.wrap_u32]

set_option maxRecDepth 100000 in
set_option maxHeartbeats 4000000 in
theorem took_byt (b : Nat) (gv : Value) (P : List Nat) (i e : Nat) (k : Int) (x : Nat) (pv : Value) (p : List Nat) (w : World) (h : ReAt w b gv P i e) (hr : ∀ w', Kept [b] w w' → Rd w' pv p) (hx : x < 18446744073709551616) (hk : k = 5 ∨ (k ≠ 0 ∧ k ≠ 1 ∧ k ≠ 2 ∧ k ≠ 3 ∧ k ≠ 4 ∧ k ≠ 5)) :
    Calls Try.prog 10 #[.pointer (some ⟨b, 0, none⟩), tV k x pv] w fun r w' => ∃ bb, r = .returned (.bool bb) ∧ ((rTake P i e (kk k) p.length).2.1 = p → bb = true) ∧ ReAt w' b gv P (rTake P i e (kk k) p.length).2.2.1 (rTake P i e (kk k) p.length).2.2.2 ∧ Kept [b] w w' := by
  have hx' : (x : Int) ≤ 18446744073709551615 := by omega
  have hbl := h.lt
  have hr0 := hr w (Kept.refl _ _)
  obtain ⟨ao, n, c, hpv⟩ : ∃ ao n c, pv = .slice ao n c := by obtain ⟨ao, n, c, e, _⟩ := hr0; exact ⟨ao, n, c, e⟩
  have hpl := hr0.len
  have hn : p.length = n := by subst hpv; obtain ⟨_, _, _, e, e2, _⟩ := hr0; cases e; exact e2
  subst hpv hn
  have HRe := hide (fun W (kW : Kept [] (w.alloc (.cells #[.int .u8 k, .int .u64 x, .slice ao p.length c] 33)) W) => (h.kept (((Kept.refl [] w).alloc _).trans kW (by simp)) (by simp) (by simp) : ReAt W b gv P i e))
  have HC1 := hide (fun W W1 (kW : Kept [] (w.alloc (.cells #[.int .u8 k, .int .u64 x, .slice ao p.length c] 33)) W) (k1 : Kept [b] W W1) => (by
    have hrow := k1.heap (kW.heap (heap_alloc_new w _) (by simp)) (by simp; omega)
    exact ⟨by rw [cell_of_row _ _ _ _ _ _ hrow]; rfl, by rw [cell_of_row _ _ _ _ _ _ hrow]; rfl, ((((Kept.refl [] w).alloc _).trans kW (by simp)).mono (by simp)).trans k1 (by simp), hr W1 (((((Kept.refl [] w).alloc _).trans kW (by simp)).mono (by simp)).trans k1 (by simp))⟩ : W1.cell? ⟨w.heap.size, 1, none⟩ = some (.int .u64 x) ∧ W1.cell? ⟨w.heap.size, 2, none⟩ = some (.slice ao p.length c) ∧ Kept [b] w W1 ∧ Rd W1 (.slice ao p.length c) p))
  clear h hr hr0
  rcases hk with rfl | ⟨h0, h1, h2, h3, h4, h5⟩
  · have HV := hide (show rTake P i e (kk 5) p.length = (0, rRaw P i e p.length) from rfl)
    have HL := hide (fun W (kW : Kept [] (w.alloc (.cells #[.int .u8 5, .int .u64 x, .slice ao p.length c] 33)) W) => rraw_any b gv P i e p.length W (unhide HRe W kW) (by omega))
    obtain ⟨q, j, f, hz⟩ : ∃ q j f, rRaw P i e p.length = (q, j, f) := ⟨_, _, _, rfl⟩
    rw [hz] at HV HL
    clear hz 
    go_enter Try.func10, Try.ntmps10
    go_wp2_with fail
    go_region_with (first
      | (go_at_call 28; refine (unhide HL _ (by repeat (first | exact Kept.refl _ _ | apply Kept.drew | apply Kept.drewN | apply Kept.alloc))).mono ?_; rintro r w1 ⟨rv, rfl, h1, h2, h3, h4⟩; obtain ⟨q1, q2, K1, HP1⟩ := unhide HC1 _ w1 (by repeat (first | exact Kept.refl _ _ | apply Kept.drew | apply Kept.drewN | apply Kept.alloc)) h3; have HS := hide (tsame_any rv _ q p w1 h1 HP1); have H1 := hide h2; have H2 := hide K1; clear h1 h2 h3 h4 K1 HP1)
      | (go_at_call 27; refine (unhide HS).mono ?_; rintro r w2 ⟨rfl, hw2⟩; subst w2))
    all_goals
      go_wp2
      go_ret
      rw [unhide HV]
      refine ⟨_, rfl, ?_, by first | exact unhide H1, by repeat (first | exact unhide H2 | apply Kept.drew | apply Kept.drewN)⟩
      intro h3
      have h4 : q = p := h3
      subst h4
      simp
  · have t0 : (k == 0) = false := by simp [h0]
    have t1 : (k == 1) = false := by simp [h1]
    have t2 : (k == 2) = false := by simp [h2]
    have t3 : (k == 3) = false := by simp [h3]
    have t4 : (k == 4) = false := by simp [h4]
    have t5 : (k == 5) = false := by simp [h5]
    have HV := hide (show rTake P i e (kk k) p.length = (0, rBlob P i e p.length) from by simp [kk, h0, h1, h2, h3, h4, h5, rTake])
    have HL := hide (fun W (kW : Kept [] (w.alloc (.cells #[.int .u8 k, .int .u64 x, .slice ao p.length c] 33)) W) => rblob_any b gv P i e p.length W (unhide HRe W kW) (by omega))
    obtain ⟨q, j, f, hz⟩ : ∃ q j f, rBlob P i e p.length = (q, j, f) := ⟨_, _, _, rfl⟩
    rw [hz] at HV HL
    clear hz h0 h1 h2 h3 h4 h5
    go_enter Try.func10, Try.ntmps10
    go_wp2_with fail
    go_region_with (first
      | (go_at_call 29; refine (unhide HL _ (by repeat (first | exact Kept.refl _ _ | apply Kept.drew | apply Kept.drewN | apply Kept.alloc))).mono ?_; rintro r w1 ⟨rv, rfl, h1, h2, h3, h4⟩; obtain ⟨q1, q2, K1, HP1⟩ := unhide HC1 _ w1 (by repeat (first | exact Kept.refl _ _ | apply Kept.drew | apply Kept.drewN | apply Kept.alloc)) h3; have HS := hide (tsame_any rv _ q p w1 h1 HP1); have H1 := hide h2; have H2 := hide K1; clear h1 h2 h3 h4 K1 HP1)
      | (go_at_call 27; refine (unhide HS).mono ?_; rintro r w2 ⟨rfl, hw2⟩; subst w2))
    all_goals
      go_wp2
      go_ret
      rw [unhide HV]
      refine ⟨_, rfl, ?_, by first | exact unhide H1, by repeat (first | exact unhide H2 | apply Kept.drew | apply Kept.drewN)⟩
      intro h3
      have h4 : q = p := h3
      subst h4
      simp
end Go.Proofs.Ytdnacefdihipnad
