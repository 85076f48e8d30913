import Derived.Test.YtnepbjnemgebiabFScan
import Derived.Test.YtnepbjnemgebiabQKeep
namespace Go.Proofs.Ytnepbjnemgebiab
open Go.RowKit Go.BigFrame
set_option linter.unusedVariables false
set_option linter.unusedSimpArgs false

theorem run_loadS {P : Program} {o : Oper} {a : Act} (ty : TypeId) (x : Operand) (ho : o.op = .load ty x) (ad : Addr) (hx : a.eval x = .pointer (some ad)) (w : World) (v : Value) (e : TypeId) (hu : P.underlying ty = some (.slice e)) (hc : w.cell? ad = some v) :
    (execOp a.eval o).run P w = .ok (.value v) w := by
  have h2 : (isAgg ty).run P w = .ok false w := by
    unfold isAgg
    rw [Sem.run_bind, run_underlying hu w]; simp
  unfold execOp
  simp only [ho, hx, Instr.loadAt, Instr.sureAddr, Sem.run_bind, Sem.run_pure, Result.andThen_ok, loadVar, h2]
  simp [go_sem, hc]
theorem scanL_nil {f n : Nat} {p : List Nat} (hf : p.length ≤ n + f) (h : (scanL f p n).1 = []) : firstF (p.drop n) = none ∧ (scanL f p n).2 = n := by
  cases f with
  | zero => exact ⟨firstF_short (by rw [List.length_drop]; omega), rfl⟩
  | succ f =>
    cases hx : firstF (p.drop n) with
    | none => rw [scanL_none hx]; exact ⟨rfl, rfl⟩
    | some x => rw [scanL_some hx] at h; simp at h
theorem scanL_cons {f n : Nat} {p : List Nat} {x : Nat × List Nat} {r : List (Nat × List Nat)} (h : (scanL f p n).1 = x :: r) : firstF (p.drop n) = some x ∧ ∃ f', f = f' + 1 ∧ (scanL f' p (n + 18 + x.2.length)).1 = r ∧ (scanL f' p (n + 18 + x.2.length)).2 = (scanL f p n).2 := by
  cases f with
  | zero => simp [scanL] at h
  | succ f =>
    cases hx : firstF (p.drop n) with
    | none => rw [scanL_none hx] at h; simp at h
    | some y =>
      rw [scanL_some hx] at h
      simp only [List.cons.injEq] at h
      obtain ⟨rfl, h2⟩ := h
      exact ⟨rfl, f, rfl, h2, by rw [scanL_some hx]⟩

set_option maxRecDepth 100000 in
set_option maxHeartbeats 2000000 in
theorem frameWalks_walk (v : Value) (p : List Nat) (w : World) (h : Rd w v p) (hl : p.length ≤ 1048576) :
    Calls Try.prog 6 #[v] w fun e w' => e = .returned (.bool true) ∧ Below w.heap.size w w' := by
  have H := hide h
  clear h
  go_enter Try.func6, Try.ntmps6
  go_wp2_with fail
  refine Calls.mono (fawake_any _) ?_
  rintro e w1 ⟨rfl, k1⟩
  have HK1 := hide k1
  clear k1
  go_wp2_with fail
  refine Calls.mono (twin_any _ p w1 ((unhide H).old (unhide HK1) (by simp))) ?_
  rintro e w2 ⟨rfl, k2, g2⟩
  have HK2 := hide ((unhide HK1).trans k2 (by simp))
  have HR2 := hide (rd_fresh g2 (unhide H).byte (unhide H).len)
  clear k2 g2
  go_wp2_with fail
  refine Calls.mono (scan_any _ p w2 (unhide HR2) (by omega)) ?_
  rintro e w3 ⟨v3, rfl, r3, k3⟩
  have HK3 := hide ((unhide HK2).trans k3 (by simp))
  obtain ⟨ao, cap, ts, rfl, hts, hc1, hc2, hrd, hcl⟩ := id r3
  have HRD := hide hrd
  have HCL := hide hcl
  obtain ⟨E, hE⟩ : ∃ E, (scanF p).2 = E := ⟨_, rfl⟩
  have HSC := hide (show scanL p.length p 0 = (ts.map (fun t => (t.1, t.2.2)), E) by
    rw [← hts, ← hE]; rfl)
  rw [hE]
  clear k3 r3 hts hrd hcl hE
  go_wp2_with fail
  go_loopw [5, 23] (fun t5 t23 wr => ∃ (i n f : Nat), t23 = .int .i64 i ∧ t5 = .int .i64 n ∧ i ≤ ts.length ∧ n ≤ p.length ∧ Hid (p.length ≤ n + f) ∧ Hid ((scanL f p n).1 = (ts.map (fun t => (t.1, t.2.2))).drop i ∧ (scanL f p n).2 = E) ∧ Hid (Kept [] w3 wr)) (fun _ t _ => ts.length - (intOf t).toNat)
  case atStart => exact ⟨0, 0, p.length, rfl, rfl, Nat.zero_le _, Nat.zero_le _, hide (by omega), hide (by rw [unhide HSC]; exact ⟨rfl, rfl⟩), hide (Kept.refl _ _)⟩
  case round =>
    obtain ⟨i, n, f, rfl, rfl, hi, hn, HF, HS, HK⟩ := hrel
    have HKw := hide ((unhide HK3).trans (unhide HK) (by simp))
    by_cases hlt : i < ts.length
    · have hlt' : (i : Int) < ts.length := by omega
      obtain ⟨b, off, rfl, hcc⟩ := unhide HCL (by omega)
      have hc1i := (unhide HK).cell (hcc i hlt).1 (by simp)
      have hc2i := (unhide HK).cell (hcc i hlt).2 (by simp)
      have HRi := hide ((unhide HRD ts[i] (List.getElem_mem hlt)).old (unhide HK) (by simp))
      have hdr : (ts.map (fun t => (t.1, t.2.2))).drop i = (ts[i].1, ts[i].2.2) :: (ts.map (fun t => (t.1, t.2.2))).drop (i + 1) := by
        rw [List.drop_eq_getElem_cons (by simpa using hlt)]; simp
      have HST := hide (scanL_cons ((unhide HS).1.trans hdr))
      clear hcc hdr
      generalize ts[i] = ti at hc1i hc2i HRi HST
      obtain ⟨pl, pv, pay⟩ := ti
      simp only at hc1i hc2i HRi HST
      obtain ⟨hst1, f', rfl, hst2, hst3⟩ := unhide HST
      obtain ⟨a9, m9, c9, rfl, hm9, _⟩ := id (unhide HRi)
      have hfm := firstF_form hst1 (fun x hx => (unhide H).byte x (List.mem_of_mem_drop hx))
      have hlen : n + 18 + pay.length ≤ p.length := by
        have := congrArg List.length hfm.2.2.2.2
        rw [List.length_append, frB_len, List.length_drop] at this
        omega
      have HNX := hide (by unfold nextF; rw [if_neg (by omega), if_neg (by omega), Int.toNat_natCast, hst1] : nextF p n = ⟨pl, pay, (n : Int) + 18 + pay.length, 1⟩)
      obtain ⟨N, hNN⟩ : ∃ N, n + 18 + pay.length = N := ⟨_, rfl⟩
      rw [hNN] at hst2 hst3 hlen
      rw [show (n : Int) + 18 + pay.length = (N : Int) by omega] at HNX
      have hnN : n < N := by omega
      have HST2 := hide hst2
      have HST3 := hide hst3
      have HNN := hide hNN
      clear hst1 HST hfm hst2 hst3 hNN
      go_wp2_with fail
      refine Calls.mono (twin_any _ p wr ((unhide H).old (unhide HKw) (by simp))) ?_
      rintro e w4 ⟨rfl, k4, g4⟩
      have HR4 := hide (rd_fresh g4 (unhide H).byte (unhide H).len)
      have HK4 := hide k4
      clear k4 g4
      go_wp2_with fail
      refine Calls.mono (next_any _ p n w4 (unhide HR4) (by omega)) ?_
      rintro e w5 ⟨v5, rfl, n5, k5⟩
      rw [unhide HNX] at n5 ⊢
      simp only at n5 ⊢
      have HK5 := hide ((unhide HK4).trans k5 (by simp))
      have HN5 := hide n5.1
      obtain ⟨a5, m5, c5, rfl, hm5, _⟩ := id n5.1
      clear n5 k5
      subst hm5
      subst hm9
      have hd1 : ∀ ob, (w5.alloc ob).cell? ⟨b, off + i * 2, none⟩ = some (.int .u64 pl) := fun ob => ((unhide HK5).alloc ob).cell hc1i (by simp)
      have hd2 : ∀ ob, (w5.alloc ob).cell? ⟨b, off + i * 2 + 1, none⟩ = some (.slice a9 pay.length c9) := fun ob => ((unhide HK5).alloc ob).cell hc2i (by simp)
      have hww : decide ((N : Int) ≤ (n : Int)) = false := by simp; omega
      have hww2 : decide (N ≤ n) = false := by simp; omega
      go_wp2_with fail
      obtain ⟨W, hW⟩ : ∃ W, w5.alloc (.cells #[.int .u64 (pl : Int), .slice a5 pay.length c5] 33) = W := ⟨_, rfl⟩
      have HC := hide (heap_alloc_new w5 (.cells #[.int .u64 (pl : Int), .slice a5 pay.length c5] 33))
      have HNW := hide ((unhide HN5).old ((Kept.refl [] w5).alloc (.cells #[.int .u64 (pl : Int), .slice a5 pay.length c5] 33)) (by simp))
      have HRW := hide ((unhide HRi).old ((unhide HK5).alloc (.cells #[.int .u64 (pl : Int), .slice a5 pay.length c5] 33)) (by simp))
      have HKW := hide (((unhide HK).trans (unhide HK5) (by simp)).alloc (.cells #[.int .u64 (pl : Int), .slice a5 pay.length c5] 33))
      have g1 := hd1 (.cells #[.int .u64 (pl : Int), .slice a5 pay.length c5] 33)
      have g2 := hd2 (.cells #[.int .u64 (pl : Int), .slice a5 pay.length c5] 33)
      rw [hW] at HC HNW HRW HKW g1 g2 ⊢
      clear hW hd1 hd2
      have g3 : W.cell? ⟨w5.heap.size, 0, none⟩ = some (.int .u64 pl) := by rw [cell_of_row _ _ _ _ _ _ (unhide HC)]; rfl
      have g4 : W.cell? ⟨w5.heap.size, 1, none⟩ = some (.slice a5 pay.length c5) := by rw [cell_of_row _ _ _ _ _ _ (unhide HC)]; rfl
      have hne : ∀ p : Prop, (∀ w', Kept [] W w' → p) = p := fun p => propext ⟨fun h => h W (Kept.refl [] W), fun h _ _ => h⟩
      have HCS := hide (fun w' (hw' : Kept [] W w') => (fsame_any pl pl _ _ pay pay w' ((unhide HNW).old hw' (by simp)) ((unhide HRW).old hw' (by simp))).mono (fun e w2 (h2 : _ ∧ _) => (⟨h2.1, hw'.trans h2.2 (by simp)⟩ : _ ∧ Kept [] W w2)))
      rw [show (decide (pl = pl) && decide (pay = pay)) = true by simp] at HCS
      refine wp_region_keep (by kernel_rfl) (by kernel_rfl) ?_
      iterate 8 (go_big_quiet_step (fail))
      refine wpQuiet_row rfl 33 (.tmp 7) rfl w5.heap.size rfl _ #[.int .u64 pl, .slice a5 pay.length c5] (0, 0) _ (fun w' hw' => hw'.heap (unhide HC) (by simp)) Try.underlying33 rfl Try.size_frame ?_
      simp only [Act.put, List.setIfInBounds_toArray, List.set_cons_succ, List.set_cons_zero]
      iterate 4 (go_big_quiet_step (fail))
      refine wpQuiet_val rfl (.int .u64 pl) (fun w' hw' => run_load1 22 (.tmp 46) rfl ⟨b, off + i * 2, none⟩ rfl w' _ .u64 Try.underlying22 (hw'.cell g1 (by simp))) ?_
      simp only [Act.put, List.setIfInBounds_toArray, List.set_cons_succ, List.set_cons_zero]
      iterate 4 (go_big_quiet_step (fail))
      refine wpQuiet_val rfl (.slice a9 pay.length c9) (fun w' hw' => run_loadS 23 (.tmp 51) rfl ⟨b, off + i * 2 + 1, none⟩ rfl w' _ 5 Try.underlying23 (hw'.cell g2 (by simp))) ?_
      simp only [Act.put, List.setIfInBounds_toArray, List.set_cons_succ, List.set_cons_zero]
      go_big_quiet_want
      go_big_quiet_op
      apply Exists.intro
      refine ⟨fun w' hw' => ?_, ?_⟩
      · exact unhide HCS w' hw'
      go_big_quiet_on
      repeat (go_big_quiet_step (fail))
      refine wpQuiet_nil ?_
      intro w6 hw6
      have HK6 := hide ((unhide HKW).trans hw6 (by simp))
      clear hw6 hne
      go_wp2
      refine ⟨⟨i + 1, N, f', by go_num, rfl, by omega, hlen, hide (by have := unhide HF; omega), hide ⟨unhide HST2, by rw [unhide HST3]; exact (unhide HS).2⟩, HK6⟩, ?_⟩
      simp [intOf]; omega
    · have hlt' : ¬ (i : Int) < ts.length := by omega
      have hie : i = ts.length := by omega
      have HST := hide (scanL_nil (unhide HF) ((unhide HS).1.trans (List.drop_eq_nil_of_le (by simp; omega))))
      have hEn : E = n := by rw [← (unhide HS).2]; exact (unhide HST).2
      subst hEn
      go_wp2_with fail
      refine Calls.mono (twin_any _ p wr ((unhide H).old (unhide HKw) (by simp))) ?_
      rintro e w4 ⟨rfl, k4, g4⟩
      have HR4 := hide (rd_fresh g4 (unhide H).byte (unhide H).len)
      have HK4 := hide ((unhide HKw).trans k4 (by simp))
      clear k4 g4
      go_wp2_with fail
      refine Calls.mono (next_any _ p E w4 (unhide HR4) (by omega)) ?_
      rintro e w5 ⟨v5, rfl, n5, k5⟩
      have HK5 := hide ((unhide HK4).trans k5 (by simp))
      obtain ⟨a5, m5, c5, rfl, hm5, _⟩ := id n5.1
      clear k5 n5 hm5
      rcases nextF_cases p E (unhide H).byte with ⟨hz1, hN⟩ | ⟨hz1, hN⟩ | ⟨m, pl, pay, hzn, hN, b1, b2, b3, b4, b5, b6, b7⟩
      · rw [hN]
        simp only
        clear hN hz1
        go_wp2
        go_ret
        exact ⟨rfl, ((unhide HK5).alloc _).below (Nat.le_refl _) (by simp)⟩
      · rw [hN]
        simp only
        clear hN hz1
        go_wp2
        go_ret
        exact ⟨rfl, ((unhide HK5).alloc _).below (Nat.le_refl _) (by simp)⟩
      · exfalso
        obtain rfl : E = m := by omega
        rw [(unhide HST).1] at b7
        simp at b7
end Go.Proofs.Ytnepbjnemgebiab
