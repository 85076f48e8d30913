import Derived.Test.YtejchncdimcdbaaGreatDoorDk10
namespace Go.Proofs.YtejchncdimcdbaaGreatDoor
open Go.RowKit Go.BigFrame
set_option linter.unusedVariables false
set_option linter.unusedSimpArgs false

theorem look_faults1 {w : World} {b n : Nat} {D : DataW Unit} {ft : Int → Option Int} (hown : w.ownsMap Tryz.prog 3 (plainElem Tryz.prog 3) b n D) (hD : ∀ a, Maps.has D (.int .i64 a) = (ft a).isSome ∧ ∀ z, D.atKey (.int .i64 a) z = match ft a with | none => z | some c => .lit (.int .i64 c)) (a : Int) (hk : keyOf Tryz.prog 3 (.int .i64 a) = some (.int .i64 a)) :
    (Instr.lookup 99 (.map (some b)) (.int .i64 a) false).run Tryz.prog w = .ok (.int .i64 ((ft a).getD 0)) w := by
  obtain ⟨c, hrun, h2, _⟩ := hown.lookup_int keyI Tryz.underlying99 Tryz.underlying3 (zeroI3 _) hk
  rw [(hD a).2] at h2
  rw [hrun]
  cases hf : ft a with
  | none => rw [hf] at h2; simp at h2; rw [← h2]; rfl
  | some c0 => rw [hf] at h2; simp at h2; rw [← h2]; rfl
theorem Rd.cut {w : World} {pa : Option Addr} {n pc : Nat} {ps : List Nat} (h : Rd w (.slice pa n pc) ps) {k : Nat} (hk : k ≤ ps.length) : Rd w (.slice pa k pc) (ps.take k) := by
  obtain ⟨_, _, _, he, hn, h2, ⟨h3, h3'⟩, h4, h5, h6⟩ := h
  cases he
  refine ⟨pa, k, pc, rfl, by rw [List.length_take]; omega, by omega, ⟨h3, by omega⟩, h4, fun x hx => h5 x (List.mem_of_mem_take hx), fun hp => ?_⟩
  obtain ⟨b, off, rfl, hc⟩ := h6 (by omega)
  refine ⟨b, off, rfl, fun i hi => ?_⟩
  rw [hc i (by omega), List.getD_eq_getElem?_getD, List.getD_eq_getElem?_getD, List.getElem?_take, if_pos hi]
set_option maxRecDepth 100000 in
set_option maxHeartbeats 1000000 in
theorem append_io (d sec m N : Nat) (s : ByteArray) (pv : Value) (ps : List Nat) (w : World) (u fv : Value) (cr op : Int) (ft : Int → Option Int) (fs : List DFile) (h : DkAt w d sec m N u fv cr op false ft fs) (hs : s.size ≤ 140737488355328) (ho : 0 ≤ op ∧ op ≤ 1000000000000) (f : DFile) (hf : f ∈ fs) (hl : look fs s.data.toList = some f.g)
    (hp : Rd w pv ps) (hpd : d ∉ zblk pv ps) (hlen : f.bs.length + ps.length ≤ 140737488355328) (hne : op + 1 ≠ cr) (c : Int) (hft : ft (op + 1) = some c) :
    Calls Tryz.prog 90 #[.pointer (some ⟨d, 0, none⟩), .string s, pv] w fun e w' => ∃ v', e = .returned (.int .i64 7) ∧
      DkAt w' d sec m N u fv cr (op + 1) false ft (upF fs f.g v' (f.bs ++ ps.take (wtn c ps.length).toNat) f.sy) ∧ Kept (d :: f.g :: blk f.v) w w' ∧ ∀ x ∈ blk v', x ∈ blk f.v ∨ w.heap.size ≤ x := by
  have HD := hide h
  have HL := hide hl
  have HF := hide hf
  have HP := hide hp
  have HPD := hide hpd
  clear h hl hf hp hpd
  have HE := hide (by unfold opE; rw [if_neg hne, if_neg (by decide), hft]; rfl : opE ft cr op 0 = 7)
  have HNE := hide hne
  have HFT := hide hft
  clear hne hft
  obtain ⟨pa, pn, pc, rfl, -⟩ : ∃ pa pn pc, pv = .slice pa pn pc ∧ True := by
    obtain ⟨a, n, c, h, -⟩ := unhide HP
    exact ⟨a, n, c, h, trivial⟩
  obtain ⟨_, _, _, hpe, hpn, hpc, ⟨_, hpm⟩, _⟩ := unhide HP
  cases hpe
  obtain ⟨k, hk⟩ : ∃ k : Nat, wtn c ps.length = k := ⟨(wtn c ps.length).toNat, by unfold wtn; omega⟩
  have hkn : k ≤ ps.length := by unfold wtn at hk; omega
  rw [hk, Int.toNat_natCast]
  subst hpn
  have hwt := fun x : World => within_any c ps.length x
  simp only [hk] at hwt
  have HWT := hide hwt
  clear hwt hk
  go_enter Tryz.func90, Tryz.ntmps90
  go_wp2_with fail
  refine Calls.mono (power_any d w sec m u fv cr op false (unhide HD).row) ?_
  rintro e w1 ⟨rfl, rfl⟩
  simp only [Bool.false_eq_true, if_false]
  go_wp2_with fail
  refine Calls.mono (dfind_any d s _ sec m N u fv cr op false fs (unhide HD).row (unhide HD).map hs) ?_
  rintro e w2 ⟨rfl, rfl⟩
  rw [unhide HL]
  simp only [ptrO, Option.map_some, Option.isSome_some, if_true]
  go_wp2_with fail
  refine Calls.mono (operation_any d 0 _ sec (.map (some m)) N u fv cr op false ft (unhide HD).row (unhide HD).ft ho (by decide)) ?_
  rintro e w3 ⟨rfl, hr3, hk3⟩
  rw [unhide HE]
  have HK3 := hide hk3
  have HD3 := hide (by
    rw [Bool.false_or, decide_eq_false (unhide HNE)] at hr3
    exact (unhide HD).turned hk3 hr3 : DkAt w3 d sec m N u fv cr (op + 1) false ft fs)
  have HP3 := hide ((unhide HP).keptZ hk3 (by intro x hx hy; simp at hy; subst hy; exact unhide HPD hx))
  clear hr3 hk3
  have hg := ((unhide HD3).files f (unhide HF)).1
  have c1 := cell_of_row _ _ 1 _ _ _ hg
  simp at c1
  have HG := hide hg
  have HO3 := hide ((unhide HD3).files f (unhide HF)).2.1
  have HGV := hide (by
    intro hx
    obtain ⟨cs, hc⟩ := owns_cells (unhide HO3) hx
    exact cells_ne hg hc (by decide) rfl : f.g ∉ blk f.v)
  clear hg
  have hrow := (unhide HD3).row
  unfold DRow at hrow
  have d3 := cell_of_row _ _ 3 _ _ _ hrow
  have d5 := cell_of_row _ _ 5 _ _ _ hrow
  simp at d3 d5
  clear hrow
  have HKI := hide (Maps.keyOf_int_mk (P := Tryz.prog) (k := 3) Tryz.underlying3 (a := op + 1) (by simp [Lit.wf, IntKind.min, IntKind.max, IntKind.signed, IntKind.bits]; omega))
  obtain ⟨b, hrun, rfl⟩ : ∃ b, (∀ j : Nat, (Instr.lookup 99 (.map (some b)) (.int .i64 (op + 1)) false).run Tryz.prog (w3.drewN j) = .ok (.int .i64 c) (w3.drewN j)) ∧ fv = .map (some b) := by
    rcases (unhide HD3).ft with ⟨_, h2⟩ | ⟨b, n, D, h1, hown, hn, hDD⟩
    · rw [h2] at HFT
      cases unhide HFT
    · refine ⟨b, fun j => ?_, h1⟩
      have h9 := look_faults1 (ft := ft) (ownsMap_heap (w' := w3.drewN j) hown rfl) hDD (op + 1) (unhide HKI)
      rw [unhide HFT] at h9
      exact h9
  have hk1 : (k : Int) ≤ (pc : Int) := by omega
  go_wp2_with fail
  refine wp_region_quiet_lit (by kernel_rfl) (by kernel_rfl) ?_
  repeat (go_big_quiet_step (exact Calls.mono (unhide HWT _) (fun e x h => ⟨h.1, _, h.2⟩)))
  refine wpQuiet_nil ?_
  rintro _ ⟨n1, rfl⟩
  have HP5 := hide ((unhide HP3).cut hkn)
  have HPT := hide (by rw [List.length_take]; omega : f.bs.length + (ps.take k).length ≤ 140737488355328)
  have HLT := hide (by rw [List.length_take]; omega : (ps.take k).length = k)
  obtain ⟨q, hq⟩ : ∃ q, ps.take k = q := ⟨_, rfl⟩
  rw [hq] at HP5 HPT HLT
  have HQ := hide hq
  clear d3 d5 hrun hk1 hq
  obtain ⟨W3, hW3⟩ : ∃ W, w3.drewN n1 = W := ⟨_, rfl⟩
  have HG5 := hide (by rw [← hW3]; exact unhide HG : W3.heap[f.g]? = some (.cells #[.string f.nm, f.v, .int .i64 f.sy, .bool f.nd] 106 (0, 0)))
  have HD5 := hide (by rw [← hW3]; exact (unhide HD3).kept ((Kept.refl [] w3).drewN n1) (by simp) : DkAt W3 d sec m N u (.map (some b)) cr (op + 1) false ft fs)
  have HO5 := hide ((unhide HD5).files f (unhide HF)).2.1
  have HP6 := hide (by rw [← hW3]; exact (unhide HP5).kept ((Kept.refl [] w3).drewN n1) (by simp) : Rd W3 (.slice pa k pc) q)
  have HK5 := hide (by rw [← hW3]; exact (unhide HK3).drewN n1 : Kept [d] w2 W3)
  rw [hW3]
  clear hW3 c1
  have c1 := cell_of_row _ _ 1 _ _ _ (unhide HG5)
  simp at c1
  go_wp2_with (refine wpList_appendAll rfl _ _ rfl rfl _ 0 f.v f.bs q pa k pc (unhide HO5) (unhide HP6) (unhide HPT) (Nat.zero_le _) rfl rfl ?_; intro ao cap w4 A1 A2 A3; have HK4 := hide ((Kept.refl (blk f.v) W3).grown (unhide A2) (fun k hk => .inl (own_blk hk))); have HG4 := hide ((unhide HK4).heap (unhide HG5) (unhide HGV)); have c4 := cell_of_row _ _ 1 _ _ _ (unhide HG4); simp at c4; have hz4 := frozen_of_row _ _ 1 _ _ (unhide HG4))
  go_ret
  have hs3 := (unhide HK5).size
  have hfile := (unhide HD5).files f (unhide HF)
  have hnew : ∀ x ∈ blk (.slice ao (f.bs.length + q.length) cap), x ∈ blk f.v ∨ x = W3.heap.size := by
    intro x hx
    have hox := blk_own (unhide A1) hx
    rcases unhide A3 with h1 | h1
    · exact .inl (own_blk (h1 ▸ hox))
    · rw [h1] at hox
      injection hox with hox
      exact .inr hox.symm
  have kb : Kept (f.g :: blk f.v) W3 (w4.setCell ⟨f.g, 1, none⟩ (.slice ao (f.bs.length + q.length) cap)) := ((unhide HK4).mono (by intro x hx; simp [hx])).setCell (.inl (by simp)) _
  refine ⟨.slice ao (f.bs.length + q.length) cap, rfl, ?_, ((unhide HK5).mono (by intro x hx; simp at hx; simp [hx])).trans kb (by intro x hx; left; simp only [List.mem_cons] at hx; rcases hx with h | h <;> simp [h]), fun x hx => (hnew x hx).imp id (by omega)⟩
  rw [unhide HQ]
  refine (unhide HD5).upd (unhide HF) kb ⟨heap_setCell_same _ _ 1 _ _ _ (unhide HG4), ?_, ?_, ?_⟩ (fun x hx => (hnew x hx).imp id (by omega))
  · refine ((Kept.refl [f.g] w4).setCell (p := ⟨f.g, 1, none⟩) (.inl (by simp)) _).owns (unhide A1) ?_
    intro x hx
    obtain ⟨cs, hc⟩ := owns_cells (unhide A1) (own_blk hx)
    simpa using cells_ne hc (unhide HG4) (by decide)
  · intro x hx
    rw [List.mem_append] at hx
    rcases hx with hx | hx
    · exact hfile.2.2.1 x hx
    · obtain ⟨_, _, _, _, _, _, _, _, h5, _⟩ := unhide HP6
      exact h5 x hx
  · show f.sy ≤ (f.bs ++ q).length
    have := hfile.2.2.2
    rw [List.length_append]
    omega
end Go.Proofs.YtejchncdimcdbaaGreatDoor
