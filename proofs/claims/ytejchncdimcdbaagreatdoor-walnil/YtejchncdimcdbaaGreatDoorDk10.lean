import Derived.Test.YtejchncdimcdbaaGreatDoorDk9
namespace Go.Proofs.YtejchncdimcdbaaGreatDoor
open Go.RowKit Go.BigFrame
set_option linter.unusedVariables false
set_option linter.unusedSimpArgs false

set_option maxRecDepth 100000 in
set_option maxHeartbeats 1000000 in
theorem append_off (d sec m N : Nat) (s : ByteArray) (pv : Value) (w : World) (u fv : Value) (cr op : Int) (ft : Int → Option Int) (fs : List DFile) (h : DkAt w d sec m N u fv cr op true ft fs) :
    Calls Tryz.prog 90 #[.pointer (some ⟨d, 0, none⟩), .string s, pv] w fun e w' => e = .returned (.int .i64 12) ∧ w' = w := by
  have HD := hide h
  clear h
  go_enter Tryz.func90, Tryz.ntmps90
  go_wp2_with fail
  refine Calls.mono (power_any d w sec m u fv cr op true (unhide HD).row) ?_
  rintro e w1 ⟨rfl, rfl⟩
  simp only [if_true]
  go_wp2_with fail
  go_ret
  exact ⟨rfl, rfl⟩
set_option maxRecDepth 100000 in
set_option maxHeartbeats 1000000 in
theorem append_none (d sec m N : Nat) (s : ByteArray) (pv : Value) (w : World) (u fv : Value) (cr op : Int) (ft : Int → Option Int) (fs : List DFile) (h : DkAt w d sec m N u fv cr op false ft fs) (hs : s.size ≤ 140737488355328) (ho : 0 ≤ op ∧ op ≤ 1000000000000) (hl : look fs s.data.toList = none) :
    Calls Tryz.prog 90 #[.pointer (some ⟨d, 0, none⟩), .string s, pv] w fun e w' => e = .returned (.int .i64 (opE ft cr op 5 : Nat)) ∧
      DkAt w' d sec m N u fv cr (op + 1) (decide (op + 1 = cr)) ft fs ∧ Kept [d] w w' := by
  have HD := hide h
  have HL := hide hl
  clear h hl
  obtain ⟨E, hE⟩ : ∃ E, opE ft cr op 5 = E := ⟨_, rfl⟩
  have h0 : E ≠ 0 := by
    rw [← hE]
    unfold opE
    split
    · decide
    · rw [if_pos (by decide)]; decide
  rw [hE]
  have HE := hide hE
  clear hE
  have hb : ((E : Int) == 0) = false := by simp; omega
  clear h0
  go_enter Tryz.func90, Tryz.ntmps90
  go_wp2_with fail
  refine Calls.mono (power_any d w sec m u fv cr op false (unhide HD).row) ?_
  rintro e w1 ⟨rfl, rfl⟩
  simp only [Bool.false_eq_true, if_false]
  go_wp2_with fail
  refine Calls.mono (dfind_any d s _ sec m N u fv cr op false fs (unhide HD).row (unhide HD).map hs) ?_
  rintro e w2 ⟨rfl, rfl⟩
  rw [unhide HL]
  simp only [ptrO, Option.map_none, Option.isSome_none, Bool.false_eq_true, if_false]
  go_wp2_with fail
  refine Calls.mono (operation_any d 5 _ sec (.map (some m)) N u fv cr op false ft (unhide HD).row (unhide HD).ft ho (by decide)) ?_
  rintro e w3 ⟨rfl, hr3, hk3⟩
  rw [unhide HE]
  have HR3 := hide hr3
  have HK3 := hide hk3
  clear hr3 hk3
  go_wp2_with fail
  go_ret
  exact ⟨rfl, by simpa using (unhide HD).turned (unhide HK3) (unhide HR3), unhide HK3⟩
theorem blk_own {w : World} {base e s n : Nat} {v : Value} {xs : List Value} (h : w.ownsRow base e s v n xs) {x : Nat} (hx : x ∈ blk v) : v.ownBlock = some x := by
  rcases h.2 with ⟨rfl, _⟩ | ⟨g, cap, cur, rfl, _, hg, _⟩
  · simp [blk] at hx
  · simp only [blk, List.mem_singleton] at hx
    subst hx
    rfl
set_option maxRecDepth 100000 in
set_option maxHeartbeats 1000000 in
theorem append_some (d sec m N : Nat) (s : ByteArray) (pv : Value) (ps : List Nat) (w : World) (u fv : Value) (cr op : Int) (ft : Int → Option Int) (fs : List DFile) (h : DkAt w d sec m N u fv cr op false ft fs) (hs : s.size ≤ 140737488355328) (ho : 0 ≤ op ∧ op ≤ 1000000000000) (f : DFile) (hf : f ∈ fs) (hl : look fs s.data.toList = some f.g)
    (hp : Rd w pv ps) (hpd : d ∉ zblk pv ps) (hlen : f.bs.length + ps.length ≤ 140737488355328) (hE7 : opE ft cr op 0 ≠ 7) :
    Calls Tryz.prog 90 #[.pointer (some ⟨d, 0, none⟩), .string s, pv] w fun e w' => ∃ v', e = .returned (.int .i64 (opE ft cr op 0 : Nat)) ∧
      DkAt w' d sec m N u fv cr (op + 1) (decide (op + 1 = cr)) ft (upF fs f.g v' (f.bs ++ ps) f.sy) ∧ Kept (d :: f.g :: blk f.v) w w' ∧ ∀ x ∈ blk v', x ∈ blk f.v ∨ w.heap.size ≤ x := by
  have HD := hide h
  have HL := hide hl
  have HF := hide hf
  have HP := hide hp
  have HPD := hide hpd
  clear h hl hf hp hpd
  obtain ⟨E, hE⟩ : ∃ E, opE ft cr op 0 = E := ⟨_, rfl⟩
  rw [hE] at hE7
  rw [hE]
  have HE := hide hE
  have hb : ((E : Int) == 7) = false := by simp; omega
  clear hE hE7
  obtain ⟨pa, pn, pc, rfl, -⟩ : ∃ pa pn pc, pv = .slice pa pn pc ∧ True := by
    obtain ⟨a, n, c, h, -⟩ := unhide HP
    exact ⟨a, n, c, h, trivial⟩
  go_enter Tryz.func90, Tryz.ntmps90
  go_wp2_with fail
  refine Calls.mono (power_any d w sec m u fv cr op false (unhide HD).row) ?_
  rintro e w1 ⟨rfl, rfl⟩
  simp only [Bool.false_eq_true, if_false]
  go_wp2_with fail
  refine Calls.mono (dfind_any d s _ sec m N u fv cr op false fs (unhide HD).row (unhide HD).map hs) ?_
  rintro e w2 ⟨rfl, rfl⟩
  rw [unhide HL]
  simp only [ptrO, Option.map_some, Option.isSome_some, if_true]
  go_wp2_with fail
  refine Calls.mono (operation_any d 0 _ sec (.map (some m)) N u fv cr op false ft (unhide HD).row (unhide HD).ft ho (by decide)) ?_
  rintro e w3 ⟨rfl, hr3, hk3⟩
  rw [unhide HE]
  have HK3 := hide hk3
  have HD3 := hide (by simpa using (unhide HD).turned hk3 hr3 : DkAt w3 d sec m N u fv cr (op + 1) (decide (op + 1 = cr)) ft fs)
  have HP3 := hide ((unhide HP).keptZ hk3 (by intro x hx hy; simp at hy; subst hy; exact unhide HPD hx))
  clear hr3 hk3
  have hg := ((unhide HD3).files f (unhide HF)).1
  have c1 := cell_of_row _ _ 1 _ _ _ hg
  simp at c1
  have HG := hide hg
  have HO3 := hide ((unhide HD3).files f (unhide HF)).2.1
  have HGV := hide (by
    intro hx
    obtain ⟨cs, hc⟩ := owns_cells (unhide HO3) hx
    exact cells_ne hg hc (by decide) rfl : f.g ∉ blk f.v)
  clear hg
  go_wp2_with (refine wpList_appendAll rfl _ _ rfl rfl _ 0 f.v f.bs ps pa pn pc (unhide HO3) (unhide HP3) hlen (Nat.zero_le _) rfl rfl ?_; intro ao cap w4 A1 A2 A3; have HK4 := hide ((Kept.refl (blk f.v) w3).grown (unhide A2) (fun k hk => .inl (own_blk hk))); have HG4 := hide ((unhide HK4).heap (unhide HG) (unhide HGV)); have c4 := cell_of_row _ _ 1 _ _ _ (unhide HG4); simp at c4; have hz4 := frozen_of_row _ _ 1 _ _ (unhide HG4))
  go_ret
  have hs3 := (unhide HK3).size
  have hfile := (unhide HD3).files f (unhide HF)
  have hnew : ∀ x ∈ blk (.slice ao (f.bs.length + ps.length) cap), x ∈ blk f.v ∨ x = w3.heap.size := by
    intro x hx
    have hox := blk_own (unhide A1) hx
    rcases unhide A3 with h1 | h1
    · exact .inl (own_blk (h1 ▸ hox))
    · rw [h1] at hox
      injection hox with hox
      exact .inr hox.symm
  have kb : Kept (f.g :: blk f.v) w3 (w4.setCell ⟨f.g, 1, none⟩ (.slice ao (f.bs.length + ps.length) cap)) := ((unhide HK4).mono (by intro x hx; simp [hx])).setCell (.inl (by simp)) _
  refine ⟨.slice ao (f.bs.length + ps.length) cap, rfl, ?_, ((unhide HK3).mono (by intro x hx; simp at hx; simp [hx])).trans kb (by intro x hx; left; simp only [List.mem_cons] at hx; rcases hx with h | h <;> simp [h]), fun x hx => (hnew x hx).imp id (by omega)⟩
  refine (unhide HD3).upd (unhide HF) kb ⟨heap_setCell_same _ _ 1 _ _ _ (unhide HG4), ?_, ?_, ?_⟩ (fun x hx => (hnew x hx).imp id (by omega))
  · refine ((Kept.refl [f.g] w4).setCell (p := ⟨f.g, 1, none⟩) (.inl (by simp)) _).owns (unhide A1) ?_
    intro x hx
    obtain ⟨cs, hc⟩ := owns_cells (unhide A1) (own_blk hx)
    simpa using cells_ne hc (unhide HG4) (by decide)
  · intro x hx
    rw [List.mem_append] at hx
    rcases hx with hx | hx
    · exact hfile.2.2.1 x hx
    · obtain ⟨_, _, _, _, _, _, _, _, h5, _⟩ := unhide HP
      exact h5 x hx
  · show f.sy ≤ (f.bs ++ ps).length
    have := hfile.2.2.2
    rw [List.length_append]
    omega
end Go.Proofs.YtejchncdimcdbaaGreatDoor
