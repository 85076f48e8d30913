import Derived.Test.YtbljofojeagdkaaDoorMT7
namespace Go.Proofs.YtbljofojeagdkaaDoor
open Go.RowKit Go.BigFrame
set_option linter.unusedVariables false
set_option linter.unusedSimpArgs false

/-- Peaks behind an empty row that is owned. -/
theorem appendK (w : World) (base : Nat) (v : Value) (ps : List Pk) (b off c : Nat) (h : w.ownsRow base 87 33 v 0 []) (hr : RdK3 w (.slice (some ⟨b, off, none⟩) ps.length c) ps) (hp : 0 < ps.length) (hlen : (cellsK ps).length = ps.length * 33) (h1 : ∀ u ∈ cellsK ps, u.oneCell' = true) (hl : ps.length ≤ 1000000000) (hb : base ≤ w.heap.size) :
    ∃ g cap w1, (Builtin.append_ #[81, 81] 81 #[v, .slice (some ⟨b, off, none⟩) ps.length c]).run Tryd.prog w = .ok (.slice (some ⟨g, 0, none⟩) ps.length cap) w1 ∧
      w1.ownsRow base 87 33 (.slice (some ⟨g, 0, none⟩) ps.length cap) ps.length (cellsK ps) ∧ w.grownBy w1 v.ownBlock ∧ (v.ownBlock = some g ∨ g = w.heap.size) := by
  obtain ⟨i0, hi, hz0, hz1, hz2⟩ := info_parts Tryd.infoP
  obtain ⟨ao, cap, he, h2, h3, h4⟩ := hr
  cases he
  obtain ⟨b', off', e, hc⟩ := h4 hp
  cases e
  obtain ⟨g, cap, w1, hrun, hown, hgrow, hat, hlt⟩ := run_append_lies (P := Tryd.prog) w 81 81 base 87 i0 (.agg zP) 33 40 Tryd.underlying81 hi hz0 hz1 hz2 rfl (by decide)
    v 0 [] h ⟨b, off, none⟩ ps.length c (cellsK ps) hlen (fun j u hj => by rw [Addr.add_mid]; exact hc j u hj) h1 hp (by unfold maxLen; omega) (by omega) hb _ rfl
  simp only [Nat.zero_add, List.nil_append] at hrun hown
  exact ⟨g, cap, w1, hrun, hown, hgrow, hat⟩

set_option maxRecDepth 100000 in
set_option maxHeartbeats 1000000 in
theorem cloneK_any (z : Int) (v : Value) (ps : List Pk) (w : World) (h : RdK3 w v ps) (hpk : PKs z w ps) (hnil : ps = [] → v = .slice none 0 0) (hl : ps.length ≤ 1000000000) :
    Calls Tryd.prog 41 #[v] w fun e w' => ∃ v', e = .returned v' ∧ w'.ownsRow w.heap.size 87 33 v' ps.length (cellsK ps) ∧ (ps = [] → v' = .slice none 0 0) ∧ Kept [] w w' := by
  by_cases hp : ps = []
  · subst hp
    obtain rfl := hnil rfl
    have hq : ∀ W : World, (binOp .eql 81 (.slice none 0 0) (.slice none 0 0)).run Tryd.prog W = .ok (.bool true) W := by
      intro W
      simp only [binOp]
      simp [run_equal_slice_nil W 81 87 none 0 0 Tryd.underlying81]
    go_enter Tryd.func41, Tryd.ntmps41
    go_wp2_with fail
    go_ret
    exact ⟨_, rfl, ⟨rfl, Or.inl ⟨rfl, rfl⟩⟩, rfl, Kept.refl _ _⟩
  · have hp0 : 0 < ps.length := List.length_pos_iff.2 hp
    have H := hide h
    obtain ⟨a1, c1, rfl, hc1, hc2, hc3⟩ := id h
    obtain ⟨b, off, rfl, _⟩ := hc3 hp0
    clear h hc3
    have HL := hide (cellsK_len' (fun p hp => (hpk.ok p hp).dg.1))
    have H1 := hide (cellsK_one hpk.ok)
    have HO := hide (World.ownsRow_made (base := w.heap.size) (e := 87) (size := 33) w #[] 0 (Nat.le_refl _) (by unfold maxLen; omega) (by simp))
    have hq : ∀ W : World, (binOp .eql 81 (.slice (some ⟨b, off, none⟩) ps.length c1) (.slice none 0 0)).run Tryd.prog W = .ok (.bool false) W := by
      intro W
      simp only [binOp]
      simp [run_equal_slice_nil W 81 87 (some ⟨b, off, none⟩) ps.length c1 Tryd.underlying81]
    obtain ⟨g, cap, w1, hrun, h3, h4, h5⟩ := appendK (w.alloc (.cells #[] 87)) w.heap.size (.slice (some ⟨w.heap.size, 0, none⟩) 0 0) ps b off c1 (unhide HO) ((unhide H).old ((Kept.refl [] w).alloc _)) hp0 (unhide HL) (unhide H1) hl (by simp)
    have HR := hide hrun
    have HO1 := hide h3
    have HK1 := hide (((Kept.refl [] w).alloc _).grown h4 (by intro k hk; right; simp [Value.ownBlock] at hk; omega))
    clear hrun h3 h4 h5 HO hpk hnil
    go_enter Tryd.func41, Tryd.ntmps41
    go_wp2_with (at_builtin; refine wpList_plain rfl fun K hK' => ?_; refine wp_appendT rfl rfl rfl rfl (unhide HR) (hK' _ _ ?_))
    go_ret
    exact ⟨_, rfl, unhide HO1, fun e => absurd e hp, unhide HK1⟩

end Go.Proofs.YtbljofojeagdkaaDoor
