import Derived.Test.YtejchncdimcdbaaGreatDoorAwake
namespace Go.Proofs.YtejchncdimcdbaaGreatDoor
open Go.RowKit
set_option linter.unusedVariables false
set_option maxRecDepth 100000
set_option linter.unusedSimpArgs false

theorem Rd.byte {w : World} {v : Value} {p : List Nat} (h : Rd w v p) : ∀ x ∈ p, x < 256 := by obtain ⟨_, _, _, _, _, _, _, _, h5, _⟩ := h; exact h5
theorem Rd.len {w : World} {v : Value} {p : List Nat} (h : Rd w v p) : p.length ≤ 140737488355328 := by obtain ⟨_, _, _, _, rfl, _, ⟨_, h3⟩, _⟩ := h; exact h3
/-- All of a slice behind what a Writer has. -/
theorem pushAll (w : World) (b : Nat) (v : Value) (bs p : List Nat) (ao : Option Addr) (n c : Nat) (h : WrAt w b v bs) (hr : Rd w (.slice ao n c) p) (hl : bs.length + p.length ≤ 140737488355328) :
    ∃ ao' n' cap' w1, (Builtin.append_ #[72, 72] 72 #[v, .slice ao n c]).run Tryz.prog w = .ok (.slice ao' n' cap') w1 ∧
      w1.heap[b]? = some (.cells #[v] 236 (0, 0)) ∧
      WrAt (w1.setCell ⟨b, 0, none⟩ (.slice ao' n' cap')) b (.slice ao' n' cap') (bs ++ p) ∧
      Grew b v (.slice ao' n' cap') w (w1.setCell ⟨b, 0, none⟩ (.slice ao' n' cap')) := by
  obtain ⟨i0, hi, hz0, hz1, hz2⟩ := info_parts Tryz.info5
  have fin : ∀ v' w1, w1.ownsRow 0 5 1 v' (bs.length + p.length) (bs.map u8 ++ p.map u8) → w.grownBy w1 v.ownBlock → (v'.ownBlock = v.ownBlock ∨ v'.ownBlock = some w.heap.size) →
      w1.heap[b]? = some (.cells #[v] 236 (0, 0)) ∧ WrAt (w1.setCell ⟨b, 0, none⟩ v') b v' (bs ++ p) ∧ Grew b v v' w (w1.setCell ⟨b, 0, none⟩ v') := by
    intro v' w1 hown hgrow hat
    have hb1 : w1.heap[b]? = some (.cells #[v] 236 (0, 0)) := by
      rw [hgrow.block b h.lt (Ne.symm h.ne)]; exact h.at_
    refine ⟨hb1, ⟨one_setCell hb1, ?_, ?_⟩, ⟨?_, ?_⟩⟩
    · rw [List.length_append, List.map_append]
      refine ownsRow_setCell_other hown ?_ _
      intro e3
      rcases hown.2 with ⟨rfl, _⟩ | ⟨g', cap', cur, rfl, _, h2, _⟩
      · simp [Value.ownBlock] at e3
      · simp [Value.ownBlock] at e3; subst e3; rw [hb1] at h2; simp at h2
    · intro x hx; simp at hx; rcases hx with hx | hx; exact h.byte x hx; exact hr.byte x hx
    · have k1 : Kept (b :: v.ownBlock.toList) w w1 := (Kept.refl (b :: v.ownBlock.toList) w).grown hgrow (by intro k hk; left; simp [hk])
      exact k1.setCell (by simp) _
    · rcases hat with hat | hat
      · exact .inl hat
      · exact .inr ⟨_, hat, Nat.le_refl _⟩
  have shape : ∀ (v' : Value) (w1 : World) (n : Nat) (xs : List Value), w1.ownsRow 0 5 1 v' n xs → ∃ ao' n' cap', v' = .slice ao' n' cap' := by
    intro v' w1 n xs hown
    rcases hown.2 with ⟨rfl, _⟩ | ⟨g, cap, cur, rfl, _⟩
    · exact ⟨_, _, _, rfl⟩
    · exact ⟨_, _, _, rfl⟩
  obtain ⟨ao1, n1, c1, he, hn, h2, ⟨h3, h3'⟩, h4, h5, h6⟩ := id hr
  cases he
  subst hn
  cases ao with
  | none =>
    have hc0 := h4 rfl
    have hp : p = [] := List.eq_nil_of_length_eq_zero (by omega)
    subst hp
    subst hc0
    have hrun := run_append_owned_none (P := Tryz.prog) (w := w) 0 72 72 5 i0 1 Tryz.underlying72 hi v bs.length (bs.map u8) h.own
    obtain ⟨ao', n', cap', rfl⟩ := shape v w _ _ h.own
    exact ⟨ao', n', cap', w, hrun, fin _ _ (by simpa using h.own) (World.grownBy.refl _ _) (.inl rfl)⟩
  | some ad =>
    have hnews : ∀ j u, (p.map u8)[j]? = some u → w.cell? (ad.add j) = some u := by
      intro j u hj
      by_cases h0 : 0 < (p.map u8).length
      · obtain ⟨ad', e, hc⟩ := hr.src h0
        cases e
        exact hc j u hj
      · have : p.map u8 = [] := List.eq_nil_of_length_eq_zero (by omega)
        rw [this] at hj; simp at hj
    obtain ⟨v', w1, hrun, hown, hgrow, _, hat⟩ := run_append_own_at (P := Tryz.prog) w 0 72 72 5 i0 (.int .u8 0) 1 1 Tryz.underlying72 hi hz0 hz1 hz2 rfl (by decide)
      v bs.length (bs.map u8) h.own ad p.length c (p.map u8) (by simp) hnews (u8_oneCell p) (by unfold maxLen; omega) (by omega) (Nat.zero_le _)
    obtain ⟨ao', n', cap', rfl⟩ := shape v' w1 _ _ hown
    exact ⟨ao', n', cap', w1, hrun, fin _ _ hown hgrow hat⟩
theorem wpList_pushAll {ops : Array Oper} {rest : List Oper} {o : Oper} {a : Act} {Q : Exit → Act → World → Prop} (hgd : o.guard = none) (s x : Operand)
    (ho : o.op = .call { callee := .builtin .append, args := #[s, x], argTypes := #[72, 72] }) (hty : o.type = 72)
    (w : World) (b : Nat) (v : Value) (bs p : List Nat) (ao : Option Addr) (n c : Nat) (h : WrAt w b v bs) (hr : Rd w (.slice ao n c) p) (hl : bs.length + p.length ≤ 140737488355328)
    (hs : a.eval s = v) (hx : a.eval x = .slice ao n c)
    (hK : ∀ ao' n' cap' w1, w1.cell? ⟨b, 0, none⟩ = some v → w1.frozen? ⟨b, 0, none⟩ = false →
      Hid (WrAt (w1.setCell ⟨b, 0, none⟩ (.slice ao' n' cap')) b (.slice ao' n' cap') (bs ++ p)) →
      Hid (Grew b v (.slice ao' n' cap') w (w1.setCell ⟨b, 0, none⟩ (.slice ao' n' cap'))) →
      wpList Tryz.prog ops Q rest (a.put o.dst (.slice ao' n' cap')) w1) :
    wpList Tryz.prog ops Q (o :: rest) a w := by
  obtain ⟨ao', n', cap', w1, hrun, hb1, h2, h3⟩ := pushAll w b v bs p ao n c h hr hl
  refine wpList_plain hgd fun K hK' => ?_
  unfold Oper.wp execOp
  simp only [ho, hty, resolve, invoke, builtin, Sem.run_bind, Sem.run_pure, Result.andThen_ok, List.map_toArray, List.map_cons, List.map_nil, hs, hx, hrun]
  exact hK' _ _ (hK ao' n' cap' w1 (cell_of_one hb1) (free_of_one hb1) h2 h3)
set_option maxRecDepth 100000 in
theorem wraw_any (b : Nat) (v pv : Value) (bs p : List Nat) (w : World) (hw : WrAt w b v bs) (hr : Rd w pv p) (hl : bs.length + p.length ≤ 140737488355328) :
    Calls Tryz.prog 152 #[.pointer (some ⟨b, 0, none⟩), pv] w fun e w' => e = .returned (.tuple #[]) ∧ ∃ v', WrAt w' b v' (bs ++ p) ∧ Grew b v v' w w' := by
  obtain ⟨ao, n, c, rfl⟩ : ∃ ao n c, pv = .slice ao n c := by obtain ⟨ao, n, c, rfl, _⟩ := hr; exact ⟨ao, n, c, rfl⟩
  have HW := hide hw
  have HR := hide hr
  have hc0 := cell_of_one hw.at_
  clear hw hr
  go_enter Tryz.func152, Tryz.ntmps152
  go_wp2_with (at_builtin; go_must (refine wpList_pushAll rfl (.tmp 10) (.tmp 11) rfl rfl _ b v bs p ao n c (unhide HW) (unhide HR) hl rfl rfl ?_; intro ao' n' cap' w1 hc1 hf1 HW1 HG1))
  go_end0
  exact ⟨rfl, _, unhide HW1, unhide HG1⟩
set_option maxRecDepth 100000 in
theorem wblob_any (b : Nat) (v pv : Value) (bs p : List Nat) (w : World) (hw : WrAt w b v bs) (hr : ∀ w', Kept (b :: v.ownBlock.toList) w w' → Rd w' pv p) (hl : bs.length + 10 + p.length ≤ 140737488355328) :
    Calls Tryz.prog 190 #[.pointer (some ⟨b, 0, none⟩), pv] w fun e w' => e = .returned (.tuple #[]) ∧ ∃ v', WrAt w' b v' (bs ++ (uv p.length ++ p)) ∧ Grew b v v' w w' := by
  have hr0 := hr w (Kept.refl _ _)
  have hpl : p.length ≤ 140737488355328 := hr0.len
  have HR := hide hr
  clear hr
  obtain ⟨ao, n, c, rfl, rfl, _⟩ := hr0
  have HW := hide hw
  have hul := uv_len p.length (by omega)
  clear hw
  go_enter Tryz.func190, Tryz.ntmps190
  go_wp2_with fail
  refine (wuvar_any b v bs p.length _ (unhide HW) (by omega) (by omega)).mono ?_
  rintro e w1 ⟨rfl, v1, h1, k1⟩
  have HR1 := hide (unhide HR _ k1.kept)
  have HW1 := hide h1
  have HG1 := hide k1
  clear h1 k1
  go_wp2_with fail
  refine (wraw_any b v1 _ _ p _ (unhide HW1) (unhide HR1) (by simp only [List.length_append]; omega)).mono ?_
  rintro e w2 ⟨rfl, v2, h2, k2⟩
  rw [List.append_assoc] at h2
  have HW2 := hide h2
  have HG2 := hide ((unhide HG1).trans k2)
  clear h2 k2
  go_wp2
  go_end0
  exact ⟨rfl, v2, unhide HW2, unhide HG2⟩
end Go.Proofs.YtejchncdimcdbaaGreatDoor
