import Derived.Test.YtejchncdimcdbaaGreatDoorDk12
namespace Go.Proofs.YtejchncdimcdbaaGreatDoor
open Go.RowKit Go.BigFrame
set_option linter.unusedVariables false
set_option linter.unusedSimpArgs false

set_option maxRecDepth 100000 in
set_option maxHeartbeats 1000000 in
theorem off_any (d sec m N : Nat) (w : World) (u fv : Value) (cr op : Int) (off : Bool) (ft : Int → Option Int) (fs : List DFile) (h : DkAt w d sec m N u fv cr op off ft fs) :
    Calls Tryz.prog 31 #[.pointer (some ⟨d, 0, none⟩)] w fun e w' => e = .returned (.bool off) ∧ w' = w := by
  have HD := hide h
  have hrow := h.row
  unfold DRow at hrow
  have d6 := cell_of_row _ _ 6 _ _ _ hrow
  simp at d6
  clear h hrow
  go_enter Tryz.func31, Tryz.ntmps31
  go_wp2_with fail
  refine Calls.mono (dnone_any d w sec m u fv cr op off (unhide HD).row) ?_
  rintro e w1 ⟨rfl, rfl⟩
  go_wp2_with fail
  go_ret
  exact ⟨rfl, rfl⟩
def unL (fs : List DFile) : List DFile := fs.filter fun f => !f.nd
def ndK (fs : List DFile) (k : Nat) (f : DFile) : DFile := { f with nd := f.nd || ((unL fs).take k).any fun x => x.g == f.g }
theorem ndK_zero (fs : List DFile) (f : DFile) : ndK fs 0 f = f := by simp [ndK]
theorem ndK_all {fs : List DFile} {f : DFile} (h : f ∈ fs) : ndK fs (unL fs).length f = { f with nd := true } := by
  unfold ndK
  rw [List.take_length]
  cases hn : f.nd
  · have : f ∈ unL fs := List.mem_filter.2 ⟨h, by simp [hn]⟩
    rw [Bool.false_or, List.any_eq_true.2 ⟨f, this, by simp⟩]
  · rfl
theorem ndK_succ {fs : List DFile} {k : Nat} (hk : k < (unL fs).length) (f : DFile) : ndK fs (k + 1) f = { f with nd := f.nd || ((unL fs).take k).any (fun x => x.g == f.g) || (((unL fs)[k]'hk).g == f.g) } := by
  unfold ndK
  rw [List.take_succ_eq_append_getElem hk, List.any_append]
  simp [Bool.or_assoc]
theorem look_nd (fs : List DFile) : look (fs.map fun f => { f with nd := true }) = look fs := by
  funext s
  unfold look
  rw [List.find?_map, Option.map_map]
  rfl
theorem unN_nd (fs : List DFile) : unN (fs.map fun f => { f with nd := true }) = [] := by
  unfold unN
  rw [List.filter_map]
  simp
set_option maxRecDepth 100000 in
set_option maxHeartbeats 1000000 in
theorem nameAll_any (d sec m N : Nat) (w : World) (u fv : Value) (cr op : Int) (off : Bool) (ft : Int → Option Int) (fs : List DFile) (h : DkAt w d sec m N u fv cr op off ft fs) (hfs : fs.length ≤ 1000000000) :
    Calls Tryz.prog 75 #[.pointer (some ⟨d, 0, none⟩)] w fun e w' => e = .returned (.tuple #[]) ∧ DkAt w' d sec m N (.slice none 0 0) fv cr op off ft (fs.map fun f => { f with nd := true }) ∧ Kept (d :: fs.map DFile.g) w w' := by
  have HD := hide h
  have hrow := h.row
  unfold DRow at hrow
  have HR := hide hrow
  have d2 := cell_of_row _ _ 2 _ _ _ hrow
  simp at d2
  have hz := frozen_of_row _ _ 2 _ _ hrow
  obtain ⟨ao, cap, rfl⟩ := h.un.shape
  clear h hrow
  have HU := hide (unhide HD).un
  have hlen : (unN fs).length = (unL fs).length := by unfold unN unL; rw [List.length_map]
  have HLE := hide (Nat.le_trans (List.length_filter_le (fun f : DFile => !f.nd) fs) hfs : (unL fs).length ≤ 1000000000)
  rw [hlen] at d2 HU HR HD
  have HLN := hide hlen
  clear hlen hz
  go_enter Tryz.func75, Tryz.ntmps75
  go_wp2_with fail
  go_loopw [9] (fun t9 wr => ∃ k : Nat, k ≤ (unL fs).length ∧ t9 = .int .i64 k ∧ Hid (∀ f ∈ fs, FileAt wr (ndK fs k f)) ∧ Hid (Kept (fs.map DFile.g) w wr)) (fun t _ => (unL fs).length - (intOf t).toNat)
  case atStart => exact ⟨0, Nat.zero_le _, rfl, hide (fun f hf => by rw [ndK_zero]; exact (unhide HD).files f hf), hide (Kept.refl _ _)⟩
  case round =>
    obtain ⟨k, hk, rfl, HA, HK⟩ := hrel
    by_cases hlt : k < (unL fs).length
    · have e3 : (k : Int) < ((unL fs).length : Int) := by omega
      have hU := (unhide HU).kept (unhide HK) (by
        intro x hx hy
        obtain ⟨cs, hc⟩ := qr_cells (unhide HU) hx
        obtain ⟨a, ha, rfl⟩ := List.mem_map.1 hy
        exact cells_ne ((unhide HD).files a ha).1 hc (by decide) rfl)
      have hle := unhide HLE
      rcases hU with ⟨h1, h2⟩ | ⟨gu, off', cap', cur, he, hg, hc1, hc2, hc3, hcell⟩
      · have h3 := congrArg List.length h2
        rw [unhide HLN, List.length_nil] at h3
        omega
      · injection he with h1 h2 h3
        subst h1 h3
        have hck := hcell k (.pointer (some ⟨((unL fs)[k]'hlt).g, 0, none⟩)) (by unfold unN; unfold unL at hlt ⊢; rw [List.getElem?_map, List.getElem?_eq_getElem hlt]; rfl)
        have c0 := cell_of_row _ _ (off' + k) _ _ _ hg
        rw [hck] at c0
        have hkc : k < cap := by rw [unhide HLN] at hc1; omega
        have hmem : (unL fs)[k]'hlt ∈ fs := (List.mem_filter.1 (List.getElem_mem hlt)).1
        have hfk := unhide HA _ hmem
        obtain ⟨X, hX⟩ : ∃ X, (unL fs)[k]'hlt = X := ⟨_, rfl⟩
        rw [hX] at c0 hmem hfk
        have hrx := hfk.1
        rw [show (ndK fs k X).g = X.g from rfl, show (ndK fs k X).nm = X.nm from rfl, show (ndK fs k X).v = X.v from rfl, show (ndK fs k X).sy = X.sy from rfl] at hrx
        obtain ⟨nb, hnb⟩ : ∃ nb, (ndK fs k X).nd = nb := ⟨_, rfl⟩
        rw [hnb] at hrx
        have f3 := cell_of_row _ _ 3 _ _ _ hrx
        simp at f3
        have hz3 := frozen_of_row _ _ 3 _ _ hrx
        have HRX := hide hrx
        have HX := hide hX
        have HM := hide hmem
        clear hrx hX hmem hfk hnb hg hcell hck hc2
        go_wp2_with fail
        refine ⟨⟨k + 1, by omega, by simp, hide (fun f hf => ?_), hide ?_⟩, ?_⟩
        · rcases apt_mem (unhide HD).apart hf (unhide HM) with rfl | hab
          · have e1 : (ndK fs (k + 1) f).nd = true := by
              rw [ndK_succ hlt, unhide HX]
              simp
            refine ⟨?_, ((Kept.refl [f.g] _).setCell (p := ⟨f.g, 3, none⟩) (.inl (by simp)) _).owns (unhide HA f hf).2.1 ?_, (unhide HA f hf).2.2⟩
            · rw [e1]
              exact heap_setCell_same _ _ 3 _ _ _ (unhide HRX)
            · intro x hx
              obtain ⟨cs, hc⟩ := owns_cells (unhide HA f hf).2.1 (own_blk hx)
              simpa using cells_ne hc (unhide HRX) (by decide)
          · have e1 : ndK fs (k + 1) f = ndK fs k f := by
              rw [ndK_succ hlt, unhide HX]
              have : (X.g == f.g) = false := by simpa using fun e => hab.1 e.symm
              rw [this, Bool.or_false]
              rfl
            rw [e1]
            refine (unhide HA f hf).kept ((Kept.refl [X.g] _).setCell (p := ⟨X.g, 3, none⟩) (.inl (by simp)) _) (by intro hy; simp only [List.mem_singleton] at hy; exact hab.1 hy) ?_
            intro x hx
            obtain ⟨cs, hc⟩ := owns_cells (unhide HA f hf).2.1 hx
            simpa using cells_ne hc (unhide HRX) (by decide)
        · exact (unhide HK).setCell (.inl (List.mem_map.2 ⟨X, unhide HM, rfl⟩)) _
        · simp [intOf]; omega
    · have e3 : ¬ (k : Int) < ((unL fs).length : Int) := by omega
      have hk2 : k = (unL fs).length := by omega
      subst hk2
      have HR2 := hide ((unhide HK).heap (unhide HR) (by
        intro hy
        obtain ⟨a, ha, hag⟩ := List.mem_map.1 hy
        exact cells_ne ((unhide HD).files a ha).1 (unhide HD).row (by decide) hag))
      have d2' := cell_of_row _ _ 2 _ _ _ (unhide HR2)
      simp at d2'
      have hz2 := frozen_of_row _ _ 2 _ _ (unhide HR2)
      go_wp2_with fail
      have kk := ((unhide HK).mono (M := d :: fs.map DFile.g) (by intro x hx; simp only [List.mem_cons]; exact .inr hx)).setCell (p := ⟨d, 2, none⟩) (.inl (by simp)) (.slice none 0 0)
      refine bodyPost_end (v := .tuple #[]) (results_none rfl _ _ _) rfl ⟨rfl, ⟨heap_setCell_same _ _ 2 _ _ _ (unhide HR2), ?_, ?_, ?_, ?_, ?_, (unhide HD).two⟩, kk⟩
      · obtain ⟨n, D, ho, hn, hD⟩ := (unhide HD).map
        refine ⟨n, D, ownsMap_heap ho (kk.block m ho.lt ?_), hn, by rw [look_nd]; exact hD⟩
        intro hx
        simp only [List.mem_cons] at hx
        rcases hx with hx | hx
        · exact map_ne ho (unhide HD).row hx.symm
        · obtain ⟨a, ha, hag⟩ := List.mem_map.1 hx
          exact map_ne ho ((unhide HD).files a ha).1 hag
      · rw [unN_nd]
        exact Qr.nil _ _
      · refine (unhide HD).ft.kept kk ?_
        intro x hx hy
        obtain ⟨n, D, ho⟩ := fmap_block (unhide HD).ft hx
        simp only [List.mem_cons] at hy
        rcases hy with hy | hy
        · exact map_ne ho (unhide HD).row hy.symm
        · obtain ⟨a, ha, hag⟩ := List.mem_map.1 hy
          exact map_ne ho ((unhide HD).files a ha).1 hag
      · intro a ha
        obtain ⟨f, hf, rfl⟩ := List.mem_map.1 ha
        have h9 := unhide HA f hf
        rw [ndK_all hf] at h9
        refine h9.kept ((Kept.refl [d] _).setCell (p := ⟨d, 2, none⟩) (.inl (by simp)) _) ?_ ?_
        · simpa using cells_ne h9.1 (unhide HR2) (by decide)
        · intro x hx
          obtain ⟨cs, hc⟩ := owns_cells h9.2.1 hx
          simpa using cells_ne hc (unhide HR2) (by decide)
      · rw [List.pairwise_map]
        exact (unhide HD).apart
end Go.Proofs.YtejchncdimcdbaaGreatDoor
