import Derived.Test.YtejchncdimcdbaaGreatDoorDk20
import Derived.Deep.Cut
namespace Go.Proofs.YtejchncdimcdbaaGreatDoor
open Go.RowKit Go.BigFrame
set_option linter.unusedVariables false
set_option linter.unusedSimpArgs false

set_option maxRecDepth 100000 in
set_option maxHeartbeats 1000000 in
theorem firstKeeps_any (kv : Value) (ks : List KeepD) (w : World) (h : RdC 3 w kv (ks.map keC)) (hn : ∀ k ∈ ks, k.nm.size ≤ 140737488355328) (hl : ks.length ≤ 1000000000) :
    Calls Tryz.prog 76 #[kv] w fun e w' => ∃ (b n : Nat) (D : DataW Unit), e = .returned (.map (some b)) ∧ w.heap.size ≤ b ∧ w'.ownsMap Tryz.prog 9 keepElem b n D ∧ MapK D (fstK ks) ∧ Kept [] w w' := by
  obtain ⟨ao, len, cap, rfl, h1, h2, h3, h4⟩ := h
  rw [List.length_map] at h1
  subst h1
  have H4 := hide h4
  have HN := hide hn
  clear h4 hn
  have hmm := run_makeMap (P := Tryz.prog) 153 w
  go_enter Tryz.func76, Tryz.ntmps76
  go_wp2_with fail
  go_loopw [11] (fun t11 wr => ∃ (i : Nat) (D : DataW Unit), i ≤ ks.length ∧ t11 = .int .i64 i ∧ Hid (wr.ownsMap Tryz.prog 9 keepElem w.heap.size i D) ∧ Hid (MapK D (fstK (ks.take i))) ∧ Hid (Kept [] w wr)) (fun t _ => ks.length - (intOf t).toNat)
  case atStart => exact ⟨0, .map [], Nat.zero_le _, rfl, hide (World.ownsMap_made w Tryz.prog 9 keepElem), hide MapK.empty, hide ((Kept.refl [] w).alloc _)⟩
  case round =>
    obtain ⟨i, D, hi, rfl, HO, HD, HK⟩ := hrel
    by_cases hlt : i < ks.length
    · have hlt' : (i : Int) < ks.length := by omega
      obtain ⟨b, off, rfl, hcc⟩ := unhide H4 (by omega)
      have hr := hcc i (by rw [List.length_map]; exact hlt)
      rw [List.getElem_map] at hr
      have p0 := (unhide HK).cell (hr 0 _ rfl) (by simp)
      have p1 := (unhide HK).cell (hr 1 _ rfl) (by simp)
      have p2 := (unhide HK).cell (hr 2 _ rfl) (by simp)
      rw [Nat.add_zero] at p0
      have HT := hide (List.take_succ_eq_append_getElem hlt)
      have HNK := hide (unhide HN ks[i] (List.getElem_mem hlt))
      clear hcc hr
      generalize ks[i] = X at p0 p1 p2 HT HNK
      go_upto_region 5 with fail
      have HK1 := hide ((unhide HK).alloc (.cells #[.string X.nm, .int .i64 X.kb, .bool X.tn] 157 (0, 0)))
      have HG1 := hide (heap_alloc_new wr (.cells #[.string X.nm, .int .i64 X.kb, .bool X.tn] 157 (0, 0)))
      have HO1 := hide ((unhide HO).alloc (.cells #[.string X.nm, .int .i64 X.kb, .bool X.tn] 157 (0, 0)))
      obtain ⟨W1, hW1⟩ : ∃ W, wr.alloc (.cells #[.string X.nm, .int .i64 X.kb, .bool X.tn] 157 (0, 0)) = W := ⟨_, rfl⟩
      rw [hW1] at HK1 HG1 HO1 ⊢
      clear hW1 p0 p1 p2
      have hkey := WideMaps.keyOf_string_mk Tryz.underlying9 (s := X.nm) (by have := unhide HNK; unfold maxLen; omega)
      have hlk := look_keepO (unhide HO1) (unhide HD) X.nm hkey
      have HKEY := hide hkey
      clear hkey
      have c0 := cell_of_row _ _ 0 _ _ _ (unhide HG1)
      simp at c0
      cases hfs : fstK (ks.take i) X.nm.data.toList with
      | some Y =>
        rw [hfs] at hlk
        simp only [keV, Option.getD_some, Option.isSome_some] at hlk
        have HFS := hide hfs
        clear hfs
        go_wp2_with fail
        refine ⟨⟨i + 1, D, by omega, by simp, hide ((((unhide HO1).alloc _)).mono (Nat.le_succ _)), hide ?_, hide ((unhide HK1).alloc _)⟩, ?_⟩
        · rw [unhide HT, fstK_same (by rw [unhide HFS]; rfl)]
          exact unhide HD
        · simp [intOf]; omega
      | none =>
        rw [hfs] at hlk
        simp only [keV, zK, Option.getD_none, Option.isSome_none] at hlk
        have HFS := hide hfs
        clear hfs
        go_upto_region 7 with fail
        have HK2 := hide ((unhide HK1).alloc (.cells #[.string ⟨#[]⟩, .int .i64 0, .bool false] 157 (0, 0)))
        have HG2 := hide (((Kept.refl [] W1).alloc (.cells #[.string ⟨#[]⟩, .int .i64 0, .bool false] 157 (0, 0))).heap (unhide HG1) (by simp))
        have HO2 := hide ((unhide HO1).alloc (.cells #[.string ⟨#[]⟩, .int .i64 0, .bool false] 157 (0, 0)))
        obtain ⟨W2, hW2⟩ : ∃ W, W1.alloc (.cells #[.string ⟨#[]⟩, .int .i64 0, .bool false] 157 (0, 0)) = W := ⟨_, rfl⟩
        rw [hW2] at HK2 HG2 HO2 ⊢
        clear hW2 hlk c0
        have c0 := cell_of_row _ _ 0 _ _ _ (unhide HG2)
        have c1 := cell_of_row _ _ 1 _ _ _ (unhide HG2)
        have c2 := cell_of_row _ _ 2 _ _ _ (unhide HG2)
        simp at c0 c1 c2
        go_wp2_with (at_mapUpdate; refine wpList_mapUpdate_in _ rfl _ _ _ 153 rfl 9 157 keyS Tryz.underlying153 keepElem w.heap.size i D rfl (unhide HO2) (by unfold maxLen; omega) _ _ _ rfl rfl (unhide HKEY) _ _ (keepElem_mk X) ?_; intro w3 hown3 hturn3; have HO3 := hide hown3; have HK3 := hide ((unhide HK2).grown hturn3.grown (by intro k hk; injection hk with hk; subst hk; exact .inr (Nat.le_refl _))); clear hown3 hturn3)
        refine ⟨⟨i + 1, _, by omega, by simp, HO3, hide ?_, HK3⟩, ?_⟩
        · rw [unhide HT, ← fstK_put (unhide HFS)]
          exact (unhide HD).put (unhide HO).isMap _ trivial X
        · simp [intOf]; omega
    · have hlt' : ¬ (i : Int) < ks.length := by omega
      have hie : i = ks.length := by omega
      subst hie
      rw [List.take_length] at HD
      go_wp2_with fail
      go_ret
      exact ⟨w.heap.size, rfl, Nat.le_refl _, _, D, unhide HO, unhide HD, unhide HK⟩
end Go.Proofs.YtejchncdimcdbaaGreatDoor
