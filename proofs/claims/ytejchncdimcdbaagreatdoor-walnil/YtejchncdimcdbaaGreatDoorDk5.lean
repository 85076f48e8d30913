import Derived.Test.YtejchncdimcdbaaGreatDoorDk4
import Derived.Test.YtejchncdimcdbaaGreatDoorQTail
import Derived.Test.YtejchncdimcdbaaGreatDoorQr0
namespace Go.Proofs.YtejchncdimcdbaaGreatDoor
open Go.RowKit Go.BigFrame
set_option linter.unusedVariables false
set_option linter.unusedSimpArgs false

theorem map_ne {H : Type} {P : Program} {k : TypeId} {R : Value → Option (DataW H × List MemPlace)} {w : World} {b n : Nat} {D : DataW H} (h : w.ownsMap P k R b n D) {q : Nat} {cs : Array Value} {T : TypeId} {z : Nat × Nat} (hq : w.heap[q]? = some (.cells cs T z)) : q ≠ b := by
  intro e
  subst e
  obtain ⟨es, ck, he, _⟩ := h
  rw [hq] at he
  cases he
theorem Qr.notMap {H : Type} {P : Program} {k : TypeId} {R : Value → Option (DataW H × List MemPlace)} {w : World} {b n : Nat} {D : DataW H} {e : TypeId} {v : Value} {xs : List Value} (h : Qr w e v xs) (hm : w.ownsMap P k R b n D) : b ∉ blk v := by
  intro hx
  rcases h with ⟨rfl, _⟩ | ⟨g, off, cap, cur, rfl, hg, r⟩
  · simp [blk] at hx
  · simp only [blk, List.mem_singleton] at hx
    exact map_ne hm hg hx.symm
theorem look_snoc {fs : List DFile} {f : DFile} (h : look fs f.nm.data.toList = none) (s : List UInt8) : look (fs ++ [f]) s = if s = f.nm.data.toList then some f.g else look fs s := by
  unfold look at h ⊢
  rw [List.find?_append]
  by_cases hs : s = f.nm.data.toList
  · subst hs
    rw [if_pos rfl, Option.map_eq_none_iff.1 h]
    simp
  · rw [if_neg hs]
    have : (f.nm.data.toList == s) = false := by simpa using fun e => hs e.symm
    simp [this]
theorem dmap_add {w1 : World} {m n N : Nat} {D : DataW Unit} {fs : List DFile} {f : DFile} (h : w1.ownsMap Tryz.prog 9 ptrElem m (n + 1) (D.put (.string f.nm.data.toList) (.lit (.int .u64 f.g)))) (hD : MapIs D (look fs)) (hl : look fs f.nm.data.toList = none) (hm : Maps.IsMap D) (hn : n ≤ N) : DMap w1 m (N + 1) (fs ++ [f]) := by
  refine ⟨n + 1, _, h, by omega, ?_⟩
  have h2 := hD.put hm f.nm.data.toList trivial f.g
  intro s
  rw [look_snoc hl]
  exact h2 s
theorem dmap_kept {L : List Nat} {w w' : World} {m N : Nat} {fs : List DFile} (h : DMap w m N fs) (k : Kept L w w') (hn : m ∉ L) : DMap w' m N fs := by
  obtain ⟨n, D, ho, r⟩ := h
  exact ⟨n, D, ownsMap_heap ho (k.block m ho.lt hn), r⟩
set_option maxRecDepth 100000 in
set_option maxHeartbeats 1000000 in
theorem dadd_any (d : Nat) (f : DFile) (w : World) (sec : Int) (m N : Nat) (u fv : Value) (cr op : Int) (off : Bool) (fs : List DFile) (h : DRow w d sec (.map (some m)) u fv cr op off) (hm : DMap w m N fs)
    (hu : Qr w 103 u (unN fs)) (hf : FileAt w f) (hN : N ≤ 1000000000) (hfs : fs.length ≤ 1000000000) (hs : f.nm.size ≤ 140737488355328) (hl : look fs f.nm.data.toList = none) :
    Calls Tryz.prog 42 #[.pointer (some ⟨d, 0, none⟩), .pointer (some ⟨f.g, 0, none⟩)] w fun e w' => ∃ u', e = .returned (.tuple #[]) ∧ DRow w' d sec (.map (some m)) u' fv cr op off ∧ DMap w' m (N + 1) (fs ++ [f]) ∧ Qr w' 103 u' (unN (fs ++ [f])) ∧ Kept (d :: m :: blk u) w w' ∧ ∀ x ∈ blk u', x ∈ blk u ∨ w.heap.size ≤ x := by
  obtain ⟨g, nm, v, bs, sy, nd⟩ := f
  dsimp only at hs hl ⊢
  unfold DRow at h
  have HR := hide h
  have c1 := cell_of_row _ _ 1 _ _ _ h
  simp at c1
  have f0 := cell_of_row _ _ 0 _ _ _ hf.1
  simp at f0
  obtain ⟨n, D, hown, hn, hD⟩ := hm
  have HO := hide hown
  have HD := hide hD
  have HK := hide (WideMaps.keyOf_string_mk Tryz.underlying9 (s := nm) (by unfold maxLen; omega))
  have HU := hide hu
  have HF := hide hf
  have HL := hide hl
  have hn2 : n < maxLen := by unfold maxLen; omega
  have HN2 := hide hn2
  have HDM := hide (map_ne hown h)
  have HGM := hide (map_ne hown hf.1)
  have hlen : (unN fs).length ≤ 1000000000000 := by
    have := List.length_filter_le (fun f : DFile => !f.nd) fs
    unfold unN
    rw [List.length_map]
    omega
  clear hown hD hu hf h hl hn2
  go_enter Tryz.func42, Tryz.ntmps42
  go_wp2_with fail
  refine wp_quiet_tail 9 (by kernel_rfl) (by kernel_rfl) ?_
  simp only [List.take_succ_cons, List.take_zero, List.drop_succ_cons, List.drop_zero]
  repeat (go_big_quiet_step (fail))
  refine wpQuiet_nil ?_
  rintro _ ⟨n1, rfl⟩
  clear c1 f0
  at_mapUpdate
  refine wpList_mapUpdate_in _ rfl _ _ _ 97 rfl 9 103 keyS Tryz.underlying97 ptrElem m n D rfl (ownsMap_heap (unhide HO) rfl) (unhide HN2) _ _ _ rfl rfl (unhide HK) _ _ (ptrElem_mk g) ?_
  intro w1 hown1 hturn1
  have HK1 := hide (((Kept.refl [m] w).drewN n1).grown hturn1.grown (by intro k hk; injection hk with hk; subst hk; simp))
  have HR1 := hide ((unhide HK1).heap (unhide HR) (by simpa using unhide HDM))
  have HG1 := hide ((unhide HK1).heap (unhide HF).1 (by simpa using unhide HGM))
  have HU1 := hide ((unhide HU).kept (unhide HK1) (by intro x hx hm; simp at hm; subst hm; exact Qr.notMap (unhide HU) (unhide HO) hx))
  have HM1 := hide (dmap_add hown1 (unhide HD) (unhide HL) (unhide HO).isMap hn : DMap w1 m (N + 1) (fs ++ [⟨g, nm, v, bs, sy, nd⟩]))
  clear hown1 hturn1
  have c2 := cell_of_row _ _ 2 _ _ _ (unhide HR1)
  have f3 := cell_of_row _ _ 3 _ _ _ (unhide HG1)
  simp at c2 f3
  have hz2 := frozen_of_row _ _ 2 _ _ (unhide HR1)
  cases nd
  · have HU2 := hide ((unhide HU1).kept ((Kept.refl [] w1).alloc (.cells #[.pointer (some ⟨g, 0, none⟩)] 103 (0, 0))) (by simp))
    have HDU := hide ((unhide HU1).apart (unhide HR1) (by decide))
    have HR2 := hide (((Kept.refl [] w1).alloc (.cells #[.pointer (some ⟨g, 0, none⟩)] 103 (0, 0))).heap (unhide HR1) (by simp))
    go_wp2_with (refine wpList_pushQ rfl _ _ 98 103 rfl (.pointer none) 8 Tryz.underlying98 (by kernel_rfl) rfl (by decide) _ u (unN fs) (.pointer (some ⟨g, 0, none⟩)) w1.heap.size (unhide HU2) (heap_alloc_new _ _) rfl hlen rfl rfl ?_; intro ao cap w3 A1 A2 A3; have HR3 := hide ((unhide A2).heap (unhide HR2) (unhide HDU)); have c3 := cell_of_row _ _ 2 _ _ _ (unhide HR3); simp at c3; have hz3 := frozen_of_row _ _ 2 _ _ (unhide HR3))
    have hlt := lt_of_block (unhide HR1)
    have hmu : m ∉ blk u := Qr.notMap (unhide HU) (unhide HO)
    have KA : Kept (blk u) w1 w3 := (((Kept.refl [] w1).alloc (.cells #[.pointer (some ⟨g, 0, none⟩)] 103 (0, 0))).mono (by simp)).trans (unhide A2) (by intro y hy; exact .inl hy)
    have KB : Kept (d :: blk u) w1 (w3.setCell ⟨d, 2, none⟩ (.slice ao ((unN fs).length + 1) cap)) := (KA.mono (by intro x hx; simp [hx])).setCell (.inl (by simp)) _
    have K4 : Kept (d :: m :: blk u) w (w3.setCell ⟨d, 2, none⟩ (.slice ao ((unN fs).length + 1) cap)) := ((unhide HK1).mono (by intro x hx; simp at hx; simp [hx])).trans KB (by intro y hy; left; simp at hy ⊢; rcases hy with h | h <;> simp [h])
    have hun : unN (fs ++ [⟨g, nm, v, bs, sy, false⟩]) = unN fs ++ [.pointer (some ⟨g, 0, none⟩)] := by simp [unN]
    refine bodyPost_end (v := .tuple #[]) (results_none rfl _ _ _) rfl ⟨rfl, _, heap_setCell_same _ _ 2 _ _ _ (unhide HR3), dmap_kept (unhide HM1) KB ?_, ?_, K4, fun x hx => (unhide A3 x hx).imp id (fun h => by simp at h; have := (unhide HK1).size; omega)⟩
    · intro hx
      simp only [List.mem_cons] at hx
      rcases hx with hx | hx
      · exact unhide HDM hx.symm
      · exact hmu hx
    · rw [hun]
      refine (unhide A1).kept ((Kept.refl [d] w3).setCell (.inl (by simp)) _) ?_
      intro x hx hxd
      simp only [List.mem_singleton] at hxd
      subst hxd
      rcases unhide A3 x hx with h1 | h1
      · exact unhide HDU h1
      · simp at h1
        omega
  · go_wp2_with fail
    have hun : unN (fs ++ [⟨g, nm, v, bs, sy, true⟩]) = unN fs := by simp [unN]
    refine bodyPost_end (v := .tuple #[]) (results_none rfl _ _ _) rfl ⟨rfl, u, unhide HR1, unhide HM1, ?_, (unhide HK1).mono (by intro x hx; simp at hx; simp [hx]), fun x hx => .inl hx⟩
    rw [hun]
    exact unhide HU1
end Go.Proofs.YtejchncdimcdbaaGreatDoor
