import Derived.Test.YtlopdlcepmmjdaaDk23
namespace Go.Proofs.Ytlopdlcepmmjdaa
open Go.RowKit Go.BigFrame
set_option linter.unusedVariables false
set_option linter.unusedSimpArgs false

theorem settle_any (f : DFile) (w : World) (K : KeepD) (sec : Nat) (hf : FileAt w f) (hlen : f.bs.length ≤ 140737488350000) (hs1 : 1 ≤ sec) (hs2 : sec ≤ 4096) :
    Calls Try.prog 65 #[.pointer (some ⟨f.g, 0, none⟩), keV K, .int .i64 sec] w fun e w' => ∃ v', e = .returned (.tuple #[]) ∧ FileAt w' { f with v := v', bs := (setF K sec (absF f)).bs, sy := (setF K sec (absF f)).sy } ∧ Kept (f.g :: blk f.v) w w' ∧ ∀ x ∈ blk v', x ∈ blk f.v ∨ w.heap.size ≤ x := by
  obtain ⟨kn, kb, tn⟩ := K
  by_cases hc : tn = true ∧ setN ⟨kn, kb, tn⟩ (absF f) < f.bs.length
  · obtain ⟨rfl, hlt⟩ := hc
    have e1 : setF ⟨kn, kb, true⟩ sec (absF f) = ⟨f.nm, f.bs.take (setN ⟨kn, kb, true⟩ (absF f)) ++ List.replicate (tse (setN ⟨kn, kb, true⟩ (absF f)) sec) 0, setN ⟨kn, kb, true⟩ (absF f) + tse (setN ⟨kn, kb, true⟩ (absF f)) sec, true⟩ := by
      unfold setF
      exact if_pos ⟨rfl, hlt⟩
    rw [e1]
    exact settle_torn f w kn kb sec hf hlen _ rfl hlt hs1 hs2
  · have e1 : setF ⟨kn, kb, tn⟩ sec (absF f) = ⟨f.nm, f.bs.take (setN ⟨kn, kb, tn⟩ (absF f)), setN ⟨kn, kb, tn⟩ (absF f), true⟩ := by
      unfold setF
      exact if_neg hc
    rw [e1]
    refine Calls.mono (settle_plain f w kn kb tn sec hf hlen _ rfl (fun h hlt => hc ⟨h, hlt⟩)) ?_
    rintro e w' ⟨v', rfl, h1, h2, h3⟩
    exact ⟨v', rfl, h1, h2.mono (by simp), fun x hx => .inl (h3 ▸ hx)⟩

theorem keyStr_inv {key : Value} {kl : Lit} (h : keyOf Try.prog 9 key = some kl) : ∃ s : ByteArray, key = .string s ∧ kl = .string s.data.toList := by
  cases key <;> simp [keyOf, Try.underlying9, mapKey] at h
  obtain ⟨_, rfl⟩ := h
  exact ⟨_, rfl, rfl⟩

theorem DkAt.turnedF {w w' : World} {d sec m N : Nat} {u fv : Value} {cr op : Int} {off : Bool} {ft : Int → Option Int} {fs : List DFile} (h : DkAt w d sec m N u fv cr op off ft fs) (k : Kept [d] w w') {fv' : Value} {ft' : Int → Option Int} {cr' op' : Int} {off' : Bool} (hr : DRow w' d sec (.map (some m)) u fv' cr' op' off') (hf : FMap w' fv' N ft') (h2 : m ∉ mblk fv') : DkAt w' d sec m N u fv' cr' op' off' ft' fs where
  row := hr
  map := by
    obtain ⟨n, D, ho, _⟩ := h.map
    exact dmap_kept h.map k (by simpa using (map_ne ho h.row).symm)
  un := h.un.kept k (by
    intro x hx
    obtain ⟨cs, hc⟩ := qr_cells h.un hx
    simpa using cells_ne hc h.row (by decide))
  ft := hf
  files := fun f hf => (h.files f hf).kept k (by simpa using cells_ne (h.files f hf).1 h.row (by decide)) (by
    intro x hx
    obtain ⟨cs, hc⟩ := owns_cells (h.files f hf).2.1 hx
    simpa using cells_ne hc h.row (by decide))
  apart := h.apart
  two := h2

/-- Names struck out of the map, the others' made durable. -/
theorem DkAt.struck {w w2 w3 : World} {d sec m N k : Nat} {u fv : Value} {cr op : Int} {off : Bool} {ft : Int → Option Int} {fs : List DFile} (h : DkAt w d sec m N u fv cr op off ft fs) (k2 : Kept [m] w w2) (k3 : Kept (d :: fs.map DFile.g) w2 w3) {n : Nat} {D : DataW Unit} (ho : w2.ownsMap Try.prog 9 ptrElem m n D) (hn : n ≤ N) (hD : MapIs D (look (keepD k fs))) (hr : DRow w3 d sec (.map (some m)) (.slice none 0 0) fv cr op off) (hf : ∀ f ∈ fs, FileAt w3 { f with nd := true }) :
    DkAt w3 d sec m N (.slice none 0 0) fv cr op off ft ((keepD k fs).map fun f => { f with nd := true }) := by
  obtain ⟨n0, D0, ho0, _⟩ := h.map
  have hg : ∀ f ∈ fs, f.g ≠ m := fun f hf => map_ne ho0 (h.files f hf).1
  have hdm : d ≠ m := map_ne ho0 h.row
  have hml : m ∉ d :: fs.map DFile.g := by
    intro hx
    simp only [List.mem_cons, List.mem_map] at hx
    rcases hx with rfl | ⟨f, hf, rfl⟩
    · exact hdm rfl
    · exact hg f hf rfl
  refine ⟨hr, ⟨n, D, ownsMap_heap ho (k3.block m ho.lt hml), hn, by rw [look_nd]; exact hD⟩, by rw [unN_nd]; exact Qr.nil _ _, ?_, ?_, ?_, h.two⟩
  · have h1 := h.ft.kept k2 (by intro x hx hm; simp only [List.mem_singleton] at hm; subst hm; exact h.two hx)
    refine h1.kept k3 ?_
    intro x hx hy
    obtain ⟨n5, D5, ho5⟩ := fmap_block h.ft hx
    simp only [List.mem_cons, List.mem_map] at hy
    rcases hy with rfl | ⟨f, hf, rfl⟩
    · exact map_ne ho5 h.row rfl
    · exact map_ne ho5 (h.files f hf).1 rfl
  · intro a ha
    obtain ⟨f, hf2, rfl⟩ := List.mem_map.1 ha
    exact hf f ((keepD_sub fs k).subset hf2)
  · rw [List.pairwise_map]
    exact h.apart.sublist (keepD_sub fs k)
theorem dkB_struck {d m k : Nat} {u fv : Value} {fs : List DFile} : ∀ x ∈ dkB d m (.slice none 0 0) fv ((keepD k fs).map fun f => { f with nd := true }), x ∈ dkB d m u fv fs := by
  intro x hx
  simp only [dkB, blk, List.mem_cons, List.mem_append, List.mem_flatMap, List.not_mem_nil, false_or] at hx ⊢
  rcases hx with h | h | h | ⟨f, hf, h⟩
  · exact .inl h
  · exact .inr (.inl h)
  · exact .inr (.inr (.inl (.inr h)))
  · obtain ⟨a, ha, rfl⟩ := List.mem_map.1 hf
    exact .inr (.inr (.inr ⟨a, (keepD_sub fs k).subset ha, h⟩))
theorem setL_all (ks : List KeepD) (sec : Nat) (left : Lit → Bool) (hl : ∀ kl, left kl = false) (k : Nat) (fs : List DFile) : (((keepD k fs).map fun f => { f with nd := true }).map absF).map (setL ks sec left) = setA ks sec (cutN k (fs.map absF)) := by
  rw [nd_abs2, ← keepD_abs]
  unfold setA ndA
  rw [List.map_map, List.map_map, List.map_map]
  apply List.map_congr_left
  intro a _
  simp only [Function.comp, setL, hl]
  rfl
where nd_abs2 : ((keepD k fs).map fun f => { f with nd := true }).map absF = ndA ((keepD k fs).map absF) := by unfold ndA; rw [List.map_map, List.map_map]; rfl

theorem setL_start {ks : List KeepD} {sec : Nat} {fs : List DFile} {D : DataW Unit} (hD : MapIs D (look fs)) : (fs.map absF).map (setL ks sec (Maps.has D)) = fs.map absF := by
  conv => rhs; rw [← List.map_id (fs.map absF)]
  apply List.map_congr_left
  intro a ha
  obtain ⟨f, hf, rfl⟩ := List.mem_map.1 ha
  have h1 := (hD f.nm.data.toList).1
  have h2 : (look fs f.nm.data.toList).isSome = true := by
    rw [look_isSome]
    unfold findA
    rw [List.find?_isSome]
    exact ⟨absF f, ha, by simp [absF]⟩
  unfold setL
  rw [show (absF f).nm = f.nm from rfl, h1, h2]
  rfl
theorem setL_step {ks : List KeepD} {sec : Nat} {left : Lit → Bool} {fs gs : List DFile} (hnd : ∀ f ∈ fs, f.nd = true) (hd : Dist (fs.map absF)) (hap : gs.Pairwise Apt) (hg : gs.map absF = (fs.map absF).map (setL ks sec left)) {f : DFile} (hf : f ∈ gs) (hl : left (.string f.nm.data.toList) = true) (v : Value) :
    (upF gs f.g v (setF ((fstK ks f.nm.data.toList).getD zK) sec (absF f)).bs (setF ((fstK ks f.nm.data.toList).getD zK) sec (absF f)).sy).map absF = (fs.map absF).map (setL ks sec fun z => left z && !z.sameKey (.string f.nm.data.toList)) := by
  have hnm : (gs.map absF).map DF.nm = (fs.map absF).map DF.nm := by
    rw [hg, List.map_map]
    apply List.map_congr_left
    intro a _
    exact setL_nm _ _ _ _
  have hdg : Dist (gs.map absF) := by rw [dist_iff, hnm]; exact (dist_iff _).1 hd
  rw [up_abs hap hdg hf, hg]
  unfold upA
  rw [List.map_map]
  apply List.map_congr_left
  intro a ha
  simp only [Function.comp, setL_nm]
  by_cases hn : a.nm = f.nm
  · rw [if_pos hn]
    have h1 : setL ks sec left a = a := by unfold setL; rw [hn, hl]; rfl
    have h2 : absF f = a := by
      have h3 : absF f ∈ (fs.map absF).map (setL ks sec left) := by rw [← hg]; exact List.mem_map.2 ⟨f, hf, rfl⟩
      obtain ⟨b, hb, hbe⟩ := List.mem_map.1 h3
      have h4 : b.nm = a.nm := by rw [hn, ← setL_nm ks sec left b, hbe]; rfl
      obtain ⟨b0, hb0, rfl⟩ := List.mem_map.1 hb
      obtain ⟨a0, ha0, rfl⟩ := List.mem_map.1 ha
      have h5 : b0 = a0 := dist_eq hd hb0 ha0 h4
      subst h5
      rw [← hbe, h1]
    have h6 : a.nd = true := by
      obtain ⟨a0, ha0, rfl⟩ := List.mem_map.1 ha
      exact hnd a0 ha0
    rw [h1, h2]
    have hsk : Lit.sameKey (.string f.nm.data.toList) (.string f.nm.data.toList) = true := WideAt.sameKey_self trivial
    have h7 : setL ks sec (fun z => left z && !z.sameKey (.string f.nm.data.toList)) a = setF ((fstK ks f.nm.data.toList).getD zK) sec a := by
      unfold setL
      rw [hn]
      simp only [hsk, Bool.not_true, Bool.and_false, Bool.false_eq_true, if_false]
    rw [h7]
    unfold setF
    split <;> (rw [h6])
  · rw [if_neg hn]
    have h8 : Lit.sameKey (.string a.nm.data.toList) (.string f.nm.data.toList) = false := Maps.sameKey_ne (by intro e; injection e with e; exact hn (ba_ext e))
    unfold setL
    simp only [h8, Bool.not_false, Bool.and_true]
end Go.Proofs.Ytlopdlcepmmjdaa
