import Derived.Test.YtlopdlcepmmjdaaDk22
import Derived.Test.YtlopdlcepmmjdaaDk19
namespace Go.Proofs.Ytlopdlcepmmjdaa
open Go.RowKit Go.BigFrame
set_option linter.unusedVariables false
set_option linter.unusedSimpArgs false

/-- The files whose names a cut leaves. -/
def keepD : Nat → List DFile → List DFile
  | _, [] => []
  | k, f :: r => if f.nd then f :: keepD k r else match k with
    | 0 => keepD 0 r
    | k + 1 => f :: keepD k r
theorem keepD_nd {k : Nat} {f : DFile} {r : List DFile} (h : f.nd = true) : keepD k (f :: r) = f :: keepD k r := by cases k <;> simp [keepD, h]
theorem keepD_zero {f : DFile} {r : List DFile} (h : f.nd = false) : keepD 0 (f :: r) = keepD 0 r := by simp [keepD, h]
theorem keepD_succ {k : Nat} {f : DFile} {r : List DFile} (h : f.nd = false) : keepD (k + 1) (f :: r) = f :: keepD k r := by simp [keepD, h]
theorem keepD_abs (fs : List DFile) : ∀ k, (keepD k fs).map absF = cutN k (fs.map absF) := by
  induction fs with
  | nil => intro k; simp [keepD, cutN]
  | cons f r ih =>
    intro k
    cases hn : f.nd
    · cases k with
      | zero => rw [keepD_zero hn, ih]; simp [cutN, absF, hn]
      | succ k => rw [keepD_succ hn, List.map_cons, ih]; simp [cutN, absF, hn]
    · rw [keepD_nd hn, List.map_cons, ih]; cases k <;> simp [cutN, absF, hn]
theorem keepD_sub (fs : List DFile) : ∀ k, (keepD k fs).Sublist fs := by
  induction fs with
  | nil => intro k; simp [keepD]
  | cons f r ih =>
    intro k
    cases hn : f.nd
    · cases k with
      | zero => rw [keepD_zero hn]; exact (ih 0).cons _
      | succ k => rw [keepD_succ hn]; exact (ih k).cons_cons _
    · rw [keepD_nd hn]; exact (ih k).cons_cons _
/-- The map, some names struck. -/
def delF (fs : List DFile) (k j : Nat) (s : List UInt8) : Option Nat := if (((unL fs).drop k).take j).any (fun x => x.nm.data.toList == s) then none else look fs s
theorem delF_zero (fs : List DFile) (k : Nat) : delF fs k 0 = look fs := by funext s; simp [delF]
theorem delF_succ {fs : List DFile} {k j : Nat} (h : j < ((unL fs).drop k).length) : (fun t => if t = (((unL fs).drop k)[j]'h).nm.data.toList then none else delF fs k j t) = delF fs k (j + 1) := by
  funext t
  unfold delF
  rw [List.take_succ_eq_append_getElem h, List.any_append, List.any_cons, List.any_nil, Bool.or_false]
  generalize ((unL fs).drop k)[j]'h = X
  by_cases ht : t = X.nm.data.toList
  · subst ht
    rw [if_pos rfl, if_pos (by simp)]
  · have h1 : (X.nm.data.toList == t) = false := by rw [beq_eq_false_iff_ne]; exact fun e => ht e.symm
    rw [if_neg ht, h1, Bool.or_false]
theorem look_cons (f : DFile) (r : List DFile) (s : List UInt8) : look (f :: r) s = if f.nm.data.toList = s then some f.g else look r s := by
  unfold look
  rw [List.find?_cons]
  by_cases h : f.nm.data.toList = s
  · simp [h]
  · have : (f.nm.data.toList == s) = false := by simpa using h
    simp [this, h]
theorem unL_nd {f : DFile} {r : List DFile} (h : f.nd = true) : unL (f :: r) = unL r := by simp [unL, h]
theorem unL_not {f : DFile} {r : List DFile} (h : f.nd = false) : unL (f :: r) = f :: unL r := by simp [unL, h]
theorem look_none_of {fs : List DFile} {s : List UInt8} (h : ∀ f ∈ fs, f.nm.data.toList ≠ s) : look fs s = none := by
  unfold look
  rw [Option.map_eq_none_iff, List.find?_eq_none]
  intro f hf
  simpa using h f hf
theorem any_none_of {l : List DFile} {s : List UInt8} (h : ∀ f ∈ l, f.nm.data.toList ≠ s) : l.any (fun x => x.nm.data.toList == s) = false := by
  rw [List.any_eq_false]
  intro f hf
  simpa using h f hf
theorem look_keepD (fs : List DFile) : ∀ k, Dist (fs.map absF) → ∀ s, look (keepD k fs) s = if ((unL fs).drop k).any (fun x => x.nm.data.toList == s) then none else look fs s := by
  induction fs with
  | nil => intro k hd s; simp [keepD, unL, look]
  | cons f r ih =>
    intro k hd s
    rw [List.map_cons] at hd
    obtain ⟨hd1, hd2⟩ := List.pairwise_cons.1 hd
    have hne : ∀ x ∈ r, f.nm.data.toList = s → x.nm.data.toList ≠ s := by
      intro x hx e1 e2
      exact hd1 (absF x) (List.mem_map.2 ⟨x, hx, rfl⟩) (ba_ext (e1.trans e2.symm))
    have hun : ∀ x ∈ unL r, x ∈ r := fun x hx => (List.mem_filter.1 hx).1
    cases hn : f.nd
    · rw [unL_not hn]
      cases k with
      | zero =>
        rw [keepD_zero hn, ih 0 hd2, List.drop_zero, List.drop_zero, List.any_cons, look_cons]
        by_cases h : f.nm.data.toList = s
        · rw [if_pos (by simp [h] : (f.nm.data.toList == s || (unL r).any fun x => x.nm.data.toList == s) = true)]
          split
          · rfl
          · exact look_none_of (fun x hx => hne x hx h)
        · have : (f.nm.data.toList == s) = false := by simpa using h
          rw [this, Bool.false_or, if_neg h]
      | succ k =>
        rw [keepD_succ hn, look_cons, look_cons, List.drop_succ_cons, ih k hd2]
        by_cases h : f.nm.data.toList = s
        · rw [if_pos h, if_pos h, any_none_of (fun x hx => hne x (hun x (List.mem_of_mem_drop hx)) h)]
          rfl
        · rw [if_neg h, if_neg h]
    · rw [unL_nd hn, keepD_nd hn, look_cons, look_cons, ih k hd2]
      by_cases h : f.nm.data.toList = s
      · rw [if_pos h, if_pos h, any_none_of (fun x hx => hne x (hun x (List.mem_of_mem_drop hx)) h)]
        rfl
      · rw [if_neg h, if_neg h]
theorem delF_all (fs : List DFile) (k : Nat) (hd : Dist (fs.map absF)) : delF fs k ((unL fs).drop k).length = look (keepD k fs) := by
  funext s
  rw [look_keepD fs k hd]
  unfold delF
  rw [List.take_length]
theorem unA_abs (fs : List DFile) : unA (fs.map absF) = (unL fs).length := by
  unfold unA unL
  rw [List.filter_map, List.length_map]
  rfl

theorem ranges_heap {H : Type} {P : Program} {k : TypeId} {R : Value → Option (DataW H × List MemPlace)} {w w' : World} {b r n : Nat} {D : DataW H} {left : Lit → Bool} {cnt : Nat} (h : w.ranges P k R b r n D left cnt) (e1 : w'.heap[b]? = w.heap[b]?) (e2 : w'.heap[r]? = w.heap[r]?) : w'.ranges P k R b r n D left cnt := by
  obtain ⟨es, clock, since, seen, c0, hb, F, hs, hD, hr, rest⟩ := h
  exact ⟨es, clock, since, seen, c0, e1.trans hb, F, hs, hD, e2.trans hr, rest⟩
theorem ranges_iter {H : Type} {P : Program} {k : TypeId} {R : Value → Option (DataW H × List MemPlace)} {w : World} {b r n : Nat} {D : DataW H} {left : Lit → Bool} {cnt : Nat} (h : w.ranges P k R b r n D left cnt) : ∃ m s e c, w.heap[r]? = some (.mapIter m s e c) := by
  obtain ⟨es, clock, since, seen, c0, hb, F, hs, hD, hr, rest⟩ := h
  exact ⟨_, _, _, _, hr⟩
theorem DkAt.obj {w : World} {d sec m N : Nat} {u fv : Value} {cr op : Int} {off : Bool} {ft : Int → Option Int} {fs : List DFile} (h : DkAt w d sec m N u fv cr op off ft fs) : ∀ x ∈ dkB d m u fv fs, (∃ cs T z, w.heap[x]? = some (.cells cs T z)) ∨ ∃ es c, w.heap[x]? = some (.map es c) := by
  intro x hx
  simp only [dkB, List.mem_cons, List.mem_append, List.mem_flatMap] at hx
  rcases hx with rfl | rfl | (hx | hx) | ⟨f, hf, hx⟩
  · exact .inl ⟨_, _, _, h.row⟩
  · obtain ⟨n, D, ⟨es, c, hb, _⟩, _⟩ := h.map
    exact .inr ⟨es, c, hb⟩
  · obtain ⟨cs, hc⟩ := qr_cells h.un hx
    exact .inl ⟨_, _, _, hc⟩
  · obtain ⟨n, D, es, c, hb, _⟩ := fmap_block h.ft hx
    exact .inr ⟨es, c, hb⟩
  · rcases hx with rfl | hx
    · exact .inl ⟨_, _, _, (h.files f hf).1⟩
    · obtain ⟨cs, hc⟩ := owns_cells (h.files f hf).2.1 hx
      exact .inl ⟨_, _, _, hc⟩
theorem DkAt.noIter {w : World} {d sec m N : Nat} {u fv : Value} {cr op : Int} {off : Bool} {ft : Int → Option Int} {fs : List DFile} (h : DkAt w d sec m N u fv cr op off ft fs) {r : Nat} (hr : ∃ m s e c, w.heap[r]? = some (.mapIter m s e c)) : r ∉ dkB d m u fv fs := by
  intro hx
  obtain ⟨a, b, c, e, hr⟩ := hr
  rcases h.obj r hx with ⟨_, _, _, h1⟩ | ⟨_, _, h1⟩ <;> rw [h1] at hr <;> cases hr

/-- What is settled so far. -/
def setL (ks : List KeepD) (sec : Nat) (left : Lit → Bool) (f : DF) : DF := if left (.string f.nm.data.toList) then f else setF ((fstK ks f.nm.data.toList).getD zK) sec f
theorem setF_nm (k : KeepD) (sec : Nat) (f : DF) : (setF k sec f).nm = f.nm := by unfold setF; split <;> rfl
theorem setL_nm (ks : List KeepD) (sec : Nat) (left : Lit → Bool) (f : DF) : (setL ks sec left f).nm = f.nm := by unfold setL; split; rfl; exact setF_nm _ _ _
theorem look_abs_eq {fs gs : List DFile} (h : fs.map (fun f => (f.nm, f.g)) = gs.map (fun f => (f.nm, f.g))) : look fs = look gs := by
  funext s
  have e : ∀ l : List DFile, look l s = ((l.map fun f => (f.nm, f.g)).find? fun p => p.1.data.toList == s).map (·.2) := by
    intro l
    unfold look
    rw [List.find?_map, Option.map_map]
    rfl
  rw [e, e, h]
theorem upF_key (fs : List DFile) (g : Nat) (v : Value) (bs : List Nat) (sy : Nat) : (upF fs g v bs sy).map (fun f => (f.nm, f.g)) = fs.map (fun f => (f.nm, f.g)) := by
  unfold upF
  rw [List.map_map]
  apply List.map_congr_left
  intro a _
  simp [upOne_nm, upOne_g]
end Go.Proofs.Ytlopdlcepmmjdaa
