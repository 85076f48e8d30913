import Derived.Test.YtejchncdimcdbaaGreatDoorDk7
namespace Go.Proofs.YtejchncdimcdbaaGreatDoor
open Go.RowKit Go.BigFrame
set_option linter.unusedVariables false
set_option linter.unusedSimpArgs false

def Apt (a b : DFile) : Prop := a.g ≠ b.g ∧ ∀ x ∈ blk a.v, x ∉ blk b.v
theorem Apt.symm {a b : DFile} (h : Apt a b) : Apt b a := ⟨fun e => h.1 e.symm, fun x hx hy => h.2 x hy hx⟩
theorem apt_mem {fs : List DFile} (h : fs.Pairwise Apt) {a b : DFile} (ha : a ∈ fs) (hb : b ∈ fs) : a = b ∨ Apt a b := by
  induction h with
  | nil => simp at ha
  | @cons x l hx hl ih =>
    simp only [List.mem_cons] at ha hb
    rcases ha with rfl | ha
    · rcases hb with rfl | hb
      · exact .inl rfl
      · exact .inr (hx b hb)
    · rcases hb with rfl | hb
      · exact .inr (hx a ha).symm
      · exact ih ha hb
def upOne (g : Nat) (v : Value) (bs : List Nat) (sy : Nat) (f : DFile) : DFile := if f.g = g then { f with v := v, bs := bs, sy := sy } else f
def upF (fs : List DFile) (g : Nat) (v : Value) (bs : List Nat) (sy : Nat) : List DFile := fs.map (upOne g v bs sy)
theorem upOne_g (g : Nat) (v : Value) (bs : List Nat) (sy : Nat) (f : DFile) : (upOne g v bs sy f).g = f.g := by unfold upOne; split <;> rfl
theorem upOne_nm (g : Nat) (v : Value) (bs : List Nat) (sy : Nat) (f : DFile) : (upOne g v bs sy f).nm = f.nm := by unfold upOne; split <;> rfl
theorem upOne_nd (g : Nat) (v : Value) (bs : List Nat) (sy : Nat) (f : DFile) : (upOne g v bs sy f).nd = f.nd := by unfold upOne; split <;> rfl
theorem look_up (fs : List DFile) (g : Nat) (v : Value) (bs : List Nat) (sy : Nat) : look (upF fs g v bs sy) = look fs := by
  funext s
  unfold look upF
  rw [List.find?_map]
  have : ((fun f : DFile => f.nm.data.toList == s) ∘ upOne g v bs sy) = fun f => f.nm.data.toList == s := by
    funext f
    simp [upOne_nm]
  rw [this, Option.map_map]
  congr 1
  funext f
  simp [upOne_g]
theorem unN_up (fs : List DFile) (g : Nat) (v : Value) (bs : List Nat) (sy : Nat) : unN (upF fs g v bs sy) = unN fs := by
  unfold unN upF
  rw [List.filter_map, List.map_map]
  have h1 : ((fun f : DFile => !f.nd) ∘ upOne g v bs sy) = fun f => !f.nd := by
    funext f
    simp [upOne_nd]
  rw [h1]
  congr 1
  funext f
  simp [upOne_g]
/-- One file has turned, nothing else. -/
theorem DkAt.upd {w w' : World} {d sec m N : Nat} {u fv : Value} {cr op : Int} {off : Bool} {ft : Int → Option Int} {fs : List DFile} (h : DkAt w d sec m N u fv cr op off ft fs) {f : DFile} (hf : f ∈ fs) (k : Kept (f.g :: blk f.v) w w') {v : Value} {bs : List Nat} {sy : Nat}
    (hn : FileAt w' { f with v := v, bs := bs, sy := sy }) (hv : ∀ x ∈ blk v, x ∈ blk f.v ∨ w.heap.size ≤ x) : DkAt w' d sec m N u fv cr op off ft (upF fs f.g v bs sy) := by
  have hfree : ∀ {q : Nat} {cs : Array Value} {T : TypeId} {z : Nat × Nat}, w.heap[q]? = some (.cells cs T z) → T ≠ 106 → T ≠ 5 → q ∉ f.g :: blk f.v := by
    intro q cs T z hq hT hS hx
    simp only [List.mem_cons] at hx
    rcases hx with hx | hx
    · exact cells_ne hq (h.files f hf).1 hT hx
    · obtain ⟨c2, hc⟩ := owns_cells (h.files f hf).2.1 hx
      exact cells_ne hq hc hS rfl
  have hmfree : ∀ {H : Type} {kk : TypeId} {R : Value → Option (DataW H × List MemPlace)} {b n : Nat} {D : DataW H}, w.ownsMap Tryz.prog kk R b n D → b ∉ f.g :: blk f.v := by
    intro H kk R b n D ho hx
    simp only [List.mem_cons] at hx
    rcases hx with hx | hx
    · exact map_ne ho (h.files f hf).1 hx.symm
    · obtain ⟨c2, hc⟩ := owns_cells (h.files f hf).2.1 hx
      exact map_ne ho hc rfl
  refine ⟨k.heap h.row (hfree h.row (by decide) (by decide)), ?_, ?_, ?_, ?_, ?_, h.two⟩
  · obtain ⟨n, D, ho, hN, hD⟩ := h.map
    exact ⟨n, D, ownsMap_heap ho (k.block m ho.lt (hmfree ho)), hN, by rw [look_up]; exact hD⟩
  · rw [unN_up]
    refine h.un.kept k ?_
    intro x hx
    obtain ⟨cs, hc⟩ := qr_cells h.un hx
    exact hfree hc (by decide) (by decide)
  · refine h.ft.kept k ?_
    intro x hx
    obtain ⟨n, D, ho⟩ := fmap_block h.ft hx
    exact hmfree ho
  · intro a ha
    obtain ⟨b, hb, rfl⟩ := List.mem_map.1 ha
    rcases apt_mem h.apart hb hf with rfl | hab
    · unfold upOne
      rw [if_pos rfl]
      exact hn
    · unfold upOne
      rw [if_neg hab.1]
      refine (h.files b hb).kept k ?_ ?_
      · intro hx
        simp only [List.mem_cons] at hx
        rcases hx with hx | hx
        · exact hab.1 hx
        · obtain ⟨cs, hc⟩ := owns_cells (h.files f hf).2.1 hx
          exact cells_ne (h.files b hb).1 hc (by decide) rfl
      · intro x hx hy
        simp only [List.mem_cons] at hy
        rcases hy with hy | hy
        · subst hy
          obtain ⟨cs, hc⟩ := owns_cells (h.files b hb).2.1 hx
          exact cells_ne (h.files f hf).1 hc (by decide) rfl
        · exact hab.2 x hx hy
  · show (List.map (upOne f.g v bs sy) fs).Pairwise Apt
    rw [List.pairwise_map]
    have hin : fs.Pairwise fun a b => a ∈ fs ∧ b ∈ fs ∧ Apt a b := by
      have h1 := h.apart
      rw [List.pairwise_iff_getElem] at h1 ⊢
      intro i j hi hj hij
      exact ⟨List.getElem_mem hi, List.getElem_mem hj, h1 i j hi hj hij⟩
    refine hin.imp ?_
    rintro a b ⟨ha, hb, hab⟩
    refine ⟨by rw [upOne_g, upOne_g]; exact hab.1, ?_⟩
    have hold : ∀ c ∈ fs, ∀ x ∈ blk c.v, x < w.heap.size := by
      intro c hc x hx
      obtain ⟨cs, hcc⟩ := owns_cells (h.files c hc).2.1 hx
      exact lt_of_block hcc
    intro x hx hy
    unfold upOne at hx hy
    split at hx
    · rename_i hga
      split at hy
      · rename_i hgb
        exact hab.1 (hga.trans hgb.symm)
      · rcases apt_mem h.apart ha hf with rfl | haf
        · rcases hv x hx with h1 | h1
          · exact hab.2 x h1 hy
          · have := hold b hb x hy
            omega
        · exact haf.1 hga
    · split at hy
      · rename_i hgb
        rcases apt_mem h.apart hb hf with rfl | hbf
        · rcases hv x hy with h1 | h1
          · exact hab.2 x hx h1
          · have := hold a ha x hx
            omega
        · exact hbf.1 hgb
      · exact hab.2 x hx hy
/-- The blocks that a list of bytes lies in; of an empty one none. -/
def zblk {α : Type} (v : Value) (bs : List α) : List Nat := if bs.isEmpty then [] else blk v
theorem mem_zblk {α : Type} {v : Value} {bs : List α} {x : Nat} (h : x ∈ zblk v bs) : x ∈ blk v ∧ bs ≠ [] := by
  unfold zblk at h
  split at h
  · simp at h
  · rename_i h1; exact ⟨h, by simpa using h1⟩
theorem zblk_of {α : Type} {v : Value} {bs : List α} {x : Nat} (h : x ∈ blk v) (hb : bs ≠ []) : x ∈ zblk v bs := by
  unfold zblk
  rw [if_neg (by simpa using hb)]
  exact h
theorem Rd.keptZ {L : List Nat} {w w' : World} {v : Value} {bs : List Nat} (h : Rd w v bs) (k : Kept L w w') (hn : ∀ x ∈ zblk v bs, x ∉ L) : Rd w' v bs := by
  by_cases he : bs = []
  · subst he
    obtain ⟨ao, len, cap, rfl, h1, h2, h3, h4, h5, h6⟩ := h
    exact ⟨ao, len, cap, rfl, h1, h2, h3, h4, h5, fun hp => by simp at h1; omega⟩
  · exact h.kept k (fun x hx => hn x (zblk_of hx he))
theorem Rd.ltZ {w : World} {v : Value} {bs : List Nat} (h : Rd w v bs) : ∀ x ∈ zblk v bs, x < w.heap.size := by
  intro x hx
  obtain ⟨h1, h2⟩ := mem_zblk hx
  obtain ⟨ao, len, cap, rfl, h3, _, _, _, _, h6⟩ := h
  obtain ⟨b, off, rfl, hc⟩ := h6 (by rw [← h3]; exact List.length_pos_iff.2 h2)
  have h9 := block_lt_of_cell (hc 0 (by rw [← h3]; exact List.length_pos_iff.2 h2))
  simp only [blk, List.mem_singleton] at h1
  subst h1
  exact h9
end Go.Proofs.YtejchncdimcdbaaGreatDoor
