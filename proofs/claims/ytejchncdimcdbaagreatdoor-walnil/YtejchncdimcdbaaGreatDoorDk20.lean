import Derived.Test.YtejchncdimcdbaaGreatDoorDk18
namespace Go.Proofs.YtejchncdimcdbaaGreatDoor
open Go.RowKit Go.BigFrame
set_option linter.unusedVariables false
set_option linter.unusedSimpArgs false

/-- A slice that reads as rows of s cells each. -/
def RdC (s : Nat) (w : World) (v : Value) (rows : List (List Value)) : Prop :=
  ∃ (ao : Option Addr) (len cap : Nat), v = .slice ao len cap ∧ rows.length = len ∧ len ≤ cap ∧ cap ≤ 9223372036854775807 ∧ (0 < len → ∃ b off, ao = some ⟨b, off, none⟩ ∧ ∀ i (h : i < rows.length), w.rangeAt b (off + i * s) rows[i])
theorem RdC.nil (s : Nat) (w : World) : RdC s w (.slice none 0 0) [] := ⟨none, 0, 0, rfl, rfl, Nat.le_refl _, by omega, fun h => by omega⟩
theorem RdC.kept {s : Nat} {L : List Nat} {w w' : World} {v : Value} {rows : List (List Value)} (h : RdC s w v rows) (k : Kept L w w') (hn : ∀ x ∈ blk v, x ∉ L) : RdC s w' v rows := by
  obtain ⟨ao, len, cap, rfl, h1, h2, h3, h4⟩ := h
  refine ⟨ao, len, cap, rfl, h1, h2, h3, fun hp => ?_⟩
  obtain ⟨b, off, rfl, hc⟩ := h4 hp
  exact ⟨b, off, rfl, fun i hi j u hu => k.cell (hc i hi j u hu) (hn b (by simp [blk]))⟩
theorem RdC.keptZ {s : Nat} {L : List Nat} {w w' : World} {v : Value} {rows : List (List Value)} (h : RdC s w v rows) (k : Kept L w w') (hn : ∀ x ∈ zblk v rows, x ∉ L) : RdC s w' v rows := by
  obtain ⟨ao, len, cap, rfl, h1, h2, h3, h4⟩ := h
  refine ⟨ao, len, cap, rfl, h1, h2, h3, fun hp => ?_⟩
  obtain ⟨b, off, rfl, hc⟩ := h4 hp
  exact ⟨b, off, rfl, fun i hi j u hu => k.cell (hc i hi j u hu) (hn b (zblk_of (by simp [blk]) (by intro e; subst e; simp at h1; omega)))⟩
theorem RdC.ltZ {s : Nat} {w : World} {v : Value} {rows : List (List Value)} (h : RdC s w v rows) (hs : ∀ r ∈ rows, 0 < r.length) : ∀ x ∈ zblk v rows, x < w.heap.size := by
  intro x hx
  obtain ⟨h1, h2⟩ := mem_zblk hx
  obtain ⟨ao, len, cap, rfl, h3, _, _, h6⟩ := h
  have hp : 0 < rows.length := List.length_pos_iff.2 h2
  obtain ⟨b, off, rfl, hc⟩ := h6 (by omega)
  have h9 := block_lt_of_cell (hc 0 hp 0 _ (List.getElem?_eq_getElem (hs rows[0] (List.getElem_mem hp))))
  simp only [blk, List.mem_singleton] at h1
  subst h1
  exact h9
theorem RdC.old {s : Nat} {w w' : World} {v : Value} {rows : List (List Value)} (h : RdC s w v rows) (k : Kept [] w w') : RdC s w' v rows := h.kept k (by simp)
/-- What a cut of power leaves of a file. -/
structure KeepD where
  nm : ByteArray
  kb : Int
  tn : Bool
def keD {H : Type} (k : KeepD) : DataW H := .agg [.lit (.string k.nm.data.toList), .lit (.int .i64 k.kb), .lit (.bool k.tn)]
def MapK {H : Type} (D : DataW H) (f : List UInt8 → Option KeepD) : Prop :=
  ∀ s, Maps.has D (.string s) = (f s).isSome ∧ ∀ z, D.atKey (.string s) z = match f s with | none => z | some k => keD k
theorem MapK.empty {H : Type} : MapK (H := H) (.map []) (fun _ => none) := fun s => ⟨rfl, fun z => Maps.atKey_of_not_has rfl z⟩
theorem MapK.put {H : Type} {D : DataW H} {f : List UInt8 → Option KeepD} (h : MapK D f) (hm : Maps.IsMap D) (s : List UInt8) (hk : WideAt.IsKeyLit (.string s)) (k : KeepD) :
    MapK (D.put (.string s) (keD k)) (fun t => if t = s then some k else f t) := by
  intro t
  by_cases ht : t = s
  · subst ht
    simp only [if_true]
    exact ⟨Maps.has_put_same hm hk _, fun z => Maps.atKey_put_same hm hk _ z⟩
  · have hne : Lit.string t ≠ Lit.string s := by simpa using ht
    simp only [if_neg ht]
    exact ⟨by rw [Maps.has_put_other hne]; exact (h t).1, fun z => by rw [Maps.atKey_put_other hne]; exact (h t).2 z⟩
end Go.Proofs.YtejchncdimcdbaaGreatDoor
