import Derived.Test.YtejchncdimcdbaaGreatDoorDk18
namespace Go.Proofs.YtejchncdimcdbaaGreatDoor
open Go.RowKit Go.BigFrame
set_option linter.unusedVariables false
set_option linter.unusedSimpArgs false

/-- A slice that reads as rows of s cells each. -/
def RdC (s : Nat) (w : World) (v : Value) (rows : List (List Value)) : Prop :=
  ∃ (ao : Option Addr) (len cap : Nat), v = .slice ao len cap ∧ rows.length = len ∧ len ≤ cap ∧ cap ≤ 9223372036854775807 ∧ (0 < len → ∃ b off, ao = some ⟨b, off, none⟩ ∧ ∀ i (h : i < rows.length), w.rangeAt b (off + i * s) rows[i])
theorem RdC.nil (s : Nat) (w : World) : RdC s w (.slice none 0 0) [] := ⟨none, 0, 0, rfl, rfl, Nat.le_refl _, by omega, fun h => by omega⟩
theorem RdC.kept {s : Nat} {L : List Nat} {w w' : World} {v : Value} {rows : List (List Value)} (h : RdC s w v rows) (k : Kept L w w') (hn : ∀ x ∈ blk v, x ∉ L) : RdC s w' v rows := by
  obtain ⟨ao, len, cap, rfl, h1, h2, h3, h4⟩ := h
  refine ⟨ao, len, cap, rfl, h1, h2, h3, fun hp => ?_⟩
  obtain ⟨b, off, rfl, hc⟩ := h4 hp
  exact ⟨b, off, rfl, fun i hi j u hu => k.cell (hc i hi j u hu) (hn b (by simp [blk]))⟩
theorem RdC.keptZ {s : Nat} {L : List Nat} {w w' : World} {v : Value} {rows : List (List Value)} (h : RdC s w v rows) (k : Kept L w w') (hn : ∀ x ∈ zblk v rows, x ∉ L) : RdC s w' v rows := by
  obtain ⟨ao, len, cap, rfl, h1, h2, h3, h4⟩ := h
  refine ⟨ao, len, cap, rfl, h1, h2, h3, fun hp => ?_⟩
  obtain ⟨b, off, rfl, hc⟩ := h4 hp
  exact ⟨b, off, rfl, fun i hi j u hu => k.cell (hc i hi j u hu) (hn b (zblk_of (by simp [blk]) (by intro e; subst e; simp at h1; omega)))⟩
theorem RdC.ltZ {s : Nat} {w : World} {v : Value} {rows : List (List Value)} (h : RdC s w v rows) (hs : ∀ r ∈ rows, 0 < r.length) : ∀ x ∈ zblk v rows, x < w.heap.size := by
  intro x hx
  obtain ⟨h1, h2⟩ := mem_zblk hx
  obtain ⟨ao, len, cap, rfl, h3, _, _, h6⟩ := h
  have hp : 0 < rows.length := List.length_pos_iff.2 h2
  obtain ⟨b, off, rfl, hc⟩ := h6 (by omega)
  have h9 := block_lt_of_cell (hc 0 hp 0 _ (List.getElem?_eq_getElem (hs rows[0] (List.getElem_mem hp))))
  simp only [blk, List.mem_singleton] at h1
  subst h1
  exact h9
theorem RdC.old {s : Nat} {w w' : World} {v : Value} {rows : List (List Value)} (h : RdC s w v rows) (k : Kept [] w w') : RdC s w' v rows := h.kept k (by simp)

/-- What a cut of power leaves of a file. -/
structure KeepD where
  nm : ByteArray
  kb : Int
  tn : Bool
def keC (k : KeepD) : List Value := [.string k.nm, .int .i64 k.kb, .bool k.tn]
def keV (k : KeepD) : Value := .agg #[.string k.nm, .int .i64 k.kb, .bool k.tn]
def keD {H : Type} (k : KeepD) : DataW H := .agg [.lit (.string k.nm.data.toList), .lit (.int .i64 k.kb), .lit (.bool k.tn)]
def keepElem {H : Type} : Value → Option (DataW H × List MemPlace)
  | .agg cs => match cs.toList with
    | [.string s, .int .i64 b, .bool t] => some (keD ⟨s, b, t⟩, [])
    | _ => none
  | _ => none
theorem keepElem_mk {H : Type} (k : KeepD) : keepElem (H := H) (keV k) = some (keD k, []) := rfl
theorem keepElem_inv {H : Type} {v : Value} {z : DataW H × List MemPlace} (h : keepElem v = some z) : ∃ k, v = keV k ∧ z = (keD k, []) := by
  unfold keepElem at h
  split at h
  · rename_i cs
    split at h
    · rename_i s b t hc
      cases h
      refine ⟨⟨s, b, t⟩, ?_, rfl⟩
      unfold keV
      have : cs = #[.string s, .int .i64 b, .bool t] := by
        apply Array.toList_inj.1
        rw [hc]
      rw [this]
    · cases h
  · cases h
theorem keD_inj {H : Type} {k l : KeepD} (h : keD (H := H) k = keD l) : k = l := by
  obtain ⟨⟨⟨a⟩⟩, b, t⟩ := k
  obtain ⟨⟨⟨a'⟩⟩, b', t'⟩ := l
  simp only [keD] at h
  injection h with h
  injection h with h1 h
  injection h with h2 h
  injection h with h3 h
  injection h1 with h1
  injection h1 with h1
  injection h2 with h2
  injection h2 with _ h2
  injection h3 with h3
  injection h3 with h3
  subst h1 h2 h3
  rfl

def zK : KeepD := ⟨⟨#[]⟩, 0, false⟩
def MapK {H : Type} (D : DataW H) (f : List UInt8 → Option KeepD) : Prop :=
  ∀ s, Maps.has D (.string s) = (f s).isSome ∧ ∀ z, D.atKey (.string s) z = match f s with | none => z | some k => keD k
theorem MapK.empty {H : Type} : MapK (H := H) (.map []) (fun _ => none) := fun s => ⟨rfl, fun z => Maps.atKey_of_not_has rfl z⟩
theorem MapK.put {H : Type} {D : DataW H} {f : List UInt8 → Option KeepD} (h : MapK D f) (hm : Maps.IsMap D) (s : List UInt8) (hk : WideAt.IsKeyLit (.string s)) (k : KeepD) :
    MapK (D.put (.string s) (keD k)) (fun t => if t = s then some k else f t) := by
  intro t
  by_cases ht : t = s
  · subst ht
    simp only [if_true]
    exact ⟨Maps.has_put_same hm hk _, fun z => Maps.atKey_put_same hm hk _ z⟩
  · have hne : Lit.string t ≠ Lit.string s := by simpa using ht
    simp only [if_neg ht]
    exact ⟨by rw [Maps.has_put_other hne]; exact (h t).1, fun z => by rw [Maps.atKey_put_other hne]; exact (h t).2 z⟩

def fstK (ks : List KeepD) (s : List UInt8) : Option KeepD := ks.find? fun k => k.nm.data.toList == s
theorem fstK_snoc (ks : List KeepD) (k : KeepD) (s : List UInt8) : fstK (ks ++ [k]) s = if (fstK ks s).isSome then fstK ks s else if s = k.nm.data.toList then some k else none := by
  unfold fstK
  rw [List.find?_append]
  cases List.find? (fun k => k.nm.data.toList == s) ks with
  | some x => rfl
  | none =>
    simp only [Option.none_or, Option.isSome_none, Bool.false_eq_true, if_false]
    by_cases h : s = k.nm.data.toList
    · subst h; simp
    · rw [if_neg h]
      have : (k.nm.data.toList == s) = false := by simpa using fun e => h e.symm
      simp [this]
theorem fstK_put {ks : List KeepD} {k : KeepD} (h : fstK ks k.nm.data.toList = none) : (fun t => if t = k.nm.data.toList then some k else fstK ks t) = fstK (ks ++ [k]) := by
  funext t
  rw [fstK_snoc]
  by_cases ht : t = k.nm.data.toList
  · subst ht; rw [if_pos rfl, h]; simp
  · rw [if_neg ht, if_neg ht]
    cases fstK ks t <;> rfl
theorem fstK_same {ks : List KeepD} {k : KeepD} (h : (fstK ks k.nm.data.toList).isSome = true) : fstK (ks ++ [k]) = fstK ks := by
  funext t
  rw [fstK_snoc]
  by_cases ht : t = k.nm.data.toList
  · subst ht; rw [if_pos h]
  · rw [if_neg ht]
    cases fstK ks t <;> rfl

theorem zeroKp (w : World) : (zeroValue 157).run Tryz.prog w = .ok (keV zK) w := by kernel_rfl
theorem look_keepO {w : World} {b n : Nat} {D : DataW Unit} {f : List UInt8 → Option KeepD} (hown : w.ownsMap Tryz.prog 9 keepElem b n D) (hD : MapK D f) (s : ByteArray) (hk : keyOf Tryz.prog 9 (.string s) = some (.string s.data.toList)) :
    (Instr.lookup 153 (.map (some b)) (.string s) true).run Tryz.prog w = .ok (.tuple #[keV ((f s.data.toList).getD zK), .bool (f s.data.toList).isSome]) w := by
  obtain ⟨v, ps, hrun, hv⟩ := hown.look_ok keyS Tryz.underlying153 (zeroKp _) (keepElem_mk zK) hk
  obtain ⟨k, rfl, h2⟩ := keepElem_inv hv
  rw [(hD _).1] at hrun
  rw [(hD _).2] at h2
  rw [hrun]
  cases hf : f s.data.toList with
  | none => rw [hf] at h2; simp only [Prod.mk.injEq] at h2; rw [keD_inj h2.1]; rfl
  | some c0 => rw [hf] at h2; simp only [Prod.mk.injEq] at h2; rw [keD_inj h2.1]; rfl
theorem look_keep {w : World} {b n : Nat} {D : DataW Unit} {f : List UInt8 → Option KeepD} (hown : w.ownsMap Tryz.prog 9 keepElem b n D) (hD : MapK D f) (s : ByteArray) (hk : keyOf Tryz.prog 9 (.string s) = some (.string s.data.toList)) :
    (Instr.lookup 153 (.map (some b)) (.string s) false).run Tryz.prog w = .ok (keV ((f s.data.toList).getD zK)) w := by
  obtain ⟨v, ps, hrun, hv⟩ := hown.lookup keyS Tryz.underlying153 (zeroKp _) (keepElem_mk zK) hk
  obtain ⟨k, rfl, h2⟩ := keepElem_inv hv
  rw [(hD _).2] at h2
  rw [hrun]
  cases hf : f s.data.toList with
  | none => rw [hf] at h2; simp only [Prod.mk.injEq] at h2; rw [keD_inj h2.1]; rfl
  | some c0 => rw [hf] at h2; simp only [Prod.mk.injEq] at h2; rw [keD_inj h2.1]; rfl
end Go.Proofs.YtejchncdimcdbaaGreatDoor
