import Derived.Test.YtejchncdimcdbaaGreatDoorRows
import Derived.Test.YtejchncdimcdbaaGreatDoorBase
import Derived.Maps.OwnSet
import Derived.Maps.RangeWalk
import Derived.Maps.Ext
namespace Go.Proofs.YtejchncdimcdbaaGreatDoor
open Go.RowKit
set_option linter.unusedVariables false
set_option linter.unusedSimpArgs false

/-- How an element that is a pointer to a whole block reads: as the block's number; the nil pointer as 'nil'. -/
def ptrElem {H : Type} : Value → Option (DataW H × List MemPlace)
  | .pointer none => some (.lit .nil, [])
  | .pointer (some a) => if a.off = 0 ∧ a.spot = none then some (.lit (.int .u64 a.block), []) else none
  | _ => none
theorem ptrElem_nil {H : Type} : ptrElem (H := H) (.pointer none) = some (.lit .nil, []) := rfl
theorem ptrElem_mk {H : Type} (g : Nat) : ptrElem (H := H) (.pointer (some ⟨g, 0, none⟩)) = some (.lit (.int .u64 g), []) := rfl
theorem ptrElem_inv {H : Type} {v : Value} {z : DataW H × List MemPlace} (h : ptrElem v = some z) : (v = .pointer none ∧ z = (.lit .nil, [])) ∨ ∃ g : Nat, v = .pointer (some ⟨g, 0, none⟩) ∧ z = (.lit (.int .u64 g), []) := by
  unfold ptrElem at h
  split at h
  · cases h; exact .inl ⟨rfl, rfl⟩
  · rename_i a
    split at h
    · rename_i hc
      cases h
      obtain ⟨b, o, s⟩ := a
      obtain ⟨h1, h2⟩ := hc
      subst h1 h2
      exact .inr ⟨b, rfl, rfl⟩
    · cases h
  · cases h
/-- The map from names to blocks: which name leads to which block. -/
def MapIs {H : Type} (D : DataW H) (f : List UInt8 → Option Nat) : Prop :=
  ∀ s, Maps.has D (.string s) = (f s).isSome ∧ ∀ z, D.atKey (.string s) z = match f s with | none => z | some g => .lit (.int .u64 g)
theorem MapIs.empty {H : Type} : MapIs (H := H) (.map []) (fun _ => none) := by
  intro s
  exact ⟨rfl, fun z => Maps.atKey_of_not_has rfl z⟩
theorem MapIs.put {H : Type} {D : DataW H} {f : List UInt8 → Option Nat} (h : MapIs D f) (hm : Maps.IsMap D) (s : List UInt8) (hk : WideAt.IsKeyLit (.string s)) (g : Nat) :
    MapIs (D.put (.string s) (.lit (.int .u64 g))) (fun t => if t = s then some g else f t) := by
  intro t
  by_cases ht : t = s
  · subst ht
    simp only [if_true]
    exact ⟨Maps.has_put_same hm hk _, fun z => Maps.atKey_put_same hm hk _ z⟩
  · have hne : Lit.string t ≠ Lit.string s := by simpa using ht
    simp only [if_neg ht]
    exact ⟨by rw [Maps.has_put_other hne]; exact (h t).1, fun z => by rw [Maps.atKey_put_other hne]; exact (h t).2 z⟩
/-- 'v, ok := m[k]' where the elements are pointers: what comes back, written out. -/
theorem wpList_lookup_ptr {H : Type} {P : Program} (w : World) {ops : Array Oper} {rest : List Oper} {o : Oper} {a : Act} {Q : Exit → Act → World → Prop}
    (hg : o.guard = none) (m x : Operand) (t : TypeId) (hop : o.op = Op.lookup t m x true)
    (k e : TypeId) (K : Maps.Keyed P k) (ht : P.underlying t = some (.map k e)) (hz : (zeroValue e).run P w = .ok (.pointer none) w) (b n : Nat) (D : DataW H) (f : List UInt8 → Option Nat)
    (hm : a.eval m = .map (some b)) (hown : w.ownsMap P k ptrElem b n D) (hf : MapIs D f) (key : Value) (s : List UInt8) (hx : a.eval x = key) (hkey : keyOf P k key = some (.string s))
    (hK : wpList P ops Q rest (a.put o.dst (.tuple #[.pointer ((f s).map fun g => ⟨g, 0, none⟩), .bool (f s).isSome])) w) :
    wpList P ops Q (o :: rest) a w :=
  wpList_lookup_own_ok w hg m x t hop k e K ht ptrElem hz (.lit .nil) [] ptrElem_nil b n D hm hown key (.string s) hx hkey (fun v ps hv => by
    rw [(hf s).2, (hf s).1] at *
    revert hK hv
    cases f s with
    | none =>
      intro hK hv
      rcases ptrElem_inv hv with ⟨rfl, h⟩ | ⟨g, rfl, h⟩
      · exact hK
      · simp at h
    | some g0 =>
      intro hK hv
      rcases ptrElem_inv hv with ⟨rfl, h⟩ | ⟨g, rfl, h⟩
      · simp at h
      · simp at h
        obtain ⟨h, _⟩ := h
        have : g0 = g := by omega
        subst this
        exact hK)
theorem wpList_lookup_some {H : Type} {P : Program} (w : World) {ops : Array Oper} {rest : List Oper} {o : Oper} {a : Act} {Q : Exit → Act → World → Prop}
    (hg : o.guard = none) (m x : Operand) (t : TypeId) (hop : o.op = Op.lookup t m x true)
    (k e : TypeId) (K : Maps.Keyed P k) (ht : P.underlying t = some (.map k e)) (hz : (zeroValue e).run P w = .ok (.pointer none) w) (b n : Nat) (D : DataW H) (f : List UInt8 → Option Nat)
    (hm : a.eval m = .map (some b)) (hown : w.ownsMap P k ptrElem b n D) (hf : MapIs D f) (key : Value) (s : List UInt8) (hx : a.eval x = key) (hkey : keyOf P k key = some (.string s)) (g : Nat) (hr : f s = some g)
    (hK : wpList P ops Q rest (a.put o.dst (.tuple #[.pointer (some ⟨g, 0, none⟩), .bool true])) w) :
    wpList P ops Q (o :: rest) a w :=
  wpList_lookup_ptr w hg m x t hop k e K ht hz b n D f hm hown hf key s hx hkey (by rw [hr]; exact hK)
theorem wpList_lookup_none {H : Type} {P : Program} (w : World) {ops : Array Oper} {rest : List Oper} {o : Oper} {a : Act} {Q : Exit → Act → World → Prop}
    (hg : o.guard = none) (m x : Operand) (t : TypeId) (hop : o.op = Op.lookup t m x true)
    (k e : TypeId) (K : Maps.Keyed P k) (ht : P.underlying t = some (.map k e)) (hz : (zeroValue e).run P w = .ok (.pointer none) w) (b n : Nat) (D : DataW H) (f : List UInt8 → Option Nat)
    (hm : a.eval m = .map (some b)) (hown : w.ownsMap P k ptrElem b n D) (hf : MapIs D f) (key : Value) (s : List UInt8) (hx : a.eval x = key) (hkey : keyOf P k key = some (.string s)) (hr : f s = none)
    (hK : wpList P ops Q rest (a.put o.dst (.tuple #[.pointer none, .bool false])) w) :
    wpList P ops Q (o :: rest) a w :=
  wpList_lookup_ptr w hg m x t hop k e K ht hz b n D f hm hown hf key s hx hkey (by rw [hr]; exact hK)
end Go.Proofs.YtejchncdimcdbaaGreatDoor
