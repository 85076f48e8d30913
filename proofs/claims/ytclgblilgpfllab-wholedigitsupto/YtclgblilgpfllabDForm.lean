import Derived.Test.YtclgblilgpfllabDWr
import Derived.Deep.MidRow
namespace Go.Proofs.Ytclgblilgpfllab
open Go.RowKit Go.BigFrame
set_option linter.unusedVariables false
set_option linter.unusedSimpArgs false

/-- The slice value v reads as the digests ds. -/
def RdD (w : World) (v : Value) (ds : List (List Nat)) : Prop :=
  ∃ (ao : Option Addr) (len cap : Nat), v = .slice ao len cap ∧ ds.length = len ∧ len ≤ cap ∧ cap ≤ 9223372036854775807 ∧ (∀ d ∈ ds, d.length = 32 ∧ ∀ x ∈ d, x < 256) ∧
    (0 < len → ∃ b off, ao = some ⟨b, off, none⟩ ∧ ∀ i, i < len → w.rangeAt b (off + i * 32) ((ds.getD i []).map u8))
theorem RdD.old {w0 w : World} {v : Value} {ds : List (List Nat)} (h : RdD w0 v ds) (k : Kept [] w0 w) : RdD w v ds := by
  obtain ⟨ao, len, cap, rfl, h1, h2, h3, h4, h5⟩ := h
  refine ⟨ao, len, cap, rfl, h1, h2, h3, h4, fun hp => ?_⟩
  obtain ⟨b, off, rfl, hc⟩ := h5 hp
  exact ⟨b, off, rfl, fun i hi j v hv => k.cell (hc i hi j v hv) (by simp)⟩

/-- What formed answers. -/
def formedE (z : Int) (ds : List (List Nat)) : Nat := if widthB z = false then 1 else if ds.all (formB z) then 0 else 3

end Go.Proofs.Ytclgblilgpfllab
