import Derived.Test.YtlopdlcepmmjdaaCat
namespace Go.Proofs.Ytlopdlcepmmjdaa
open Go.RowKit
theorem Kept.setRow {L : List Nat} {a w : World} (h : Kept L a w) {g : Nat} (hg : g ∈ L ∨ a.heap.size ≤ g) (cs : Array Value) : Kept L a (w.setRow g cs) :=
  h.trans (M := [g]) ⟨rfl, rfl, rfl, by simp [World.setRow], fun k _ hn => setRow_other w g k _ (by simpa using hn)⟩ (by simpa using hg)
end Go.Proofs.Ytlopdlcepmmjdaa
