import Derived.Test.YtckkalmhekfnhabGreatDoorRNum
import Derived.Test.YtckkalmhekfnhabGreatDoorWAll
namespace Go.Proofs.YtckkalmhekfnhabGreatDoor
open Go.RowKit
set_option linter.unusedVariables false
set_option linter.unusedSimpArgs false

/-- A cut p[:n] reads as the beginning. -/
theorem Rd.take {w : World} {ao : Option Addr} {cap n : Nat} {p : List Nat} (h : Rd w (.slice ao p.length cap) p) (hn : n ≤ p.length) : Rd w (.slice ao n cap) (p.take n) := by
  obtain ⟨ao', len', cap', he, _, h2, ⟨h3, h3'⟩, h4, h5, h6⟩ := h
  cases he
  refine ⟨_, _, _, rfl, by simp; omega, by omega, ⟨h3, by omega⟩, h4, fun x hx => h5 x (List.mem_of_mem_take hx), fun hp => ?_⟩
  obtain ⟨b, off, rfl, hc⟩ := h6 (by omega)
  refine ⟨b, off, rfl, fun i hi => ?_⟩
  rw [hc i (by omega)]
  simp [List.getD_eq_getElem?_getD, List.getElem?_take, hi]

/-- What Raw answers; the place and the fault behind it. -/
def rRaw (p : List Nat) (i e : Nat) (n : Int) : List Nat × Nat × Nat :=
  if e ≠ 0 then ([], i, e) else if n < 0 then ([], i, 1) else if (p.length : Int) - i < n then ([], i, 3) else ((p.drop i).take n.toNat, i + n.toNat, 0)

end Go.Proofs.YtckkalmhekfnhabGreatDoor
