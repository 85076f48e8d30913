/-
  Plain reckoning: the check sum with its bits the other way round. No program, no model.
-/
import Derived.Test.YtejchncdimcdbaaGreatDoorCrc
namespace Go.Proofs.YtejchncdimcdbaaGreatDoor
set_option linter.unusedVariables false

/-- The n lowest bits of c the other way round. -/
def rv : Nat → Nat → Nat
  | 0, _ => 0
  | n + 1, c => rv n c * 2 + c / 2 ^ n % 2
/-- Doubled, modulo the polynomial: 33 bits, of which the highest falls out. -/
def dbl (r : Nat) : Nat := r * 2 ^^^ r / 2147483648 * 4812730177
/-- The product of two remainders, by Horner. -/
def hor (a : Nat) : Nat → Nat → Nat
  | 0, _ => 0
  | j + 1, b => dbl (hor a j (b / 2)) ^^^ b % 2 * a
end Go.Proofs.YtejchncdimcdbaaGreatDoor
