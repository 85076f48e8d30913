/-
  No cell of these rows narrows 'for every input' (looked for: loops, veiled, ifaces, maps, wideKeys, modest, calm, conditions, laid).
  DERIVED. THE GIVEN ROWS OF THIS SEAT. 6 by the template 'for every input the law returns true; each argument reads behind the call as it read before'; 0 by the template 'total and deterministic' (their statements: YtkcanelboloihaaTotals.lean).
  GIVEN WITH THE SEED: the statements are not yours to turn. If you find one false, say at which input.
  Laid BY PROGRAM, IN A SANDBOX (cutbox-rows.mjs): the forced cells as the released guide's own fill.sh prints them over the translation 72a2d1cf8f97adcb… (all of the seat's roots in one cut). By AI agents, Wed Nov 11 2026. No macro, syntax, notation, axiom, sorry.
-/
import Derived.Test.YtkcanelboloihaaChecked
import GoSem.Claim
import GoSem.ClaimJoined
import GoSem.ClaimMapViews
import Derived.JoinedTies
import Derived.KernelRfl
namespace Go.Proofs.Ytkcanelboloihaa
/- THE CELL 'sum', in the pinned program and in every row, IS THE sha256 OF THE DUMP (.gsa) THAT YtkcanelboloihaaProg.lean LOADS. Nothing in Lean hashes anything: it is a label: what it is worth is what the hold of that sum in a sandbox is worth. -/
noncomputable def Try.pinned : Pinned := { name := "ytkcanelboloihaa", sum := "72a2d1cf8f97adcbcbfd7c656590dd1f515bcf39c1e84998f6dc0aa7226f8c41", checked := Try.checked }
namespace Rows
def none {H : Type} : Left H := { results := [], args := [] }

/-- 'notarylaw05.EntryDecodes': WHATEVER THE INPUT: true; the input reads as it did. -/
def entryDecodesSpec : ChangeSpec := { name := "entryDecodes", fn := fun _ => fun
  | [d] => { results := [.lit (.bool true)], args := [d] }
  | _ => none }
def entryDecodesRow : OpenClaim := { program := "ytkcanelboloihaa", sum := "72a2d1cf8f97adcbcbfd7c656590dd1f515bcf39c1e84998f6dc0aa7226f8c41", func := "notary/notarylaw05.EntryDecodes", spec := "entryDecodes", unfollowed := true, recurses := true, apart := false }
def EntryDecodesSaid : Prop := entryDecodesRow.holds Try.pinned (OpenSpec.ofChange entryDecodesSpec)

/-- ITS FALSE NEIGHBOUR: 'it returns false'. Refute it at one input. -/
def entryDecodesWrong : ChangeSpec := { name := "entryDecodes", fn := fun _ => fun
  | [d] => { results := [.lit (.bool false)], args := [d] }
  | _ => none }
def EntryDecodesWrongFalsely : Prop := entryDecodesRow.holds Try.pinned (OpenSpec.ofChange entryDecodesWrong)

/-- 'notarylaw05.EntryRoots': WHATEVER THE INPUT: true; the input reads as it did. -/
def entryRootsSpec : ChangeSpec := { name := "entryRoots", fn := fun _ => fun
  | [d1, d2, d3] => { results := [.lit (.bool true)], args := [d1, d2, d3] }
  | _ => none }
def entryRootsRow : OpenClaim := { program := "ytkcanelboloihaa", sum := "72a2d1cf8f97adcbcbfd7c656590dd1f515bcf39c1e84998f6dc0aa7226f8c41", func := "notary/notarylaw05.EntryRoots", spec := "entryRoots", unfollowed := true, recurses := true, apart := false }
def EntryRootsSaid : Prop := entryRootsRow.holds Try.pinned (OpenSpec.ofChange entryRootsSpec)

/-- ITS FALSE NEIGHBOUR: 'it returns false'. Refute it at one input. -/
def entryRootsWrong : ChangeSpec := { name := "entryRoots", fn := fun _ => fun
  | [d1, d2, d3] => { results := [.lit (.bool false)], args := [d1, d2, d3] }
  | _ => none }
def EntryRootsWrongFalsely : Prop := entryRootsRow.holds Try.pinned (OpenSpec.ofChange entryRootsWrong)

/-- 'notarylaw05.EntryFixed': WHATEVER THE INPUT: true; the input reads as it did. -/
def entryFixedSpec : ChangeSpec := { name := "entryFixed", fn := fun _ => fun
  | [] => { results := [.lit (.bool true)], args := [] }
  | _ => none }
def entryFixedRow : OpenClaim := { program := "ytkcanelboloihaa", sum := "72a2d1cf8f97adcbcbfd7c656590dd1f515bcf39c1e84998f6dc0aa7226f8c41", func := "notary/notarylaw05.EntryFixed", spec := "entryFixed", unfollowed := true, recurses := true, apart := false }
def EntryFixedSaid : Prop := entryFixedRow.holds Try.pinned (OpenSpec.ofChange entryFixedSpec)

/-- ITS FALSE NEIGHBOUR: 'it returns false'. Refute it at one input. -/
def entryFixedWrong : ChangeSpec := { name := "entryFixed", fn := fun _ => fun
  | [] => { results := [.lit (.bool false)], args := [] }
  | _ => none }
def EntryFixedWrongFalsely : Prop := entryFixedRow.holds Try.pinned (OpenSpec.ofChange entryFixedWrong)

/-- 'notarylaw05.EntryMemory': WHATEVER THE INPUT: true; the input reads as it did. -/
def entryMemorySpec : ChangeSpec := { name := "entryMemory", fn := fun _ => fun
  | [d1, d2] => { results := [.lit (.bool true)], args := [d1, d2] }
  | _ => none }
def entryMemoryRow : OpenClaim := { program := "ytkcanelboloihaa", sum := "72a2d1cf8f97adcbcbfd7c656590dd1f515bcf39c1e84998f6dc0aa7226f8c41", func := "notary/notarylaw05.EntryMemory", spec := "entryMemory", unfollowed := true, recurses := true, apart := false }
def EntryMemorySaid : Prop := entryMemoryRow.holds Try.pinned (OpenSpec.ofChange entryMemorySpec)

/-- ITS FALSE NEIGHBOUR: 'it returns false'. Refute it at one input. -/
def entryMemoryWrong : ChangeSpec := { name := "entryMemory", fn := fun _ => fun
  | [d1, d2] => { results := [.lit (.bool false)], args := [d1, d2] }
  | _ => none }
def EntryMemoryWrongFalsely : Prop := entryMemoryRow.holds Try.pinned (OpenSpec.ofChange entryMemoryWrong)

/-- 'notarylaw06.DiskNews': WHATEVER THE INPUT: true; the input reads as it did. -/
def diskNewsSpec : ChangeSpec := { name := "diskNews", fn := fun _ => fun
  | [d] => { results := [.lit (.bool true)], args := [d] }
  | _ => none }
def diskNewsRow : OpenClaim := { program := "ytkcanelboloihaa", sum := "72a2d1cf8f97adcbcbfd7c656590dd1f515bcf39c1e84998f6dc0aa7226f8c41", func := "notary/notarylaw06.DiskNews", spec := "diskNews", recurses := true, apart := false }
def DiskNewsSaid : Prop := diskNewsRow.holds Try.pinned (OpenSpec.ofChange diskNewsSpec)

/-- ITS FALSE NEIGHBOUR: 'it returns false'. Refute it at one input. -/
def diskNewsWrong : ChangeSpec := { name := "diskNews", fn := fun _ => fun
  | [d] => { results := [.lit (.bool false)], args := [d] }
  | _ => none }
def DiskNewsWrongFalsely : Prop := diskNewsRow.holds Try.pinned (OpenSpec.ofChange diskNewsWrong)

/-- 'notarylaw06.DiskNil': WHATEVER THE INPUT: true; the input reads as it did. -/
def diskNilSpec : ChangeSpec := { name := "diskNil", fn := fun _ => fun
  | [d] => { results := [.lit (.bool true)], args := [d] }
  | _ => none }
def diskNilRow : OpenClaim := { program := "ytkcanelboloihaa", sum := "72a2d1cf8f97adcbcbfd7c656590dd1f515bcf39c1e84998f6dc0aa7226f8c41", func := "notary/notarylaw06.DiskNil", spec := "diskNil", recurses := true, apart := false }
def DiskNilSaid : Prop := diskNilRow.holds Try.pinned (OpenSpec.ofChange diskNilSpec)

/-- ITS FALSE NEIGHBOUR: 'it returns false'. Refute it at one input. -/
def diskNilWrong : ChangeSpec := { name := "diskNil", fn := fun _ => fun
  | [d] => { results := [.lit (.bool false)], args := [d] }
  | _ => none }
def DiskNilWrongFalsely : Prop := diskNilRow.holds Try.pinned (OpenSpec.ofChange diskNilWrong)

/- THE SECOND FORM. 'bulk': how many values and letters a reading holds, each counted each time it is reached (what is shared counts as often as it is met; a slice's spare places count too). A statement '..UptoSaid' is the law's where the arguments, and the package variables that the reading takes, are together of bulk at most 1048576: NARROWER than '..Said'. Prove '..Said' where nothing that the law and all that it calls make is longer than what came in: it says more and counts as full. Else prove '..UptoSaid'. A law counts once. -/
mutual
def uptoBulk {H : Type} : DataW H → Nat
  | .lit (.string bytes) => bytes.length + 1
  | .lit _ => 1
  | .nil => 1
  | .ptr d => uptoBulk d + 1
  | .slice elems spare => uptoBulkAll elems + uptoBulkAll spare + 1
  | .agg parts => uptoBulkAll parts + 1
  | .iface _ d => uptoBulk d + 1
  | .map entries => uptoBulkEntries entries + 1
  | .held _ => 1
def uptoBulkAll {H : Type} : List (DataW H) → Nat
  | [] => 0
  | d :: r => uptoBulk d + uptoBulkAll r
def uptoBulkEntries {H : Type} : List (Lit × DataW H) → Nat
  | [] => 0
  | x :: r => uptoBulkEntry x + uptoBulkEntries r
def uptoBulkEntry {H : Type} : Lit × DataW H → Nat
  | (.string bytes, d) => bytes.length + uptoBulk d + 1
  | (_, d) => uptoBulk d + 1
 end
def uptoSmall : (H : Type) → List (DataW H) → Bool := fun _ ds => decide (uptoBulkAll ds ≤ 1048576)
def OpenSpec.upto (s : _root_.Go.ChangeSpec) : _root_.Go.OpenSpec := { _root_.Go.OpenSpec.ofChange s with cond := some uptoSmall }

/-- 'notarylaw05.EntryDecodes', WHERE WHAT IT READS IS OF BULK AT MOST 1048576: true; the input reads as it did. -/
def entryDecodesUptoRow : OpenClaim := { program := "ytkcanelboloihaa", sum := "72a2d1cf8f97adcbcbfd7c656590dd1f515bcf39c1e84998f6dc0aa7226f8c41", func := "notary/notarylaw05.EntryDecodes", spec := "entryDecodes", unfollowed := true, recurses := true, apart := false, narrowed := true }
def EntryDecodesUptoSaid : Prop := entryDecodesUptoRow.holds Try.pinned (OpenSpec.upto entryDecodesSpec)

/-- 'notarylaw05.EntryRoots', WHERE WHAT IT READS IS OF BULK AT MOST 1048576: true; the input reads as it did. -/
def entryRootsUptoRow : OpenClaim := { program := "ytkcanelboloihaa", sum := "72a2d1cf8f97adcbcbfd7c656590dd1f515bcf39c1e84998f6dc0aa7226f8c41", func := "notary/notarylaw05.EntryRoots", spec := "entryRoots", unfollowed := true, recurses := true, apart := false, narrowed := true }
def EntryRootsUptoSaid : Prop := entryRootsUptoRow.holds Try.pinned (OpenSpec.upto entryRootsSpec)

/-- 'notarylaw05.EntryFixed', WHERE WHAT IT READS IS OF BULK AT MOST 1048576: true; the input reads as it did. -/
def entryFixedUptoRow : OpenClaim := { program := "ytkcanelboloihaa", sum := "72a2d1cf8f97adcbcbfd7c656590dd1f515bcf39c1e84998f6dc0aa7226f8c41", func := "notary/notarylaw05.EntryFixed", spec := "entryFixed", unfollowed := true, recurses := true, apart := false, narrowed := true }
def EntryFixedUptoSaid : Prop := entryFixedUptoRow.holds Try.pinned (OpenSpec.upto entryFixedSpec)

/-- 'notarylaw05.EntryMemory', WHERE WHAT IT READS IS OF BULK AT MOST 1048576: true; the input reads as it did. -/
def entryMemoryUptoRow : OpenClaim := { program := "ytkcanelboloihaa", sum := "72a2d1cf8f97adcbcbfd7c656590dd1f515bcf39c1e84998f6dc0aa7226f8c41", func := "notary/notarylaw05.EntryMemory", spec := "entryMemory", unfollowed := true, recurses := true, apart := false, narrowed := true }
def EntryMemoryUptoSaid : Prop := entryMemoryUptoRow.holds Try.pinned (OpenSpec.upto entryMemorySpec)

/-- 'notarylaw06.DiskNews', WHERE WHAT IT READS IS OF BULK AT MOST 1048576: true; the input reads as it did. -/
def diskNewsUptoRow : OpenClaim := { program := "ytkcanelboloihaa", sum := "72a2d1cf8f97adcbcbfd7c656590dd1f515bcf39c1e84998f6dc0aa7226f8c41", func := "notary/notarylaw06.DiskNews", spec := "diskNews", recurses := true, apart := false, narrowed := true }
def DiskNewsUptoSaid : Prop := diskNewsUptoRow.holds Try.pinned (OpenSpec.upto diskNewsSpec)

/-- 'notarylaw06.DiskNil', WHERE WHAT IT READS IS OF BULK AT MOST 1048576: true; the input reads as it did. -/
def diskNilUptoRow : OpenClaim := { program := "ytkcanelboloihaa", sum := "72a2d1cf8f97adcbcbfd7c656590dd1f515bcf39c1e84998f6dc0aa7226f8c41", func := "notary/notarylaw06.DiskNil", spec := "diskNil", recurses := true, apart := false, narrowed := true }
def DiskNilUptoSaid : Prop := diskNilUptoRow.holds Try.pinned (OpenSpec.upto diskNilSpec)

end Rows
end Go.Proofs.Ytkcanelboloihaa
