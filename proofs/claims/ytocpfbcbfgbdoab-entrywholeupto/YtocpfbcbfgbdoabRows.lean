/-
  No cell of these rows narrows 'for every input' (looked for: loops, veiled, ifaces, maps, wideKeys, modest, calm, conditions, laid).
  DERIVED. THE GIVEN ROWS OF THIS SEAT. 4 by the template 'for every input the law returns true; each argument reads behind the call as it read before'; 0 by the template 'total and deterministic' (their statements: YtocpfbcbfgbdoabTotals.lean).
  GIVEN WITH THE SEED: the statements are not yours to turn. If you find one false, say at which input.
  Laid BY PROGRAM, IN A SANDBOX (cutbox-rows.mjs): the forced cells as the released guide's own fill.sh prints them over the translation bb8f2565bfcf23ed… (all of the seat's roots in one cut). By AI agents, Wed Nov 11 2026. No macro, syntax, notation, axiom, sorry.
-/
import Derived.Test.YtocpfbcbfgbdoabChecked
import GoSem.Claim
import GoSem.ClaimJoined
import GoSem.ClaimMapViews
import Derived.JoinedTies
import Derived.KernelRfl
namespace Go.Proofs.Ytocpfbcbfgbdoab
/- THE CELL 'sum', in the pinned program and in every row, IS THE sha256 OF THE DUMP (.gsa) THAT YtocpfbcbfgbdoabProg.lean LOADS. Nothing in Lean hashes anything: it is a label: what it is worth is what the hold of that sum in a sandbox is worth. -/
noncomputable def Try.pinned : Pinned := { name := "ytocpfbcbfgbdoab", sum := "bb8f2565bfcf23ed77d71661b48a7a76f4a05741966d8f2718d0377bc7829722", checked := Try.checked }
namespace Rows
def none {H : Type} : Left H := { results := [], args := [] }

/-- 'notarylaw05.EntryWhole': WHATEVER THE INPUT: true; the input reads as it did. -/
def entryWholeSpec : ChangeSpec := { name := "entryWhole", fn := fun _ => fun
  | [d1, d2] => { results := [.lit (.bool true)], args := [d1, d2] }
  | _ => none }
def entryWholeRow : OpenClaim := { program := "ytocpfbcbfgbdoab", sum := "bb8f2565bfcf23ed77d71661b48a7a76f4a05741966d8f2718d0377bc7829722", func := "notary/notarylaw05.EntryWhole", spec := "entryWhole", unfollowed := true, recurses := true, apart := false }
def EntryWholeSaid : Prop := entryWholeRow.holds Try.pinned (OpenSpec.ofChange entryWholeSpec)

/-- ITS FALSE NEIGHBOUR: 'it returns false'. Refute it at one input. -/
def entryWholeWrong : ChangeSpec := { name := "entryWhole", fn := fun _ => fun
  | [d1, d2] => { results := [.lit (.bool false)], args := [d1, d2] }
  | _ => none }
def EntryWholeWrongFalsely : Prop := entryWholeRow.holds Try.pinned (OpenSpec.ofChange entryWholeWrong)

/-- 'notarylaw05.EntryFixed': WHATEVER THE INPUT: true; the input reads as it did. -/
def entryFixedSpec : ChangeSpec := { name := "entryFixed", fn := fun _ => fun
  | [] => { results := [.lit (.bool true)], args := [] }
  | _ => none }
def entryFixedRow : OpenClaim := { program := "ytocpfbcbfgbdoab", sum := "bb8f2565bfcf23ed77d71661b48a7a76f4a05741966d8f2718d0377bc7829722", func := "notary/notarylaw05.EntryFixed", spec := "entryFixed", unfollowed := true, recurses := true, apart := false }
def EntryFixedSaid : Prop := entryFixedRow.holds Try.pinned (OpenSpec.ofChange entryFixedSpec)

/-- ITS FALSE NEIGHBOUR: 'it returns false'. Refute it at one input. -/
def entryFixedWrong : ChangeSpec := { name := "entryFixed", fn := fun _ => fun
  | [] => { results := [.lit (.bool false)], args := [] }
  | _ => none }
def EntryFixedWrongFalsely : Prop := entryFixedRow.holds Try.pinned (OpenSpec.ofChange entryFixedWrong)

/-- 'notarylaw05.EntryMemory': WHATEVER THE INPUT: true; the input reads as it did. -/
def entryMemorySpec : ChangeSpec := { name := "entryMemory", fn := fun _ => fun
  | [d1, d2] => { results := [.lit (.bool true)], args := [d1, d2] }
  | _ => none }
def entryMemoryRow : OpenClaim := { program := "ytocpfbcbfgbdoab", sum := "bb8f2565bfcf23ed77d71661b48a7a76f4a05741966d8f2718d0377bc7829722", func := "notary/notarylaw05.EntryMemory", spec := "entryMemory", unfollowed := true, recurses := true, apart := false }
def EntryMemorySaid : Prop := entryMemoryRow.holds Try.pinned (OpenSpec.ofChange entryMemorySpec)

/-- ITS FALSE NEIGHBOUR: 'it returns false'. Refute it at one input. -/
def entryMemoryWrong : ChangeSpec := { name := "entryMemory", fn := fun _ => fun
  | [d1, d2] => { results := [.lit (.bool false)], args := [d1, d2] }
  | _ => none }
def EntryMemoryWrongFalsely : Prop := entryMemoryRow.holds Try.pinned (OpenSpec.ofChange entryMemoryWrong)

/-- 'notarytop.WholeEntries': WHATEVER THE INPUT: true; the input reads as it did. -/
def wholeEntriesSpec : ChangeSpec := { name := "wholeEntries", fn := fun _ => fun
  | [d1, d2, d3, d4] => { results := [.lit (.bool true)], args := [d1, d2, d3, d4] }
  | _ => none }
def wholeEntriesRow : OpenClaim := { program := "ytocpfbcbfgbdoab", sum := "bb8f2565bfcf23ed77d71661b48a7a76f4a05741966d8f2718d0377bc7829722", func := "notary/notarytop.WholeEntries", spec := "wholeEntries", unfollowed := true, recurses := true, apart := false }
def WholeEntriesSaid : Prop := wholeEntriesRow.holds Try.pinned (OpenSpec.ofChange wholeEntriesSpec)

/-- ITS FALSE NEIGHBOUR: 'it returns false'. Refute it at one input. -/
def wholeEntriesWrong : ChangeSpec := { name := "wholeEntries", fn := fun _ => fun
  | [d1, d2, d3, d4] => { results := [.lit (.bool false)], args := [d1, d2, d3, d4] }
  | _ => none }
def WholeEntriesWrongFalsely : Prop := wholeEntriesRow.holds Try.pinned (OpenSpec.ofChange wholeEntriesWrong)

/- THE SECOND FORM. 'bulk': how many values and letters a reading holds, each counted each time it is reached (what is shared counts as often as it is met; a slice's spare places count too). A statement '..UptoSaid' is the law's where the arguments, and the package variables that the reading takes, are together of bulk at most 1048576: NARROWER than '..Said'. Prove '..Said' where nothing that the law and all that it calls make is longer than what came in: it says more and counts as full. Else prove '..UptoSaid'. A law counts once. -/
mutual
def uptoBulk {H : Type} : DataW H → Nat
  | .lit (.string bytes) => bytes.length + 1
  | .lit _ => 1
  | .nil => 1
  | .ptr d => uptoBulk d + 1
  | .slice elems spare => uptoBulkAll elems + uptoBulkAll spare + 1
  | .agg parts => uptoBulkAll parts + 1
  | .iface _ d => uptoBulk d + 1
  | .map entries => uptoBulkEntries entries + 1
  | .held _ => 1
def uptoBulkAll {H : Type} : List (DataW H) → Nat
  | [] => 0
  | d :: r => uptoBulk d + uptoBulkAll r
def uptoBulkEntries {H : Type} : List (Lit × DataW H) → Nat
  | [] => 0
  | x :: r => uptoBulkEntry x + uptoBulkEntries r
def uptoBulkEntry {H : Type} : Lit × DataW H → Nat
  | (.string bytes, d) => bytes.length + uptoBulk d + 1
  | (_, d) => uptoBulk d + 1
 end
def uptoSmall : (H : Type) → List (DataW H) → Bool := fun _ ds => decide (uptoBulkAll ds ≤ 1048576)
def OpenSpec.upto (s : _root_.Go.ChangeSpec) : _root_.Go.OpenSpec := { _root_.Go.OpenSpec.ofChange s with cond := some uptoSmall }

/-- 'notarylaw05.EntryWhole', WHERE WHAT IT READS IS OF BULK AT MOST 1048576: true; the input reads as it did. -/
def entryWholeUptoRow : OpenClaim := { program := "ytocpfbcbfgbdoab", sum := "bb8f2565bfcf23ed77d71661b48a7a76f4a05741966d8f2718d0377bc7829722", func := "notary/notarylaw05.EntryWhole", spec := "entryWhole", unfollowed := true, recurses := true, apart := false, narrowed := true }
def EntryWholeUptoSaid : Prop := entryWholeUptoRow.holds Try.pinned (OpenSpec.upto entryWholeSpec)

/-- 'notarylaw05.EntryFixed', WHERE WHAT IT READS IS OF BULK AT MOST 1048576: true; the input reads as it did. -/
def entryFixedUptoRow : OpenClaim := { program := "ytocpfbcbfgbdoab", sum := "bb8f2565bfcf23ed77d71661b48a7a76f4a05741966d8f2718d0377bc7829722", func := "notary/notarylaw05.EntryFixed", spec := "entryFixed", unfollowed := true, recurses := true, apart := false, narrowed := true }
def EntryFixedUptoSaid : Prop := entryFixedUptoRow.holds Try.pinned (OpenSpec.upto entryFixedSpec)

/-- 'notarylaw05.EntryMemory', WHERE WHAT IT READS IS OF BULK AT MOST 1048576: true; the input reads as it did. -/
def entryMemoryUptoRow : OpenClaim := { program := "ytocpfbcbfgbdoab", sum := "bb8f2565bfcf23ed77d71661b48a7a76f4a05741966d8f2718d0377bc7829722", func := "notary/notarylaw05.EntryMemory", spec := "entryMemory", unfollowed := true, recurses := true, apart := false, narrowed := true }
def EntryMemoryUptoSaid : Prop := entryMemoryUptoRow.holds Try.pinned (OpenSpec.upto entryMemorySpec)

/-- 'notarytop.WholeEntries', WHERE WHAT IT READS IS OF BULK AT MOST 1048576: true; the input reads as it did. -/
def wholeEntriesUptoRow : OpenClaim := { program := "ytocpfbcbfgbdoab", sum := "bb8f2565bfcf23ed77d71661b48a7a76f4a05741966d8f2718d0377bc7829722", func := "notary/notarytop.WholeEntries", spec := "wholeEntries", unfollowed := true, recurses := true, apart := false, narrowed := true }
def WholeEntriesUptoSaid : Prop := wholeEntriesUptoRow.holds Try.pinned (OpenSpec.upto wholeEntriesSpec)

end Rows
end Go.Proofs.Ytocpfbcbfgbdoab
