import Derived.Test.YtejchncdimcdbaaGreatDoorDk16
namespace Go.Proofs.YtejchncdimcdbaaGreatDoor
open Go.RowKit Go.BigFrame
set_option linter.unusedVariables false
set_option linter.unusedSimpArgs false

/-- 'append(x, make([]byte, m)...)' where it grows. -/
theorem run_appendZ_grow (w : World) (b : Addr) (sLen sCap m : Nat) (olds : List Value) (hlo : olds.length = sLen) (holds : ∀ j v, olds[j]? = some v → w.cell? (b.add j) = some v) (hg : sCap < sLen + m) (h63 : sLen + m ≤ 140737488355328) (hm : m ≤ 4096) (hp : 0 < m) :
    (Builtin.append_ #[72, 3] 72 #[.slice (some b) sLen sCap, .int .i64 m]).run Tryz.prog w =
      .ok (.slice (some ⟨w.heap.size, 0, none⟩) (sLen + m) (grownCap w (sLen + m) sCap 5))
        (w.drew.alloc (.cells (olds.toArray ++ (List.replicate m (.int .u8 0)).toArray ++ Builtin.zeroCells #[(.int .u8 0 : Value)] (grownCap w (sLen + m) sCap 5 - (sLen + m))) 5)) := by
  obtain ⟨i0, hi, hz0, hz1, hz2⟩ := info_parts Tryz.info5
  have hn : ¬ (sLen + m ≤ sCap) := by omega
  have h63' : ¬ (9223372036854775807 < ((sLen : Int) + (m : Int))) := by omega
  have h48' : ¬ (281474976710656 < Builtin.nextslicecap (sLen + m) sCap) := by
    have := growslice_fits (bytes := 1) hg (by omega)
    omega
  have hfo := run_firstCells_some (P := Tryz.prog) w.drew 1 sLen b sLen sCap olds (by omega) (by simpa using holds)
  have hw : IntKind.i64.wrap (m : Int) = m := by rw [IntKind.wrap_i64]; omega
  have hzc : Builtin.zeroCells #[(.int .u8 0 : Value)] m = (List.replicate m (.int .u8 0)).toArray := by
    apply Array.toList_inj.1
    apply List.ext_getElem
    · simp [Builtin.zeroCells]
    · intro n h1 h2
      simp [Builtin.zeroCells, Nat.mod_one]
  have hb : ¬ (281474976710656 : Int) < (m : Int) := by omega
  have h0 : ¬ (m : Int) < 0 := by omega
  have hp2 : ¬ (m : Int) ≤ 0 := by omega
  have hp3 : ¬ m = 0 := by omega
  simp [Builtin.append_, run_underlying Tryz.underlying72, run_underlying Tryz.underlying3, sizeOf, typeInfo, hi, hz1, hz0, hz2, asInt, asIntOf, hw, hb, h0, hp2, hp3, hn, h63', h48', zeroValue, Value.cells, hzc, Question.forced, hfo, newRow, grownCap]
end Go.Proofs.YtejchncdimcdbaaGreatDoor
