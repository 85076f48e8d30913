import Derived.Test.YtejchncdimcdbaaGreatDoorDk15
namespace Go.Proofs.YtejchncdimcdbaaGreatDoor
open Go.RowKit Go.BigFrame
set_option linter.unusedVariables false
set_option linter.unusedSimpArgs false

/-- 'append(x, make([]byte, m)...)' where there is room. -/
theorem run_appendZ_room (w : World) (b off sLen sCap m : Nat) (hroom : sLen + m ≤ sCap) (hm : m ≤ 4096) (hc : ∀ j, j < m → (w.cell? ⟨b, off + sLen + j, none⟩).isSome = true) (hf : ∀ j, j < m → w.frozen? ⟨b, off + sLen + j, none⟩ = false) :
    (Builtin.append_ #[72, 3] 72 #[.slice (some ⟨b, off, none⟩) sLen sCap, .int .i64 m]).run Tryz.prog w = .ok (.slice (some ⟨b, off, none⟩) (sLen + m) sCap) (w.setCells b (off + sLen) (List.replicate m (.int .u8 0))) := by
  obtain ⟨i0, hi, hz0, hz1, hz2⟩ := info_parts Tryz.info5
  have hst := run_storeCells_cells (P := Tryz.prog) b (off + sLen) (List.replicate m (.int .u8 0)) 0 w (by simpa using hc) (by simpa using hf) (by intro u hu; rw [List.eq_of_mem_replicate hu]; rfl)
  simp only [Nat.add_zero] at hst
  have hw : IntKind.i64.wrap (m : Int) = m := by rw [IntKind.wrap_i64]; omega
  have hzc : (Builtin.zeroCells #[(.int .u8 0 : Value)] m).toList = List.replicate m (.int .u8 0) := by
    apply List.ext_getElem
    · simp [Builtin.zeroCells]
    · intro n h1 h2
      simp [Builtin.zeroCells, Nat.mod_one]
  have hb : ¬ (281474976710656 : Int) < (m : Int) := by omega
  have h0 : ¬ (m : Int) < 0 := by omega
  rcases Nat.eq_zero_or_pos m with rfl | hp
  · simp only [List.replicate_zero] at hst ⊢
    simp [Builtin.append_, run_underlying Tryz.underlying72, run_underlying Tryz.underlying3, sizeOf, typeInfo, hi, hz1, hz0, hz2, asInt, asIntOf, zeroValue, Value.cells, Addr.add_lit, hst, show sLen ≤ sCap by omega, IntKind.wrap_i64]
  · have hp2 : ¬ (m : Int) ≤ 0 := by omega
    have hp3 : ¬ m = 0 := by omega
    simp [Builtin.append_, run_underlying Tryz.underlying72, run_underlying Tryz.underlying3, sizeOf, typeInfo, hi, hz1, hz0, hz2, asInt, asIntOf, hw, hb, h0, hp2, hp3, hroom, zeroValue, Value.cells, hzc, Addr.add_lit, hst]
end Go.Proofs.YtejchncdimcdbaaGreatDoor
