import Derived.Test.YtnepbjnemgebiabOpenB
namespace Go.Proofs.Ytnepbjnemgebiab
open Go.ChangeShapes Go.WideShapes Go.ChangeAt Go.RowKit
set_option linter.unusedVariables false
set_option linter.unusedSimpArgs false
section
variable {H : Type} {enc : TypeId × Value → H} {W : World}
theorem p_nat_of_wf {x : Int} (h : (Lit.int .u64 x).wf = true) : ∃ n : Nat, x = n ∧ n < 18446744073709551616 := by
  simp [Lit.wf, IntKind.min, IntKind.max, IntKind.signed, IntKind.bits] at h
  exact ⟨x.toNat, by omega, by omega⟩

/-- A place and a payload that came in. -/
theorem open_piece {n : Nat} {cs : List Value} {x : DataW H × List MemPlace} (h : DataW.trod enc Try.prog W 0 (fun _ => true) true n 25 cs = some x) (hB : Rows.uptoBulk x.1 ≤ 1048576) :
    ∃ (pl : Nat) (v : Value) (bs : List Nat), cs = [.int .u64 pl, v] ∧ pl < 18446744073709551616 ∧ Rd W v bs ∧ bs.length + 2 ≤ Rows.uptoBulk x.1 := by
  obtain ⟨xs, m, _, rfl, hl, hlen, hf⟩ := DataW.trod_struct Try.underlying25 h
  have c2 : Try.prog.cellsOf 25 = 2 := by kernel_rfl
  have c22 : Try.prog.cellsOf 22 = 1 := by kernel_rfl
  have c24 : Try.prog.cellsOf 23 = 1 := by kernel_rfl
  rw [c2] at hl
  match xs, hlen, cs, hl with
  | [y0, y1], _, [u0, u1], _ =>
    have h0 : DataW.trod enc Try.prog W 0 (fun _ => true) true m 22 [u0] = some y0 := by simpa [c22] using hf 0 _ rfl
    have h1 : DataW.trod enc Try.prog W 0 (fun _ => true) true m 23 [u1] = some y1 := by simpa [c24] using hf 1 _ rfl
    obtain ⟨k, e0, rfl, w0⟩ := DataW.trod_int Try.underlying22 h0
    simp only [List.cons.injEq, and_true] at e0
    subst e0
    simp only [List.map_cons, List.map_nil, Rows.uptoBulk, Rows.uptoBulkAll] at hB
    obtain ⟨v, bs, e1, hr, hb⟩ := open_bytes h1
    simp only [List.cons.injEq, and_true] at e1
    subst e1
    have hb2 := bulk_bytes hb
    obtain ⟨xn, rfl, hxn⟩ := p_nat_of_wf w0
    refine ⟨xn, u1, bs, rfl, hxn, hr (by omega), ?_⟩
    simp only [List.map_cons, List.map_nil, Rows.uptoBulk, Rows.uptoBulkAll]; omega
end
end Go.Proofs.Ytnepbjnemgebiab
