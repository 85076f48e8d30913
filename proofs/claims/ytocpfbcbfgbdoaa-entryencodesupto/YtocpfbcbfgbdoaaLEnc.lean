import Derived.Test.YtocpfbcbfgbdoaaEAw
namespace Go.Proofs.Ytocpfbcbfgbdoaa
open Go.RowKit Go.BigFrame
set_option linter.unusedVariables false
set_option linter.unusedSimpArgs false

set_option maxRecDepth 100000 in
set_option maxHeartbeats 1000000 in
theorem entryEncodes_walk (v : Value) (es : List En) (w : World) (h : RdN w v es) (hl : es.length ≤ 1048576) :
    Calls Try.prog 3 #[v] w fun r w' => r = .returned (.bool true) ∧ Below w.heap.size w w' := by
  obtain ⟨ao, len, cap, kv, vv, rfl, h1, h2, h3, h4, h5⟩ := h
  have H4 := hide h4
  have H5 := hide h5
  clear h4 h5
  subst h1
  go_enter Try.func3, Try.ntmps3
  go_wp2_with fail
  refine Calls.mono (eawake_any w) ?_
  rintro r w1 ⟨rfl, k1⟩
  have HK1 := hide k1
  clear k1
  go_wp2_with fail
  go_loopw [9] (fun t12 wr => ∃ (i : Nat), i ≤ es.length ∧ t12 = .int .i64 i ∧ Hid (Kept [] w wr)) (fun t _ => es.length - (intOf t).toNat)
  case atStart => exact ⟨0, Nat.zero_le _, rfl, HK1⟩
  case round =>
    obtain ⟨i, hi, rfl, HK⟩ := hrel
    by_cases hlt : i < es.length
    · have hlt' : (i : Int) < es.length := by omega
      obtain ⟨b, off, rfl, hcc⟩ := unhide H5 (by omega)
      have hr := hcc i hlt
      have q0 := (unhide HK).cell (hr 0 _ rfl) (by simp)
      have q1 := (unhide HK).cell (hr 1 _ rfl) (by simp)
      have q2 := (unhide HK).cell (hr 2 _ rfl) (by simp)
      rw [Nat.add_zero] at q0
      have HO := hide ((unhide H4 i hlt).old (unhide HK))
      clear hcc hr
      generalize kv i = kvi at q1 HO
      generalize vv i = vvi at q2 HO
      generalize es[i] = e at q0 HO
      obtain ⟨a8, m8, c8, rfl, _⟩ := id (unhide HO).key
      obtain ⟨a9, m9, c9, rfl, _⟩ := id (unhide HO).val
      go_wp2_with fail
      have HK1 := hide ((unhide HK).alloc (.cells #[.int .u8 (e.k : Int), .slice a8 m8 c8, .slice a9 m9 c9] 26))
      refine Calls.mono (one_any e _ _ _ ((unhide HO).old ((Kept.refl [] wr).alloc _))) ?_
      rintro r w2 ⟨rfl, k2⟩
      have HK2 := hide ((unhide HK1).trans k2 (by simp))
      clear k2
      go_wp2
      refine ⟨⟨i + 1, by omega, by go_num, HK2⟩, ?_⟩
      simp [intOf]; omega
    · have hlt' : ¬ (i : Int) < es.length := by omega
      go_wp2
      go_ret
      exact ⟨rfl, (unhide HK).below (Nat.le_refl _) (by simp)⟩
end Go.Proofs.Ytocpfbcbfgbdoaa
