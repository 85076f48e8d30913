import Derived.Test.YtclgblilgpfllaaNAw
import Derived.Test.YtclgblilgpfllaaNRSet
namespace Go.Proofs.Ytclgblilgpfllaa
open Go.RowKit Go.BigFrame
set_option linter.unusedVariables false
set_option linter.unusedSimpArgs false

set_option maxRecDepth 100000 in
set_option maxHeartbeats 2000000 in
theorem nibbleSets_walk (b : Nat) (i : Int) (w : World) (hb : b < 65536) (hi : -9223372036854775808 ≤ i ∧ i ≤ 9223372036854775807) :
    Calls Try.prog 5 #[.int .u16 b, .int .i64 i] w fun e w' => e = .returned (.bool true) ∧ Below w.heap.size w w' := by
  go_enter Try.func5, Try.ntmps5
  go_wp2_with fail
  refine Calls.mono (nawake_any _) ?_
  rintro e w1 ⟨rfl, k1⟩
  have HK1 := hide k1
  clear k1
  go_wp2_with fail
  refine Calls.mono (has_any b i _ hb hi) ?_
  rintro e w2 ⟨rfl, k2⟩
  have HK2 := hide ((unhide HK1).trans k2 (by simp))
  clear k2 HK1
  go_wp2_with fail
  refine Calls.mono (rhas_any b i _ hb hi) ?_
  rintro e w3 ⟨rfl, k3⟩
  have HK3 := hide ((unhide HK2).trans k3 (by simp))
  clear k3 HK2
  have hE1 : (hasB b i != hasB b i) = false := by simp
  generalize hasB b i = q at *
  go_wp2_with fail
  refine Calls.mono (rank_any b i _ hb hi) ?_
  rintro e w4 ⟨rfl, k4⟩
  have HK4 := hide ((unhide HK3).trans k4 (by simp))
  clear k4 HK3
  go_wp2_with fail
  refine Calls.mono (rrank_any b i _ hb hi) ?_
  rintro e w5 ⟨rfl, k5⟩
  have HK5 := hide ((unhide HK4).trans k5 (by simp))
  clear k5 HK4
  generalize rankB b i = q2 at *
  go_wp2_with fail
  refine Calls.mono (count_any b _ hb) ?_
  rintro e w6 ⟨rfl, k6⟩
  have HK6 := hide ((unhide HK5).trans k6 (by simp))
  clear k6 HK5
  go_wp2_with fail
  refine Calls.mono (rset_any b _ hb) ?_
  rintro e w7 ⟨v7, rfl, r7, k7⟩
  have HK7 := hide ((unhide HK6).trans k7 (by simp))
  clear k7 HK6
  obtain ⟨a7, c7, rfl, h71, h72, _⟩ := r7
  unfold cnt
  generalize (setB b 16).length = q3 at *
  go_wp2_with fail
  refine Calls.mono (with_any b i _ hb hi) ?_
  rintro e w8 ⟨rfl, k8⟩
  have HK8 := hide ((unhide HK7).trans k8 (by simp))
  clear k8 HK7
  go_wp2_with fail
  refine Calls.mono (rwith_any b i _ hb hi) ?_
  rintro e w9 ⟨rfl, k9⟩
  have HK9 := hide ((unhide HK8).trans k9 (by simp))
  clear k9 HK8
  generalize withB b i = q4 at *
  go_wp2_with fail
  refine Calls.mono (without_any b i _ hb hi) ?_
  rintro e w10 ⟨rfl, k10⟩
  have HK10 := hide ((unhide HK9).trans k10 (by simp))
  clear k10 HK9
  go_wp2_with fail
  refine Calls.mono (rwithout_any b i _ hb hi) ?_
  rintro e w11 ⟨rfl, k11⟩
  have HK11 := hide ((unhide HK10).trans k11 (by simp))
  clear k11 HK10
  generalize outB b i = q5 at *
  go_wp2
  go_ret
  exact ⟨rfl, (unhide HK11).below (Nat.le_refl _) (by simp)⟩
end Go.Proofs.Ytclgblilgpfllaa
