import Derived.Test.YtpomkljgjihogaaDoorCAbv
import Derived.Test.YtpomkljgjihogaaDoorCPrime
namespace Go.Proofs.YtpomkljgjihogaaDoor
open Go.RowKit Go.BigFrame
set_option linter.unusedVariables false
set_option linter.unusedSimpArgs false

theorem rootL_step (p k f lo hi : Nat) (h : 1 < hi - lo) : rootL p k (f + 1) lo hi = if aboveL ((lo + hi) / 2) k p then rootL p k f lo ((lo + hi) / 2) else rootL p k f ((lo + hi) / 2) hi := by
  conv => lhs; unfold rootL
  rw [if_pos h]
theorem rootL_stop (p k f lo hi : Nat) (h : ¬ 1 < hi - lo) : rootL p k f lo hi = lo := by
  cases f with
  | zero => rfl
  | succ f => unfold rootL; rw [if_neg h]

set_option maxRecDepth 100000 in
set_option maxHeartbeats 1000000 in
theorem root_any (p k : Nat) (w : World) (hk : k ≤ 3) (hk1 : 1 ≤ k) (hp : p < 1000) :
    Calls Tryd.prog 7 #[.int .u64 p, .int .u64 k] w fun e w' => e = .returned (.int .u64 (rootL p k 40 0 274877906944 : Int)) ∧ Kept [] w w' := by
  go_enter Tryd.func7, Tryd.ntmps7
  go_wp2_with fail
  go_loopw [5, 6] (fun t5 t6 wr => ∃ (lo hi f : Nat), t5 = .int .u64 lo ∧ t6 = .int .u64 hi ∧ lo < hi ∧ hi ≤ 274877906944 ∧ hi - lo ≤ 2 ^ (f - 1) ∧ 1 ≤ f ∧ Hid (rootL p k f lo hi = rootL p k 40 0 274877906944) ∧ Hid (Kept [] w wr)) (fun a b _ => (intOf b - intOf a).toNat)
  case atStart => exact ⟨0, 274877906944, 40, rfl, rfl, by decide, by decide, by decide, by decide, hide rfl, hide (Kept.refl _ _)⟩
  case round =>
    obtain ⟨lo, hi, f, rfl, rfl, h1, h2, h3, h4, HR, HK⟩ := hrel
    by_cases hgt : 1 < hi - lo
    · have hgt' : (1 : Int) < (hi : Int) - lo := by omega
      obtain ⟨f', rfl⟩ : ∃ f', f = f' + 1 := ⟨f - 1, by omega⟩
      have hf2 : 2 ≤ f' + 1 := by
        rcases Nat.lt_or_ge (f' + 1) 2 with h | h
        · have : f' = 0 := by omega
          subst this
          simp at h3
          omega
        · exact h
      obtain ⟨e', rfl⟩ : ∃ e', f' = e' + 1 := ⟨f' - 1, by omega⟩
      have HS := hide (rootL_step p k (e' + 1) lo hi hgt)
      obtain ⟨mid, hm⟩ : ∃ mid, (lo + hi) / 2 = mid := ⟨_, rfl⟩
      have hm2 : ((lo : Int) + hi).tdiv 2 = mid := by rw [Int.tdiv_eq_ediv_of_nonneg (by omega)]; omega
      have hm3 : ((lo : Int) + hi) / 2 = mid := by omega
      have hpow : 2 ^ (e' + 1 + 1 - 1) = 2 * 2 ^ (e' + 1 - 1) := by
        rw [show e' + 1 + 1 - 1 = (e' + 1 - 1) + 1 by omega, Nat.pow_succ]; omega
      rw [hm] at HS
      rw [hpow] at h3
      obtain ⟨P2, hP2⟩ : ∃ P2, 2 ^ (e' + 1 - 1) = P2 := ⟨_, rfl⟩
      have HP2 := hide hP2
      rw [hP2] at h3
      clear hP2 hpow
      have hm4 : lo < mid ∧ mid < hi := by omega
      have HS2 := hide ((unhide HS).symm.trans (unhide HR))
      clear HS HR
      go_wp2_with fail
      refine Calls.mono (above_any mid k p _ (by omega) hk hk1 hp) ?_
      rintro e2 w2 ⟨rfl, hk2⟩
      have HK2 := hide ((unhide HK).trans hk2 (by simp))
      clear hk2
      cases hab : aboveL mid k p with
      | true =>
        have HS3 := hide (by have h9 := unhide HS2; rw [hab, if_pos rfl] at h9; exact h9 : rootL p k (e' + 1) lo mid = rootL p k 40 0 274877906944)
        clear HS2
        go_wp2
        refine ⟨⟨lo, mid, e' + 1, rfl, rfl, by omega, by omega, by rw [unhide HP2]; omega, by omega, HS3, HK2⟩, ?_⟩
        simp [intOf]; omega
      | false =>
        have HS3 := hide (by have h9 := unhide HS2; rw [hab, if_neg (by simp)] at h9; exact h9 : rootL p k (e' + 1) mid hi = rootL p k 40 0 274877906944)
        clear HS2
        go_wp2
        refine ⟨⟨mid, hi, e' + 1, rfl, rfl, by omega, by omega, by rw [unhide HP2]; omega, by omega, HS3, HK2⟩, ?_⟩
        simp [intOf]; omega
    · have hgt' : ¬ (1 : Int) < (hi : Int) - lo := by omega
      have HS := hide (by rw [← unhide HR]; exact (rootL_stop p k f lo hi hgt).symm : lo = rootL p k 40 0 274877906944)
      go_wp2
      go_ret
      exact ⟨by rw [← unhide HS]; rfl, unhide HK⟩
end Go.Proofs.YtpomkljgjihogaaDoor
