import Derived.Test.YtejchncdimcdbaaGreatDoorDk1
namespace Go.Proofs.YtejchncdimcdbaaGreatDoor
open Go.RowKit Go.BigFrame
set_option linter.unusedVariables false
set_option linter.unusedSimpArgs false

/-- Is it a name? -/
def isNm (s : ByteArray) : Bool := decide (1 ≤ s.size ∧ s.size ≤ 40) && s.data.toList.all fun b => nameB b.toNat
theorem isNm_out {s : ByteArray} (h : ¬ (1 ≤ s.size ∧ s.size ≤ 40)) : isNm s = false := by unfold isNm; rw [decide_eq_false h]; rfl
theorem isNm_bad {s : ByteArray} {k : Nat} (hk : k < s.size) (h : nameB (s[k]'hk).toNat = false) : isNm s = false := by
  unfold isNm
  rw [Bool.and_eq_false_iff]
  refine .inr (List.all_eq_false.2 ⟨s[k]'hk, ?_, by rw [h]; simp⟩)
  show s.data[k] ∈ s.data.toList
  exact Array.getElem_mem_toList _
theorem isNm_good {s : ByteArray} (h1 : 1 ≤ s.size) (h2 : s.size ≤ 40) (h : ∀ k (hk : k < s.size), nameB (s[k]'hk).toNat = true) : isNm s = true := by
  unfold isNm
  rw [decide_eq_true ⟨h1, h2⟩, Bool.true_and, List.all_eq_true]
  intro b hb
  obtain ⟨k, hk, rfl⟩ := List.getElem_of_mem hb
  have hk' : k < s.size := by rw [Array.length_toList] at hk; exact hk
  rw [Array.getElem_toList]
  exact h k hk'
set_option maxRecDepth 100000 in
set_option maxHeartbeats 2000000 in
theorem isName_any (s : ByteArray) (w : World) (hs : s.size ≤ 140737488355328) :
    Calls Tryz.prog 81 #[.string s] w fun e w' => e = .returned (.bool (isNm s)) ∧ w' = w := by
  by_cases h1 : 1 ≤ s.size
  · by_cases h2 : s.size ≤ 40
    · have e1 : ¬ (s.size : Int) < 1 := by omega
      have e2 : ¬ (40 : Int) < (s.size : Int) := by omega
      have H1 := hide h1
      have H2 := hide h2
      clear h1 h2
      go_enter Tryz.func81, Tryz.ntmps81
      go_wp2_with fail
      go_loopw [14] (fun t14 wr => ∃ k : Nat, k ≤ s.size ∧ t14 = .int .i64 k ∧ Hid (∀ j (hj : j < s.size), j < k → nameB (s[j]'hj).toNat = true) ∧ wr = w) (fun t _ => s.size - (intOf t).toNat)
      case atStart => exact ⟨0, Nat.zero_le _, rfl, hide (fun j hj h => by omega), rfl⟩
      case round =>
        obtain ⟨k, hk, rfl, HA, rfl⟩ := hrel
        by_cases hlt : k < s.size
        · have e3 : (k : Int) < (s.size : Int) := by omega
          have hb : (s[k]'hlt).toNat < 256 := (s[k]'hlt).toNat_lt
          go_wp2_with fail
          refine Calls.mono (isNameByte_any _ _ hb) ?_
          rintro e w1 ⟨rfl, rfl⟩
          obtain ⟨nb, hnb⟩ : ∃ nb, nameB (s[k]'hlt).toNat = nb := ⟨_, rfl⟩
          rw [hnb]
          cases nb
          · go_wp2_with fail
            go_ret
            exact ⟨by rw [isNm_bad hlt hnb]; rfl, rfl⟩
          · go_wp2_with fail
            refine ⟨⟨k + 1, by omega, by simp, hide (fun j hj h => ?_), trivial⟩, ?_⟩
            · by_cases hjk : j < k
              · exact unhide HA j hj hjk
              · have : j = k := by omega
                subst this
                exact hnb
            · simp [intOf]; omega
        · have e3 : ¬ (k : Int) < (s.size : Int) := by omega
          have hk2 : k = s.size := by omega
          go_wp2_with fail
          go_ret
          exact ⟨by rw [isNm_good (unhide H1) (unhide H2) (fun j hj => unhide HA j hj (by omega))]; rfl, rfl⟩
    · rw [isNm_out (by omega)]
      have e2 : (40 : Int) < (s.size : Int) := by omega
      have e1 : ¬ (s.size : Int) < 1 := by omega
      go_enter Tryz.func81, Tryz.ntmps81
      go_wp2_with fail
      go_ret
      exact ⟨rfl, rfl⟩
  · rw [isNm_out (by omega)]
    have e1 : (s.size : Int) < 1 := by omega
    go_enter Tryz.func81, Tryz.ntmps81
    go_wp2_with fail
    go_ret
    exact ⟨rfl, rfl⟩
end Go.Proofs.YtejchncdimcdbaaGreatDoor
