import Derived.Test.YtckkalmhekfnhabGreatDoorRUvar
import Derived.Test.YtckkalmhekfnhabGreatDoorRBlob
namespace Go.Proofs.YtckkalmhekfnhabGreatDoor
open Go.RowKit Go.BigFrame
set_option linter.unusedVariables false
set_option linter.unusedSimpArgs false

/-- An entry: its kind, key, value. -/
structure En where
  k : Nat
  key : List Nat
  val : List Nat
deriving DecidableEq
def enC (e : En) (kv vv : Value) : Array Value := #[.int .u8 (e.k : Int), kv, vv]
structure OkE (w : World) (e : En) (kv vv : Value) : Prop where
  k : e.k < 256
  key : Rd w kv e.key
  val : Rd w vv e.val
theorem OkE.old {w w' : World} {e : En} {kv vv : Value} (h : OkE w e kv vv) (k : Kept [] w w') : OkE w' e kv vv := ⟨h.k, h.key.old k (by simp), h.val.old k (by simp)⟩
def chkE (e : En) : Nat := if 64 < e.key.length ∨ 256 < e.val.length then 2 else if (e.k ≠ 1 ∧ e.k ≠ 2) ∨ (e.k = 2 ∧ 0 < e.val.length) then 3 else 0
def enB (e : En) : List Nat := e.k :: (uv e.key.length ++ e.key ++ (if e.k = 1 then uv e.val.length ++ e.val else []))

set_option maxRecDepth 100000 in
set_option maxHeartbeats 1000000 in
theorem isKind_any (k : Nat) (w : World) :
    Calls Tryz.prog 134 #[.int .u8 k] w fun e w' => e = .returned (.bool (decide (k = 1 ∨ k = 2))) ∧ w' = w := by
  by_cases h1 : k = 1
  · have HD := hide (decide_eq_true (Or.inl h1 : k = 1 ∨ k = 2))
    have e1 : ((k : Int) == 1) = true := by rw [h1]; rfl
    clear h1
    go_enter Tryz.func134, Tryz.ntmps134
    go_wp2
    go_ret
    exact ⟨by rw [unhide HD]; rfl, rfl⟩
  · have e1 : ((k : Int) == 1) = false := by rw [beq_eq_false_iff_ne]; omega
    by_cases h2 : k = 2
    · have HD := hide (decide_eq_true (Or.inr h2 : k = 1 ∨ k = 2))
      have e2 : ((k : Int) == 2) = true := by rw [h2]; rfl
      clear h1 h2
      go_enter Tryz.func134, Tryz.ntmps134
      go_wp2
      go_ret
      exact ⟨by rw [unhide HD]; rfl, rfl⟩
    · have HD := hide (decide_eq_false (by omega : ¬ (k = 1 ∨ k = 2)))
      have e2 : ((k : Int) == 2) = false := by rw [beq_eq_false_iff_ne]; omega
      clear h1 h2
      go_enter Tryz.func134, Tryz.ntmps134
      go_wp2
      go_ret
      exact ⟨by rw [unhide HD]; rfl, rfl⟩

set_option maxRecDepth 100000 in
set_option maxHeartbeats 1000000 in
theorem check_any (e : En) (kv vv : Value) (w : World) (h : OkE w e kv vv) :
    Calls Tryz.prog 108 #[.agg (enC e kv vv)] w fun r w' => r = .returned (.int .i64 (chkE e)) ∧ Kept [] w w' := by
  obtain ⟨E, hE⟩ : ∃ E, chkE e = E := ⟨_, rfl⟩
  rw [hE]
  have HE := hide hE
  clear hE
  obtain ⟨a1, n1, c1, rfl, hn1, _⟩ := id h.key
  obtain ⟨a2, n2, c2, rfl, hn2, _⟩ := id h.val
  obtain ⟨k, key, val⟩ := e
  simp only at hn1 hn2
  subst hn1
  subst hn2
  unfold enC
  have HK0 := hide ((Kept.refl [] w).alloc (.cells #[.int .u8 (k : Int), .slice a1 key.length c1, .slice a2 val.length c2] 44))
  go_enter Tryz.func108, Tryz.ntmps108
  by_cases h1 : 64 < key.length
  · have h1' : (64 : Int) < key.length := by omega
    have HE2 := hide (by rw [← unhide HE]; simp [chkE, h1] : E = 2)
    go_wp2
    go_ret
    exact ⟨by rw [unhide HE2]; rfl, unhide HK0⟩
  · have h1' : ¬ (64 : Int) < key.length := by omega
    by_cases h2 : 256 < val.length
    · have h2' : (256 : Int) < val.length := by omega
      have HE2 := hide (by rw [← unhide HE]; simp [chkE, h2] : E = 2)
      go_wp2
      go_ret
      exact ⟨by rw [unhide HE2]; rfl, unhide HK0⟩
    · have h2' : ¬ (256 : Int) < val.length := by omega
      go_wp2_with fail
      refine Calls.mono (isKind_any k _) ?_
      rintro r w1 ⟨rfl, rfl⟩
      by_cases hk : k = 1 ∨ k = 2
      · rw [decide_eq_true hk]
        by_cases hk2 : k = 2
        · have e2 : ((k : Int) == 2) = true := by rw [hk2]; rfl
          by_cases hv : 0 < val.length
          · have hv' : (0 : Int) < val.length := by omega
            have HE2 := hide (by rw [← unhide HE]; simp [chkE, h1, h2, hk2, hv] : E = 3)
            clear hk hk2
            go_wp2
            go_ret
            exact ⟨by rw [unhide HE2]; rfl, unhide HK0⟩
          · have hv' : ¬ (0 : Int) < val.length := by omega
            have HE2 := hide (by rw [← unhide HE]; simp [chkE, h1, h2, hk2, hv] : E = 0)
            clear hk hk2
            go_wp2
            go_ret
            exact ⟨by rw [unhide HE2]; rfl, unhide HK0⟩
        · have e2 : ((k : Int) == 2) = false := by rw [beq_eq_false_iff_ne]; omega
          have HE2 := hide (by rw [← unhide HE]; have hk1 : k = 1 := by omega
                               simp [chkE, h1, h2, hk1] : E = 0)
          clear hk hk2
          go_wp2
          go_ret
          exact ⟨by rw [unhide HE2]; rfl, unhide HK0⟩
      · rw [decide_eq_false hk]
        have HE2 := hide (by rw [← unhide HE]; have hk1 : k ≠ 1 ∧ k ≠ 2 := by omega
                             simp [chkE, h1, h2, hk1] : E = 3)
        clear hk
        go_wp2
        go_ret
        exact ⟨by rw [unhide HE2]; rfl, unhide HK0⟩

end Go.Proofs.YtckkalmhekfnhabGreatDoor
