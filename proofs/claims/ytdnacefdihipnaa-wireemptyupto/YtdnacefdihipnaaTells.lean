import Derived.Test.YtdnacefdihipnaaTaken2
namespace Go.Proofs.Ytdnacefdihipnaa
open Go.RowKit
set_option linter.unusedVariables false
set_option linter.unusedSimpArgs false
attribute [local go_sem ↓] Go.wp_at_zero Go.wp_at_succ

set_option maxRecDepth 100000 in
set_option maxHeartbeats 8000000 in
theorem tells_any (b : Nat) (gv : Value) (ao : Option Addr) (c : Nat) (P : List Nat) (i e : Nat) (w : World) (h : ReAt w b gv P i e) :
    Calls Try.prog 18 #[.pointer (some ⟨b, 0, none⟩), rrV (.slice ao P.length c) i e] w fun r w' => r = .returned (.bool true) ∧ Kept [] w w' := by
  have HRe := hide (fun W (k : Kept [] w W) => (h.kept k (by simp) (by simp) : ReAt W b gv P i e))
  obtain ⟨d, hd⟩ : ∃ d, doneE P i e = d := ⟨_, rfl⟩
  have HD := hide (fun W (k : Kept [] w W) => (by have h1 := rdone_any b gv P i e W (unhide HRe W k); rw [hd] at h1; exact h1 : Calls Try.prog 21 #[.pointer (some ⟨b, 0, none⟩)] W fun r w' => r = .returned (.int .i64 d) ∧ ∃ n, w' = W.drewN n))
  have HDr := hide (fun W => (by have h1 := refDone_any ao c P i e W; rw [hd] at h1; exact h1 : Calls Try.prog 43 #[rrV (.slice ao P.length c) i e] W fun r w' => r = .returned (.int .i64 d) ∧ Kept [] W w'))
  have hbl := h.lt
  clear h hd
  go_enter Try.func18, Try.ntmps18
  go_wp2_with fail
  go_region_with (first
    | (go_at_call 22; refine (rat_any b gv P i e _ (unhide HRe _ (by repeat (first | exact Kept.refl _ _ | apply Kept.drew | apply Kept.drewN | apply Kept.alloc)))).mono ?_; rintro r w2 ⟨rfl, hw2⟩; subst w2)
    | (go_at_call 23; refine (rerr_any b gv P i e _ (unhide HRe _ (by repeat (first | exact Kept.refl _ _ | apply Kept.drew | apply Kept.drewN | apply Kept.alloc)))).mono ?_; rintro r w2 ⟨rfl, hw2⟩; subst w2)
    | (go_at_call 43; refine (unhide HDr _).mono ?_; rintro r w3 ⟨rfl, k3⟩; have HK3 := hide (Kept.trans (L := []) (by repeat (first | exact Kept.refl _ _ | apply Kept.drew | apply Kept.drewN | apply Kept.alloc)) k3 (by simp) : Kept [] w w3); clear k3)
    | (go_at_call 21; refine (unhide HD _ (by first | exact unhide HK3 | (repeat (first | exact Kept.refl _ _ | apply Kept.drew | apply Kept.drewN | apply Kept.alloc)))).mono ?_; rintro r w4 ⟨rfl, n4, hw4⟩; subst w4))
  all_goals
    go_wp2
    go_ret
    refine ⟨rfl, ?_⟩
    repeat (first | exact unhide HK3 | apply Kept.drew | apply Kept.drewN)
end Go.Proofs.Ytdnacefdihipnaa
