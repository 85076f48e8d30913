import Derived.Test.YtdnacefdihipnaaTake
namespace Go.Proofs.Ytdnacefdihipnaa
open Go.RowKit
set_option linter.unusedVariables false
set_option linter.unusedSimpArgs false

/-- The count that the law's 'ask' asks for. -/
def askN (k sp : Int) (len : Nat) : Int := if k = 7 ∧ 0 < sp ∧ sp < 1099511627776 then (len : Int) + sp else len

set_option maxRecDepth 100000 in
set_option maxHeartbeats 2000000 in
theorem ask_any (k : Int) (x : Nat) (n sp : Int) (pv : Value) (p : List Nat) (w : World) (h : Rd w pv p) :
    Calls Try.prog 27 #[opV k x n pv, .int .i64 sp] w fun r w' => r = .returned (opV k x (askN k sp p.length) pv) ∧ Kept [] w w' := by
  have hl := h.len
  obtain ⟨ao, len, cap, rfl, rfl, _⟩ := h
  by_cases hk : k = 7
  · subst hk
    by_cases h1 : 0 < sp
    · by_cases h2 : sp < 1099511627776
      · have HV := hide (by simp [askN, h1, h2] : askN 7 sp p.length = (p.length : Int) + sp)
        go_enter Try.func27, Try.ntmps27
        go_wp2
        refine bodyPost_ret (v := .agg #[.int .i64 7, .int .u64 x, .int .i64 ((p.length : Int) + sp), .slice ao p.length cap]) (by simp [results, Try.results27, go_sem]) rfl ⟨by rw [unhide HV], ?_⟩
        exact ((Kept.refl [] w).alloc _).alloc _
      · have HV := hide (by simp [askN, h2] : askN 7 sp p.length = (p.length : Int))
        go_enter Try.func27, Try.ntmps27
        go_wp2
        refine bodyPost_ret (v := .agg #[.int .i64 7, .int .u64 x, .int .i64 (p.length : Int), .slice ao p.length cap]) (by simp [results, Try.results27, go_sem]) rfl ⟨by rw [unhide HV], ?_⟩
        exact ((Kept.refl [] w).alloc _).alloc _
    · have HV := hide (by simp [askN, h1] : askN 7 sp p.length = (p.length : Int))
      go_enter Try.func27, Try.ntmps27
      go_wp2
      refine bodyPost_ret (v := .agg #[.int .i64 7, .int .u64 x, .int .i64 (p.length : Int), .slice ao p.length cap]) (by simp [results, Try.results27, go_sem]) rfl ⟨by rw [unhide HV], ?_⟩
      exact ((Kept.refl [] w).alloc _).alloc _
  · have HV := hide (by simp [askN, hk] : askN k sp p.length = (p.length : Int))
    have t : (k == 7) = false := by simp [hk]
    clear hk
    go_enter Try.func27, Try.ntmps27
    go_wp2
    refine bodyPost_ret (v := .agg #[.int .i64 k, .int .u64 x, .int .i64 (p.length : Int), .slice ao p.length cap]) (by simp [results, Try.results27, go_sem]) rfl ⟨by rw [unhide HV], ?_⟩
    exact ((Kept.refl [] w).alloc _).alloc _
end Go.Proofs.Ytdnacefdihipnaa
