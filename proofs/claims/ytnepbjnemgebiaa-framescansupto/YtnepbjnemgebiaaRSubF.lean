import Derived.Test.YtnepbjnemgebiaaRRaw
namespace Go.Proofs.Ytnepbjnemgebiaa
open Go.RowKit
set_option linter.unusedVariables false

theorem Rd.sub0 {w : World} {ao : Option Addr} {cap s x : Nat} {q : List Nat} (h : Rd w (.slice ao q.length cap) q) (hc : cap = s) (hs : s + x ≤ q.length) : Rd w (.slice ao x 0) ((q.drop s).take x) := by
  have h1 := h.drop0 hc (by omega)
  obtain ⟨_, _, _, he, _, h2, _⟩ := h
  cases he
  have hx : x = 0 := by omega
  subst hx
  have h3 : (q.drop s).length = q.length - s := by simp
  rw [← h3] at h1
  exact h1.take (by omega)
theorem Rd.sub {w : World} {ao : Option Addr} {cap s x : Nat} {q : List Nat} (h : Rd w (.slice ao q.length cap) q) (hs : s + x ≤ q.length) : Rd w (.slice (Option.map (fun x => x.add s) ao) x (cap - s)) ((q.drop s).take x) := by
  have h1 := h.drop (i := s) (by omega)
  have h3 : (q.drop s).length = q.length - s := by simp
  rw [← h3] at h1
  exact h1.take (by omega)
end Go.Proofs.Ytnepbjnemgebiaa
