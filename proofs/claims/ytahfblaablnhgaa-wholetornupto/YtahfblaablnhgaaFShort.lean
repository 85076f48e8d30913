import Derived.Test.YtahfblaablnhgaaFOwn
namespace Go.Proofs.Ytahfblaablnhgaa
open Go.RowKit Go.BigFrame
set_option linter.unusedVariables false
set_option linter.unusedSimpArgs false

theorem Rd.short {w : World} {ao : Option Addr} {n c : Nat} {p : List Nat} (h : Rd w (.slice ao n c) p) {k : Nat} (hk : k ≤ p.length) : Rd w (.slice ao k c) (p.take k) := by
  obtain ⟨_, _, _, hE, h1, h2, ⟨h3, h3'⟩, h4, h5, h6⟩ := h
  cases hE
  refine ⟨_, _, _, rfl, by simp; omega, by omega, ⟨h3, by omega⟩, h4, fun x hx => h5 x (List.mem_of_mem_take hx), fun hp => ?_⟩
  obtain ⟨b, off, e, hc⟩ := h6 (by omega)
  refine ⟨b, off, e, fun i hi => ?_⟩
  rw [hc i (by omega), List.getD_eq_getElem?_getD, List.getD_eq_getElem?_getD, List.getElem?_take, if_pos hi]

theorem Rd.shortM {w : World} {ao : Option Addr} {n c : Nat} {p : List Nat} (h : Rd w (.slice ao n c) p) (k : Nat) : Rd w (.slice ao (min k p.length) c) (p.take k) := by
  have h9 := h.short (k := min k p.length) (by omega)
  rwa [show p.take (min k p.length) = p.take k by rw [List.take_eq_take_iff]; omega] at h9

set_option maxRecDepth 100000 in
set_option maxHeartbeats 1000000 in
theorem short_any (a1 : Option Addr) (c1 : Nat) (p : List Nat) (k : Nat) (w : World) (h : Rd w (.slice a1 p.length c1) p) (hk : k ≤ 65535) :
    Calls Try.prog 6 #[.slice a1 p.length c1, .int .i64 k] w fun e w' => e = .returned (.slice a1 (min k p.length) c1) ∧ w' = w := by
  obtain ⟨_, _, _, hE, hn1, hc1, ⟨hc2, hlen⟩, _⟩ := id h
  cases hE
  clear h
  by_cases hl : k < p.length
  · have hl' : (k : Int) < p.length := by omega
    have h0 : (0 : Int) ≤ k := by omega
    have h1 : (k : Int) ≤ c1 := by omega
    rw [Nat.min_eq_left (by omega)]
    go_enter Try.func6, Try.ntmps6
    go_wp2
    go_ret
    exact ⟨rfl, rfl⟩
  · have hl' : ¬ (k : Int) < p.length := by omega
    rw [Nat.min_eq_right (by omega)]
    go_enter Try.func6, Try.ntmps6
    go_wp2
    go_ret
    exact ⟨rfl, rfl⟩

end Go.Proofs.Ytahfblaablnhgaa
