import Derived.Test.YtbbjbpjpejekgaaDoorRdCut
namespace Go.Proofs.YtbbjbpjpejekgaaDoor
open Go.RowKit
set_option linter.unusedVariables false
set_option linter.unusedSimpArgs false

theorem Rd.take {w : World} {ao : Option Addr} {cap n : Nat} {p : List Nat} (h : Rd w (.slice ao p.length cap) p) (hn : n ≤ p.length) : Rd w (.slice ao n cap) (p.take n) := by
  obtain ⟨ao', len', cap', he, _, h2, ⟨h3, h3'⟩, h4, h5, h6⟩ := h
  cases he
  refine ⟨_, _, _, rfl, by simp; omega, by omega, ⟨by omega, by omega⟩, h4, fun x hx => h5 x (List.mem_of_mem_take hx), fun hp => ?_⟩
  obtain ⟨b, off, rfl, hc⟩ := h6 (by omega)
  refine ⟨b, off, rfl, fun i hi => ?_⟩
  rw [hc i (by omega)]
  simp [List.getD_eq_getElem?_getD, List.getElem?_take, hi]
theorem Rd.sub0 {w : World} {ao : Option Addr} {cap s x : Nat} {q : List Nat} (h : Rd w (.slice ao q.length cap) q) (hc : cap = s) (hs : s + x ≤ q.length) : Rd w (.slice ao x 0) ((q.drop s).take x) := by
  have h1 := h.drop0 hc (by omega)
  obtain ⟨_, _, _, he, _, h2, _⟩ := h
  cases he
  have hx : x = 0 := by omega
  subst hx
  have h3 : (q.drop s).length = q.length - s := by simp
  rw [← h3] at h1
  exact h1.take (by omega)
theorem Rd.sub {w : World} {ao : Option Addr} {cap s x : Nat} {q : List Nat} (h : Rd w (.slice ao q.length cap) q) (hs : s + x ≤ q.length) : Rd w (.slice (Option.map (fun x => x.add s) ao) x (cap - s)) ((q.drop s).take x) := by
  have h1 := h.drop (i := s) (by omega)
  have h3 : (q.drop s).length = q.length - s := by simp
  rw [← h3] at h1
  exact h1.take (by omega)
theorem Rd.blk_lt {w : World} {ao : Option Addr} {n c n' c' : Nat} {p : List Nat} (h : Rd w (.slice ao n c) p) (hp : 0 < p.length) : ∀ x ∈ blk (.slice ao n' c'), x < w.heap.size := by
  obtain ⟨ao', len', cap', he, hl, _, _, _, _, h6⟩ := h
  cases he
  obtain ⟨b, off, rfl, hc⟩ := h6 (by omega)
  have := block_lt_of_cell (hc 0 (by omega))
  intro x hx
  simp [blk] at hx
  subst hx
  simpa using this
theorem blk_drop {ao : Option Addr} {n c n' c' i : Nat} : ∀ x ∈ blk (.slice (Option.map (fun x => x.add i) ao) n' c'), x ∈ blk (.slice ao n c) := by
  cases ao with
  | none => simp [blk]
  | some a => simp [blk, addr_block]
theorem take_more (p : List Nat) (d n : Nat) : p.take d ++ (p.drop d).take n = p.take (d + n) := by rw [List.take_add]
end Go.Proofs.YtbbjbpjpejekgaaDoor
