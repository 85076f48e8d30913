import Derived.Test.YtbbjbpjpejekgaaDoorRowz
namespace Go.Proofs.YtbbjbpjpejekgaaDoor
open Go.RowKit
set_option linter.unusedVariables false
set_option linter.unusedSimpArgs false

theorem addr_block (x : Addr) (i : Nat) : (x.add i).block = x.block := by unfold Addr.add; split <;> rfl

/-- A cut p[i:] reads as the rest. -/
theorem Rd.drop0 {w : World} {ao : Option Addr} {cap i : Nat} {p : List Nat} (h : Rd w (.slice ao p.length cap) p) (hc : cap = i) (hi : i ≤ p.length) : Rd w (.slice ao (p.length - i) 0) (p.drop i) := by
  obtain ⟨ao', len', cap', he, _, h2, ⟨h3, h3'⟩, h4, h5, h6⟩ := h
  cases he
  have e : p.length = i := by omega
  have ed : p.drop i = [] := List.drop_eq_nil_of_le (by omega)
  rw [ed]
  exact ⟨_, _, _, rfl, by simp; omega, by omega, ⟨by omega, by omega⟩, fun _ => rfl, by simp, fun hp => by omega⟩
theorem Rd.drop {w : World} {ao : Option Addr} {cap i : Nat} {p : List Nat} (h : Rd w (.slice ao p.length cap) p) (hi : i ≤ p.length) :
    Rd w (.slice (Option.map (fun x => x.add i) ao) (p.length - i) (cap - i)) (p.drop i) := by
  obtain ⟨ao', len', cap', he, _, h2, ⟨h3, h3'⟩, h4, h5, h6⟩ := h
  cases he
  refine ⟨_, _, _, rfl, by simp, by omega, ⟨by omega, by omega⟩, fun h => ?_, fun x hx => h5 x (List.mem_of_mem_drop hx), fun hp => ?_⟩
  · have := h4 (by simpa using h); omega
  · obtain ⟨b, off, rfl, hc⟩ := h6 (by omega)
    refine ⟨b, off + i, by simp [Addr.add_mid], fun j hj => ?_⟩
    have := hc (i + j) (by omega)
    rw [Nat.add_assoc, this]
    simp [List.getD_eq_getElem?_getD]
/-- A cut p[s:s+x] of a row that is there. -/
theorem Rd.mid {w : World} {b o c s x : Nat} {q : List Nat} (h : Rd w (.slice (some ⟨b, o, none⟩) q.length c) q) (hs : s + x ≤ q.length) :
    Rd w (.slice (some ⟨b, o + s, none⟩) x (c - s)) ((q.drop s).take x) := by
  obtain ⟨ao', len', cap', he, _, h2, ⟨h3, h3'⟩, h4, h5, h6⟩ := h
  cases he
  refine ⟨_, _, _, rfl, by simp; omega, by omega, ⟨by omega, by omega⟩, by simp, fun y hy => h5 y (List.mem_of_mem_drop (List.mem_of_mem_take hy)), fun hp => ?_⟩
  obtain ⟨b', o', he, hc⟩ := h6 (by omega)
  cases he
  refine ⟨b, o + s, rfl, fun j hj => ?_⟩
  rw [Nat.add_assoc, hc (s + j) (by omega)]
  simp [List.getD_eq_getElem?_getD, List.getElem?_take, hj]

/-- One block more. -/
theorem chain_next (h p : List Nat) (k : Nat) (hk : 64 * k + 64 ≤ p.length) : chain h (p.take (64 * (k + 1))) = comp (chain h (p.take (64 * k))) ((p.drop (64 * k)).take 64) := by
  have e : p.take (64 * (k + 1)) = p.take (64 * k) ++ (p.drop (64 * k)).take 64 := by rw [show 64 * (k + 1) = 64 * k + 64 by omega, List.take_add]
  have hl : ((p.drop (64 * k)).take 64).length = 64 := by simp; omega
  rw [e, chain_append _ k _ _ (by simp; omega), chain_step (p := (p.drop (64 * k)).take 64) (by omega), chain_short (by simp), List.take_of_length_le (l := (p.drop (64 * k)).take 64) (by omega)]
theorem chain_wds' {h : List Nat} (hw : Wds h) (p : List Nat) : Wds (chain h p) := chain_wds p _ h hw
theorem chain_whole (p : List Nat) : hashW p = chain (chain h0 (p.take (64 * (p.length / 64)))) (p.drop (64 * (p.length / 64)) ++ pad p.length) := by
  unfold hashW
  rw [← chain_append _ (p.length / 64) _ _ (by simp; omega), ← List.append_assoc, List.take_append_drop]
theorem tail_blocks (p : List Nat) : ∃ m, (p.drop (64 * (p.length / 64)) ++ pad p.length).length = 64 * m ∧ 1 ≤ m ∧ m ≤ 2 := by
  refine ⟨(p.drop (64 * (p.length / 64)) ++ pad p.length).length / 64, ?_⟩
  have h1 := pad_full p.length
  have h2 := pad_len p.length
  have h3 : padZ p.length = if p.length % 64 < 56 then 55 - p.length % 64 else 119 - p.length % 64 := rfl
  rw [List.length_append, List.length_drop, h2, h3]
  split <;> omega
theorem flat4 : ∀ (Y : List Nat), (Y.flatMap bytes4).length = 4 * Y.length
  | [] => rfl
  | y :: Y => by rw [List.flatMap_cons, List.length_append, flat4 Y, List.length_cons]; simp [bytes4]; omega
theorem hash_len (p : List Nat) : (hash p).length = 32 := by
  unfold hash dig
  rw [flat4, show (hashW p).length = 8 from (chain_wds' h0_wds _).1]
end Go.Proofs.YtbbjbpjpejekgaaDoor
