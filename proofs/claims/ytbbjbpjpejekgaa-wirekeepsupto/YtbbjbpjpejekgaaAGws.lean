import Derived.Test.YtbbjbpjpejekgaaAPt
import Derived.Test.YtbbjbpjpejekgaaFOwn
namespace Go.Proofs.Ytbbjbpjpejekgaa
open Go.RowKit Go.BigFrame
set_option linter.unusedVariables false
set_option linter.unusedSimpArgs false

/-- The lists, all marked, and what the first k of them have been grown to. -/
structure Gws (R w : World) (r : Nat) (L : List LT) (m k : Nat) (v : Value) (ts : List (List Nat × Value)) : Prop where
  own : OwnV R.heap.size w v ts
  len : ts.length = k
  val : ∀ i (hi : i < ts.length) (hl : i < L.length), ts[i].1 = mk3 r i (L[i].2.1 + m)
  at_ : ∀ i (hi : i < ts.length) (hl : i < L.length) b, b ∈ eblk ts[i].2 ts[i].1 → (vT L[i]).ownBlock = some b ∨ R.heap.size ≤ b
  mkd : ∀ i (hi : i < L.length), MkT w r i L[i]
  k : Kept (blks L) R w
  old : ∀ i (hi : i < L.length) b, (vT L[i]).ownBlock = some b → b < R.heap.size
theorem eblk_own {v : Value} {bs : List Nat} {b : Nat} (h : b ∈ eblk v bs) : v.ownBlock = some b := by
  unfold eblk at h
  split at h
  · simp at h
  · cases v with
    | slice a n c => cases a with
      | none => simp [blk] at h
      | some a => simp [blk] at h; subst h; rfl
    | _ => simp [blk] at h
theorem Gws.start {R : World} {r : Nat} {L : List LT} {m : Nat} (hm : ∀ i (hi : i < L.length), MkT R r i L[i]) : Gws R R r L m 0 (.slice none 0 0) [] :=
  ⟨OwnV.start _ _, rfl, by simp, by simp, hm, Kept.refl _ _, fun i hi b hb => ((hm i hi).lt b hb).2⟩
theorem Gws.pass {R w w' : World} {r : Nat} {L : List LT} {m k : Nat} {v : Value} {ts : List (List Nat × Value)} (h : Gws R w r L m k v ts) (kk : Kept [] w w') : Gws R w' r L m k v ts :=
  ⟨h.own.pass kk, h.len, h.val, h.at_, fun i hi => (h.mkd i hi).pass kk (by simp), h.k.trans kk (by simp), h.old⟩
theorem Gws.grown {R w W : World} {r : Nat} {L : List LT} {m k : Nat} {v : Value} {ts : List (List Nat × Value)} (h : Gws R w r L m k v ts) (ha : Aprt L) (hk : k < L.length) {a a' : Option Addr} {n c c' : Nat} (ht : L[k] = (a, n, c)) (g : Grw w W a n c r k a' m c') (hl : n + m ≤ 140737488355328) :
    Gws R W r L m k v ts ∧ Rd W (.slice a' (n + m) c') (mk3 r k (n + m)) ∧ (∀ b ∈ eblk (.slice a' (n + m) c') (mk3 r k (n + m)), (vT L[k]).ownBlock = some b ∨ R.heap.size ≤ b) ∧ (∀ b ∈ eblk (.slice a' (n + m) c') (mk3 r k (n + m)), v.ownBlock ≠ some b ∧ b < W.heap.size) := by
  have hv : vT L[k] = .slice a n c := by rw [ht]; rfl
  have hsz := h.k.size
  have kk : Kept (vT L[k]).ownBlock.toList w W := by rw [hv]; exact g.k
  have hnot : ∀ i (hi : i < L.length), i ≠ k → ∀ b, (vT L[i]).ownBlock = some b → b ∉ (vT L[k]).ownBlock.toList := fun i hi hne b hb hm => ha i k hi hk hne b hb (by simpa using hm)
  have hlt : ∀ b ∈ (vT L[k]).ownBlock.toList, b < R.heap.size := fun b hb => h.old k hk b (by simpa using hb)
  have hown : OwnV R.heap.size W v ts := h.own.passL kk (fun b hb hm => by have := (h.own.own.lt b hb).1; have := hlt b hm; omega) (fun t ht b hb hm => by
    obtain ⟨i, hi, rfl⟩ := List.getElem_of_mem ht
    have hlen := h.len
    rcases h.at_ i hi (by omega) b hb with h9 | h9
    · exact hnot i (by omega) (by omega) b h9 hm
    · have := hlt b hm; omega)
  refine ⟨⟨hown, h.len, h.val, h.at_, fun i hi => ?_, h.k.trans kk (fun b hb => .inl (blks_mem hk (by simpa using hb))), h.old⟩, rd_owns (by have h9 := g.new; exact h9) (mk3_byte _ _ _) (by rw [mk3_len]; exact hl), fun b hb => ?_, fun b hb => ⟨fun e9 => ?_, ?_⟩⟩
  · by_cases he : i = k
    · subst he
      unfold MkT
      rw [ht]
      exact g.old
    · exact (h.mkd i hi).pass kk (hnot i hi he)
  · have h9 := eblk_own hb
    rcases g.at_ with ⟨rfl, rfl⟩ | ⟨g', h1, h2⟩
    · left; rw [hv, ← h9]; cases a' <;> rfl
    · right; rw [h9] at h1; cases h1; omega
  · exact owns_ne hown.own g.new (by decide) b e9 (eblk_own hb)
  · exact (g.new.lt b (eblk_own hb)).2
theorem Gws.push {R w W : World} {r : Nat} {L : List LT} {m k : Nat} {v x : Value} {ts : List (List Nat × Value)} {bs : List Nat} (h : Gws R w r L m k v ts) (hk : k < L.length) (hval : bs = mk3 r k (L[k].2.1 + m)) (hr : Rd w x bs) (hat : ∀ b ∈ eblk x bs, (vT L[k]).ownBlock = some b ∨ R.heap.size ≤ b) (hb : ∀ b ∈ eblk x bs, v.ownBlock ≠ some b ∧ b < w.heap.size) {g cap : Nat} {xs : List Value} (hxs : ts.map (·.2) = xs)
    (o : W.ownsRow R.heap.size 22 1 (.slice (some ⟨g, 0, none⟩) (xs.length + 1) cap) (xs.length + 1) (xs ++ [x])) (gr : w.grownBy W v.ownBlock) (hg : v.ownBlock = some g ∨ g = w.heap.size) : Gws R W r L m (k + 1) (.slice (some ⟨g, 0, none⟩) (xs.length + 1) cap) (ts ++ [(bs, x)]) := by
  have kW : Kept v.ownBlock.toList w W := (Kept.refl _ w).grown gr (by intro b hb; left; simp [hb])
  have hlen := h.len
  refine ⟨h.own.push hr hb hxs o gr hg, by simp [hlen], fun i hi hl => ?_, fun i hi hl b hb9 => ?_, fun i hi => (h.mkd i hi).pass kW (fun b hb9 hm => owns_ne h.own.own (h.mkd i hi) (by decide) b (by simpa using hm) hb9), h.k.grown gr (by intro b hb9; right; exact (h.own.own.lt b hb9).1), h.old⟩
  · by_cases he : i < ts.length
    · rw [List.getElem_append_left he]; exact h.val i he hl
    · obtain rfl : i = k := by simp at hi; omega
      subst hlen
      rw [List.getElem_append_right (by omega)]
      simpa using hval
  · by_cases he : i < ts.length
    · rw [List.getElem_append_left he] at hb9; exact h.at_ i he hl b hb9
    · obtain rfl : i = k := by simp at hi; omega
      subst hlen
      rw [List.getElem_append_right (by omega)] at hb9
      simp at hb9
      exact hat b hb9
end Go.Proofs.Ytbbjbpjpejekgaa
