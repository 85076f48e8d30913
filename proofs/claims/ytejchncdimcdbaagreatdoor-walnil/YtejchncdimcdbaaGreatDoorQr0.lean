import Derived.Test.YtejchncdimcdbaaGreatDoorRows
import Derived.Test.YtejchncdimcdbaaGreatDoorBase
import Derived.ArgAppend
import Derived.BigFrame
namespace Go.Proofs.YtejchncdimcdbaaGreatDoor
open Go.RowKit
set_option linter.unusedVariables false
set_option linter.unusedSimpArgs false

/-- A row of one's own, from some place of its block on. -/
def Qr (w : World) (e : TypeId) (v : Value) (xs : List Value) : Prop :=
  (v = .slice none 0 0 ∧ xs = []) ∨ ∃ (g off cap : Nat) (cur : Array Value), v = .slice (some ⟨g, off, none⟩) xs.length cap ∧ w.heap[g]? = some (.cells cur e (0, 0)) ∧ xs.length ≤ cap ∧ off + cap ≤ cur.size ∧ cap ≤ maxLen ∧
    ∀ j u, xs[j]? = some u → cur[off + j]? = some u
theorem Qr.nil (w : World) (e : TypeId) : Qr w e (.slice none 0 0) [] := .inl ⟨rfl, rfl⟩
theorem Qr.kept {L : List Nat} {w w' : World} {e : TypeId} {v : Value} {xs : List Value} (h : Qr w e v xs) (k : Kept L w w') (hn : ∀ x ∈ blk v, x ∉ L) : Qr w' e v xs := by
  rcases h with h | ⟨g, off, cap, cur, rfl, hg, r⟩
  · exact .inl h
  · exact .inr ⟨g, off, cap, cur, rfl, k.heap hg (hn g (by simp [blk])), r⟩
theorem Qr.lt {w : World} {e : TypeId} {v : Value} {xs : List Value} (h : Qr w e v xs) : ∀ x ∈ blk v, x < w.heap.size := by
  intro x hx
  rcases h with ⟨rfl, _⟩ | ⟨g, off, cap, cur, rfl, hg, r⟩
  · simp [blk] at hx
  · simp only [blk, List.mem_singleton] at hx; subst hx; exact lt_of_block hg
theorem Qr.apart {w : World} {e T : TypeId} {v : Value} {xs : List Value} (h : Qr w e v xs) {q : Nat} {cs : Array Value} {m : Nat × Nat} (hq : w.heap[q]? = some (.cells cs T m)) (hT : T ≠ e) : q ∉ blk v := by
  intro hx
  rcases h with ⟨rfl, _⟩ | ⟨g, off, cap, cur, rfl, hg, r⟩
  · simp [blk] at hx
  · simp only [blk, List.mem_singleton] at hx; subst hx; rw [hq] at hg; injection hg with hg; injection hg with h1 h2 h3; exact hT h2
theorem Qr.shape {w : World} {e : TypeId} {v : Value} {xs : List Value} (h : Qr w e v xs) : ∃ ao cap, v = .slice ao xs.length cap := by
  rcases h with ⟨rfl, rfl⟩ | ⟨g, off, cap, cur, rfl, _⟩
  · exact ⟨none, 0, rfl⟩
  · exact ⟨_, _, rfl⟩
theorem Qr.own {w : World} {base : Nat} {e : TypeId} {v : Value} {n : Nat} {xs : List Value} (h : w.ownsRow base e 1 v n xs) (hb : base ≤ w.heap.size) : Qr w e v xs ∧ ∀ b ∈ blk v, base ≤ b := by
  have hl := h.1
  rw [Nat.mul_one] at hl
  rcases h.2 with ⟨rfl, h0⟩ | ⟨g, cap, cur, rfl, hg0, hg, hc, hm, hs, ht⟩
  · exact ⟨.inl ⟨rfl, List.eq_nil_of_length_eq_zero (by omega)⟩, by simp [blk]⟩
  · rw [Nat.mul_one] at hs ht
    refine ⟨.inr ⟨g, 0, cap, cur, by rw [hl], hg, by omega, by omega, hm, fun j u hj => ?_⟩, by simpa [blk] using hg0⟩
    rw [← ht] at hj
    rw [List.getElem?_take] at hj
    split at hj
    · rw [Nat.zero_add, ← Array.getElem?_toList]; exact hj
    · cases hj
/-- One value more behind it. -/
theorem run_pushQ (w : World) (t ty e : TypeId) (i0 : TypeInfo) (z : Value) (bytes : Nat) (ht : Tryz.prog.underlying t = some (.slice e)) (hi : Tryz.prog.info? e = some i0) (hz0 : i0.zero = some z) (hz1 : i0.size = 1) (hz2 : i0.bytes = bytes) (hzs : z.cells.size = 1) (hby : bytes ≤ 24)
    (v : Value) (xs : List Value) (x : Value) (H : Nat) (h : Qr w e v xs) (hnew : w.heap[H]? = some (.cells #[x] e (0, 0))) (hx : x.oneCell' = true) (hl : xs.length ≤ 1000000000000) :
    ∃ ao cap w1, (Builtin.append_ #[t, t] ty #[v, .slice (some ⟨H, 0, none⟩) 1 1]).run Tryz.prog w = .ok (.slice ao (xs.length + 1) cap) w1 ∧ Qr w1 e (.slice ao (xs.length + 1) cap) (xs ++ [x]) ∧ Kept (blk v) w w1 ∧ ∀ b ∈ blk (.slice ao (xs.length + 1) cap), b ∈ blk v ∨ w.heap.size ≤ b := by
  have hbb : (xs.length + 1) * bytes ≤ 140737488355328 := Nat.le_trans (Nat.mul_le_mul_left _ hby) (by omega)
  have hnews : ∀ j u, [x][j]? = some u → w.cell? ((⟨H, 0, none⟩ : Addr).add j) = some u := World.news_of_block (by simpa using hnew)
  have fin : ∀ (v' : Value) (w' : World), w'.ownsRow w.heap.size e 1 v' (xs.length + 1) (xs ++ [x]) → w.grownBy w' none → ∃ ao cap, v' = .slice ao (xs.length + 1) cap ∧ Qr w' e (.slice ao (xs.length + 1) cap) (xs ++ [x]) ∧ Kept (blk v) w w' ∧ ∀ b ∈ blk (.slice ao (xs.length + 1) cap), b ∈ blk v ∨ w.heap.size ≤ b := by
    intro v' w' ho hg
    obtain ⟨q1, q2⟩ := Qr.own ho hg.size
    obtain ⟨ao, cap, rfl⟩ := q1.shape
    rw [show (xs ++ [x]).length = xs.length + 1 by simp] at q1 q2
    exact ⟨ao, cap, by simp, q1, ((Kept.refl _ w).grown hg (by simp)), fun b hb => .inr (q2 b hb)⟩
  rcases h with ⟨rfl, rfl⟩ | ⟨g, off, cap, cur, rfl, hg, hc, hs, hm, hcells⟩
  · obtain ⟨v', w', hrun, r1, r2, _⟩ := run_append_own (P := Tryz.prog) w w.heap.size t ty e i0 z 1 bytes ht hi hz0 hz1 hz2 hzs (by decide) (.slice none 0 0) 0 [] (World.ownsRow_nil w _ e 1) ⟨H, 0, none⟩ 1 1 [x] rfl hnews (by simpa using hx) (by unfold maxLen; omega) (by simpa using hbb) (Nat.le_refl _)
    obtain ⟨ao, cap, rfl, q⟩ := fin v' w' (by simpa using r1) r2
    exact ⟨ao, cap, w', hrun, q⟩
  · have holds : ∀ j u, xs[j]? = some u → w.cell? ⟨g, off + j, none⟩ = some u := fun j u hj => by rw [cell_of_row w g (off + j) _ e (0, 0) hg]; exact hcells j u hj
    by_cases hr : xs.length + 1 ≤ cap
    · have hrun := run_append_room_cells (P := Tryz.prog) w t ty e i0 ht hi g off xs.length cap ⟨H, 0, none⟩ 1 1 [x] (by simp [hz1]) hnews (by simpa using hx) hr (fun j hj => by
        have : j = 0 := by simpa using hj
        subst this
        rw [hz1, Nat.mul_one, Nat.add_zero, cell_of_row w g _ _ e (0, 0) hg, Array.getElem?_eq_getElem (by omega)]; rfl) (fun j hj => by exact frozen_of_row _ _ _ _ _ hg)
      rw [hz1, Nat.mul_one] at hrun
      have hset : w.setCells g (off + xs.length) [x] = w.setCell ⟨g, off + xs.length, none⟩ x := by simp [World.setCells]
      rw [hset] at hrun
      refine ⟨_, _, _, hrun, .inr ⟨g, off, cap, cur.set! (off + xs.length) x, by simp, heap_setCell_same _ _ _ _ _ _ hg, by simp; omega, by simpa using hs, hm, fun j u hj => ?_⟩, (Kept.refl _ w).setCell (.inl (by simp [blk])) _, fun b hb => .inl (by simpa [blk] using hb)⟩
      rw [Array.set!_eq_setIfInBounds, Array.getElem?_setIfInBounds]
      by_cases hj0 : j < xs.length
      · rw [if_neg (by omega)]; rw [List.getElem?_append_left hj0] at hj; exact hcells j u hj
      · have hj1 : j = xs.length := by
          have := (List.getElem?_eq_some_iff.1 hj).1
          simp at this; omega
        subst hj1
        rw [if_pos rfl, if_pos (by omega)]
        simpa using hj
    · obtain ⟨v', w', hrun, r1, r2⟩ := run_append_arg_grows (P := Tryz.prog) w t ty e i0 z 1 bytes ht hi hz0 hz1 hz2 hzs (by decide) ⟨g, off, none⟩ xs.length cap xs (by simp) (fun j u hj => by rw [Addr.add_lit]; exact holds j u hj) ⟨H, 0, none⟩ 1 1 [x] rfl hnews (by omega) (by unfold maxLen; omega) hbb
      obtain ⟨ao, cap', rfl, q⟩ := fin v' w' r1 r2
      exact ⟨ao, cap', w', hrun, q⟩
theorem wpList_pushQ {ops : Array Oper} {rest : List Oper} {o : Oper} {a : Act} {Q : Exit → Act → World → Prop} (hgd : o.guard = none) (s x : Operand) (t e : TypeId)
    (ho : o.op = .call { callee := .builtin .append, args := #[s, x], argTypes := #[t, t] }) (z : Value) (bytes : Nat) (ht : Tryz.prog.underlying t = some (.slice e)) (hinfo : (Tryz.prog.info? e).map (fun i => (i.zero, i.size, i.bytes)) = some (some z, 1, bytes)) (hzs : z.cells.size = 1) (hby : bytes ≤ 24)
    (w : World) (v : Value) (xs : List Value) (y : Value) (H : Nat) (h : Qr w e v xs) (hnew : w.heap[H]? = some (.cells #[y] e (0, 0))) (hy : y.oneCell' = true) (hl : xs.length ≤ 1000000000000)
    (hs : a.eval s = v) (hx : a.eval x = .slice (some ⟨H, 0, none⟩) 1 1)
    (hK : ∀ ao cap w1, Hid (Qr w1 e (.slice ao (xs.length + 1) cap) (xs ++ [y])) → Hid (Kept (blk v) w w1) → Hid (∀ b ∈ blk (.slice ao (xs.length + 1) cap), b ∈ blk v ∨ w.heap.size ≤ b) →
      wpList Tryz.prog ops Q rest (a.put o.dst (.slice ao (xs.length + 1) cap)) w1) :
    wpList Tryz.prog ops Q (o :: rest) a w := by
  obtain ⟨i0, hi, hz0, hz1, hz2⟩ := info_parts hinfo
  obtain ⟨ao, cap, w1, hrun, h2, h3, h4⟩ := run_pushQ w t o.type e i0 z bytes ht hi hz0 hz1 hz2 hzs hby v xs y H h hnew hy hl
  refine wpList_plain hgd fun K hK' => ?_
  unfold Oper.wp execOp
  simp only [ho, resolve, invoke, builtin, Sem.run_bind, Sem.run_pure, Result.andThen_ok, List.map_toArray, List.map_cons, List.map_nil, hs, hx, hrun]
  exact hK' _ _ (hK ao cap w1 h2 h3 h4)
end Go.Proofs.YtejchncdimcdbaaGreatDoor
