import Derived.Test.YtbljofojeagdkaaDoorMTMath
import Derived.Test.YtbljofojeagdkaaDoorMClimb
namespace Go.Proofs.YtbljofojeagdkaaDoor
open Go.RowKit
set_option linter.unusedVariables false
set_option linter.unusedSimpArgs false

/-- The 33 cells of a part. -/
def partC (s : List Nat) (k : Value) : List Value := s.map u8 ++ [k]
theorem partC_len {s : List Nat} {k : Value} (h : s.length = 32) : (partC s k).length = 33 := by simp [partC, h]
/-- A part of the height h over the leaves l, at any place: its sum s, its kids k. -/
def PA (z : Int) (w : World) : Nat → List Nat → Value → List (List Nat) → Prop
  | 0, s, k, l => k = .pointer none ∧ l = [s] ∧ Dg s ∧ formB z s = true
  | h + 1, s, k, l => ∃ (g : Nat) (s0 : List Nat) (k0 : Value) (l0 : List (List Nat)) (s1 : List Nat) (k1 : Value) (l1 : List (List Nat)), k = .pointer (some ⟨g, 0, none⟩) ∧ w.heap[g]? = some (.cells (partC s0 k0 ++ partC s1 k1).toArray 109 (0, 0)) ∧
      PA z w h s0 k0 l0 ∧ PA z w h s1 k1 l1 ∧ l = l0 ++ l1 ∧ s = nodT z s0 s1
theorem PA.len {z : Int} {w : World} : ∀ {h : Nat} {s : List Nat} {k : Value} {l : List (List Nat)}, PA z w h s k l → l.length = 2 ^ h
  | 0, _, _, _, hp => by obtain ⟨_, rfl, _⟩ := hp; rfl
  | h + 1, _, _, _, hp => by
    obtain ⟨g, s0, k0, l0, s1, k1, l1, _, _, h0, h1, rfl, _⟩ := hp
    rw [List.length_append, h0.len, h1.len, Nat.pow_succ]; omega
theorem PA.sum {z : Int} {w : World} : ∀ {h : Nat} {s : List Nat} {k : Value} {l : List (List Nat)}, PA z w h s k l → s = perT z h l
  | 0, _, _, _, hp => by obtain ⟨_, rfl, _⟩ := hp; rfl
  | h + 1, _, _, _, hp => by
    obtain ⟨g, s0, k0, l0, s1, k1, l1, _, _, h0, h1, rfl, rfl⟩ := hp
    rw [perT, ← h0.len, List.take_left, List.drop_left, ← h0.sum, ← h1.sum]
theorem PA.dg {z : Int} {w : World} : ∀ {h : Nat} {s : List Nat} {k : Value} {l : List (List Nat)}, PA z w h s k l → Dg s
  | 0, _, _, _, hp => hp.2.2.1
  | h + 1, _, _, _, hp => by
    obtain ⟨g, s0, k0, l0, s1, k1, l1, _, _, h0, h1, _, rfl⟩ := hp
    exact nodS_dg z s0 s1
theorem PA.form {z : Int} {w : World} (hw : widthB z = true) : ∀ {h : Nat} {s : List Nat} {k : Value} {l : List (List Nat)}, PA z w h s k l → formB z s = true
  | 0, _, _, _, hp => hp.2.2.2
  | h + 1, _, _, _, hp => by
    obtain ⟨g, s0, k0, l0, s1, k1, l1, _, _, h0, h1, _, rfl⟩ := hp
    exact nodS_form hw s0 s1
theorem PA.one {z : Int} {w : World} {h : Nat} {s : List Nat} {k : Value} {l : List (List Nat)} (hp : PA z w h s k l) : k.oneCell' = true := by
  cases h with
  | zero => obtain ⟨rfl, _⟩ := hp; rfl
  | succ h => obtain ⟨g, _, _, _, _, _, _, rfl, _⟩ := hp; rfl
theorem partC_one {s : List Nat} {k : Value} (hk : k.oneCell' = true) : ∀ v ∈ partC s k, v.oneCell' = true := by
  intro v hv
  rcases List.mem_append.1 hv with h | h
  · obtain ⟨x, _, rfl⟩ := List.mem_map.1 h; rfl
  · rw [List.mem_singleton] at h; subst h; exact hk
/-- Kids never turn: a part stays where only blocks of other types turn. -/
theorem PA.kept {z : Int} {L : List Nat} {w w' : World} (k : Kept L w w') (hL : ∀ b ∈ L, ∀ cs m, w.heap[b]? ≠ some (.cells cs 109 m)) : ∀ {h : Nat} {s : List Nat} {kv : Value} {l : List (List Nat)}, PA z w h s kv l → PA z w' h s kv l
  | 0, _, _, _, hp => hp
  | h + 1, _, _, _, hp => by
    obtain ⟨g, s0, k0, l0, s1, k1, l1, e1, e2, h0, h1, e3, e4⟩ := hp
    exact ⟨g, s0, k0, l0, s1, k1, l1, e1, k.heap e2 (fun hm => hL g hm _ _ e2), h0.kept k hL, h1.kept k hL, e3, e4⟩

/-- A peak: its height, sum, kids and leaves. -/
structure Pk where
  h : Nat
  s : List Nat
  k : Value
  l : List (List Nat)
def cellsK (ps : List Pk) : List Value := ps.flatMap fun p => partC p.s p.k
def leavesK (ps : List Pk) : List (List Nat) := ps.flatMap fun p => p.l
/-- Peaks, the first leaf's first: their heights rise from the last on. -/
structure PKs (z : Int) (w : World) (ps : List Pk) : Prop where
  ok : ∀ p ∈ ps, PA z w p.h p.s p.k p.l
  inc : Inc 0 (ps.reverse.map (·.h))
theorem cellsK_app (a b : List Pk) : cellsK (a ++ b) = cellsK a ++ cellsK b := by simp [cellsK]
theorem leavesK_app (a b : List Pk) : leavesK (a ++ b) = leavesK a ++ leavesK b := by simp [leavesK]
theorem cellsK_len {z : Int} {w : World} : ∀ {ps : List Pk}, (∀ p ∈ ps, PA z w p.h p.s p.k p.l) → (cellsK ps).length = ps.length * 33
  | [], _ => rfl
  | p :: ps, h => by
    have h1 := cellsK_len (ps := ps) (fun q hq => h q (by simp [hq]))
    have h2 := partC_len (k := p.k) (h p (by simp)).dg.1
    simp only [cellsK, List.flatMap_cons, List.length_append, List.length_cons] at h1 ⊢
    rw [h2, h1]; omega
theorem cellsK_one {z : Int} {w : World} {ps : List Pk} (h : ∀ p ∈ ps, PA z w p.h p.s p.k p.l) : ∀ v ∈ cellsK ps, v.oneCell' = true := by
  intro v hv
  obtain ⟨p, hp, hv⟩ := List.mem_flatMap.1 hv
  exact partC_one (h p hp).one v hv
theorem leavesK_len {z : Int} {w : World} : ∀ {ps : List Pk}, (∀ p ∈ ps, PA z w p.h p.s p.k p.l) → (leavesK ps).length = sumP (ps.reverse.map (·.h))
  | [], _ => rfl
  | p :: ps, h => by
    have h1 := leavesK_len (ps := ps) (fun q hq => h q (by simp [hq]))
    have h2 := (h p (by simp)).len
    simp only [leavesK, List.flatMap_cons, List.length_append] at h1 ⊢
    rw [h2, h1]
    simp [sumP]; omega
/-- The slice value v reads as these peaks. -/
def RdK3 (w : World) (v : Value) (ps : List Pk) : Prop :=
  ∃ (ao : Option Addr) (cap : Nat), v = .slice ao ps.length cap ∧ ps.length ≤ cap ∧ cap ≤ 9223372036854775807 ∧
    (0 < ps.length → ∃ b off, ao = some ⟨b, off, none⟩ ∧ ∀ j u, (cellsK ps)[j]? = some u → w.cell? ⟨b, off + j, none⟩ = some u)
theorem RdK3.old {w w' : World} {v : Value} {ps : List Pk} (h : RdK3 w v ps) (k : Kept [] w w') : RdK3 w' v ps := by
  obtain ⟨ao, cap, rfl, h1, h2, h3⟩ := h
  refine ⟨ao, cap, rfl, h1, h2, fun hp => ?_⟩
  obtain ⟨b, off, rfl, hc⟩ := h3 hp
  exact ⟨b, off, rfl, fun j u hj => k.cell (hc j u hj) (by simp)⟩
/-- A tree at block t, over these leaves. -/
structure TreeAt (z : Int) (w : World) (t : Nat) (v : Value) (ps : List Pk) : Prop where
  row : w.heap[t]? = some (.cells #[.int .i64 z, .int .u64 ((leavesK ps).length : Int), v] 83 (0, 0))
  wid : widthB z = true
  rd : RdK3 w v ps
  pk : PKs z w ps
theorem PKs.old {z : Int} {w w' : World} {ps : List Pk} (h : PKs z w ps) (k : Kept [] w w') : PKs z w' ps := ⟨fun p hp => (h.ok p hp).kept k (by simp), h.inc⟩
theorem TreeAt.old {z : Int} {w w' : World} {t : Nat} {v : Value} {ps : List Pk} (h : TreeAt z w t v ps) (k : Kept [] w w') : TreeAt z w' t v ps := ⟨k.heap h.row (by simp), h.wid, h.rd.old k, h.pk.old k⟩
theorem TreeAt.nil {z : Int} {w : World} {t : Nat} (h : w.heap[t]? = some (.cells #[.int .i64 z, .int .u64 0, .slice none 0 0] 83 (0, 0))) (hw : widthB z = true) : TreeAt z w t (.slice none 0 0) [] :=
  ⟨h, hw, ⟨none, 0, rfl, Nat.le_refl _, by omega, fun h => by simp at h⟩, ⟨by simp, trivial⟩⟩
end Go.Proofs.YtbljofojeagdkaaDoor
