import Derived.Test.YtbljofojeagdkaaDoorTopB
import Derived.Test.YtbljofojeagdkaaDoorRowz
import Derived.Deep.RegionHeld3
import Derived.Test.YtbljofojeagdkaaDoorTopD
import Derived.Test.YtbljofojeagdkaaDoorTopA
import Derived.Test.YtbljofojeagdkaaDoorDIn
import Derived.Test.YtbljofojeagdkaaDoorDSum
import Derived.Test.YtbljofojeagdkaaDoorLSums3
import Derived.Test.YtbljofojeagdkaaDoorTopC
import Derived.Test.YtbljofojeagdkaaDoorQKeep
import Derived.Test.YtbljofojeagdkaaDoorBase
import Derived.Test.YtbljofojeagdkaaDoorCards
import Derived.Test.YtbljofojeagdkaaDoorTie
import Derived.ProofKit
import Derived.OpenShut
import Derived.Deep.Slices
import Derived.SizedLaws
import Derived.Test.YtbljofojeagdkaaDoorDForm
namespace Go.Proofs.YtbljofojeagdkaaDoor
open Go.RowKit Go.BigFrame
set_option linter.unusedVariables false
set_option linter.unusedSimpArgs false

theorem owns_baseK {w : World} {b b' e s n : Nat} {v : Value} {xs : List Value} (h : w.ownsRow b e s v n xs) (hb : b' ≤ b) : w.ownsRow b' e s v n xs := by
  refine ⟨h.1, ?_⟩
  rcases h.2 with h9 | ⟨g, cap, cur, h1, h2, h3⟩
  · exact .inl h9
  · exact .inr ⟨g, cap, cur, h1, Nat.le_trans hb h2, h3⟩
/-- Append within: so many leaves are laid behind. -/
structure AppI (z : Int) (ps : List Pk) (ls : List (List Nat)) (w : World) (t base i : Nat) (v : Value) (qs : List Pk) (wr : World) : Prop where
  row : wr.heap[t]? = some (.cells #[.int .i64 z, .int .u64 (((leavesK ps).length + i : Nat) : Int), v] 83 (0, 0))
  own : wr.ownsRow base 87 33 v qs.length (cellsK qs)
  pk : PKs z wr qs
  lv : leavesK qs = leavesK ps ++ ls.take i
  nil : qs = [] → v = .slice none 0 0
  kept : Kept [] w wr
  bw : w.heap.size ≤ base
  bt : w.heap.size ≤ t
  br : base ≤ wr.heap.size
theorem AppI.far {z : Int} {ps : List Pk} {ls : List (List Nat)} {w : World} {t base i : Nat} {v : Value} {qs : List Pk} {wr : World} (h : AppI z ps ls w t base i v qs wr) (hT : Tabs w) (h6 : Tab6 w) : Far t v := by
  have e1 := block_lt_of_cell (hT.1 0 (by decide))
  have e2 := block_lt_of_cell (hT.2 0 (by decide))
  have e3 := block_lt_of_cell (h6 0 (by decide))
  simp only at e1 e2 e3
  intro b hb
  have hbb : w.heap.size ≤ b := by
    simp only [List.mem_cons, Option.mem_toList] at hb
    rcases hb with rfl | hb
    · exact h.bt
    · exact Nat.le_trans h.bw (h.own.lt b hb).1
  refine ⟨?_, ?_, ?_⟩ <;> omega
theorem AppI.len {z : Int} {ps : List Pk} {ls : List (List Nat)} {w : World} {t base i : Nat} {v : Value} {qs : List Pk} {wr : World} (h : AppI z ps ls w t base i v qs wr) (hi : i ≤ ls.length) : (leavesK ps).length + i = (leavesK qs).length := by
  rw [h.lv, List.length_append, List.length_take, Nat.min_eq_left hi]
theorem AppI.step {z : Int} {ps : List Pk} {ls : List (List Nat)} {w : World} {t base i : Nat} {v : Value} {qs : List Pk} {wr wa w' : World} (h : AppI z ps ls w t base i v qs wr) (hi : i < ls.length) (ka : Kept [] wr wa) (hp : PushD z t ((leavesK ps).length + i) base v qs (ls.getD i []) wa w') : ∃ v' rs, AppI z ps ls w t base (i + 1) v' rs w' := by
  obtain ⟨g, cap, rs, h1, h2, h3, h4, h5, h6, h7⟩ := hp
  refine ⟨_, rs, h1, h2, h3, ?_, fun e => absurd e h5, ?_, h.bw, h.bt, Nat.le_trans h.br (Nat.le_trans ka.size h6.size)⟩
  · rw [h4, h.lv, List.append_assoc, List.take_succ_eq_append_getElem hi, List.getD_eq_getElem?_getD, List.getElem?_eq_getElem hi]; rfl
  · refine (h.kept.trans ka (by simp)).trans h6 ?_
    intro x hx
    right
    simp only [List.mem_cons, Option.mem_toList] at hx
    rcases hx with rfl | hx
    · exact h.bt
    · exact Nat.le_trans h.bw (h.own.lt x hx).1
theorem owns_rdK {w : World} {base : Nat} {v : Value} {ps : List Pk} (h : w.ownsRow base 87 33 v ps.length (cellsK ps)) : RdK3 w v ps := by
  rcases id h.2 with ⟨h9, h1⟩ | ⟨g, cap, cur, h1, h2⟩
  · subst h9
    exact ⟨none, 0, by rw [h1], by omega, by omega, fun h => by omega⟩
  · subst h1
    exact owns_rd h rfl
theorem AppI.fin {z : Int} {ps : List Pk} {ls : List (List Nat)} {w : World} {t base : Nat} {v : Value} {qs : List Pk} {wr : World} (h : AppI z ps ls w t base ls.length v qs wr) (hw : widthB z = true) : TreeAt z wr t v qs ∧ leavesK qs = leavesK ps ++ ls := by
  have h1 := h.len (Nat.le_refl _)
  have h2 := h.row
  rw [h1] at h2
  exact ⟨⟨h2, hw, owns_rdK h.own, h.pk⟩, by rw [h.lv, List.take_length]⟩
end Go.Proofs.YtbljofojeagdkaaDoor
namespace Go.Proofs.YtbljofojeagdkaaDoor
open Go.RowKit Go.BigFrame
set_option linter.unusedVariables false
set_option linter.unusedSimpArgs false

/-- Peaks behind an empty row that is owned. -/
theorem appendK (w : World) (base : Nat) (v : Value) (ps : List Pk) (b off c : Nat) (h : w.ownsRow base 87 33 v 0 []) (hr : RdK3 w (.slice (some ⟨b, off, none⟩) ps.length c) ps) (hp : 0 < ps.length) (hlen : (cellsK ps).length = ps.length * 33) (h1 : ∀ u ∈ cellsK ps, u.oneCell' = true) (hl : ps.length ≤ 1000000000) (hb : base ≤ w.heap.size) :
    ∃ g cap w1, (Builtin.append_ #[81, 81] 81 #[v, .slice (some ⟨b, off, none⟩) ps.length c]).run Tryd.prog w = .ok (.slice (some ⟨g, 0, none⟩) ps.length cap) w1 ∧
      w1.ownsRow base 87 33 (.slice (some ⟨g, 0, none⟩) ps.length cap) ps.length (cellsK ps) ∧ w.grownBy w1 v.ownBlock ∧ (v.ownBlock = some g ∨ g = w.heap.size) := by
  obtain ⟨i0, hi, hz0, hz1, hz2⟩ := info_parts Tryd.infoP
  obtain ⟨ao, cap, he, h2, h3, h4⟩ := hr
  cases he
  obtain ⟨b', off', e, hc⟩ := h4 hp
  cases e
  obtain ⟨g, cap, w1, hrun, hown, hgrow, hat, hlt⟩ := run_append_lies (P := Tryd.prog) w 81 81 base 87 i0 (.agg zP) 33 40 Tryd.underlying81 hi hz0 hz1 hz2 rfl (by decide)
    v 0 [] h ⟨b, off, none⟩ ps.length c (cellsK ps) hlen (fun j u hj => by rw [Addr.add_mid]; exact hc j u hj) h1 hp (by unfold maxLen; omega) (by omega) hb _ rfl
  simp only [Nat.zero_add, List.nil_append] at hrun hown
  exact ⟨g, cap, w1, hrun, hown, hgrow, hat⟩

set_option maxRecDepth 100000 in
set_option maxHeartbeats 1000000 in
theorem cloneK_any (z : Int) (v : Value) (ps : List Pk) (w : World) (h : RdK3 w v ps) (hpk : PKs z w ps) (hnil : ps = [] → v = .slice none 0 0) (hl : ps.length ≤ 1000000000) :
    Calls Tryd.prog 41 #[v] w fun e w' => ∃ v', e = .returned v' ∧ w'.ownsRow w.heap.size 87 33 v' ps.length (cellsK ps) ∧ (ps = [] → v' = .slice none 0 0) ∧ Kept [] w w' := by
  by_cases hp : ps = []
  · subst hp
    obtain rfl := hnil rfl
    have hq : ∀ W : World, (binOp .eql 81 (.slice none 0 0) (.slice none 0 0)).run Tryd.prog W = .ok (.bool true) W := by
      intro W
      simp only [binOp]
      simp [run_equal_slice_nil W 81 87 none 0 0 Tryd.underlying81]
    go_enter Tryd.func41, Tryd.ntmps41
    go_wp2_with fail
    go_ret
    exact ⟨_, rfl, ⟨rfl, Or.inl ⟨rfl, rfl⟩⟩, rfl, Kept.refl _ _⟩
  · have hp0 : 0 < ps.length := List.length_pos_iff.2 hp
    have H := hide h
    obtain ⟨a1, c1, rfl, hc1, hc2, hc3⟩ := id h
    obtain ⟨b, off, rfl, _⟩ := hc3 hp0
    clear h hc3
    have HL := hide (cellsK_len' (fun p hp => (hpk.ok p hp).dg.1))
    have H1 := hide (cellsK_one hpk.ok)
    have HO := hide (World.ownsRow_made (base := w.heap.size) (e := 87) (size := 33) w #[] 0 (Nat.le_refl _) (by unfold maxLen; omega) (by simp))
    have hq : ∀ W : World, (binOp .eql 81 (.slice (some ⟨b, off, none⟩) ps.length c1) (.slice none 0 0)).run Tryd.prog W = .ok (.bool false) W := by
      intro W
      simp only [binOp]
      simp [run_equal_slice_nil W 81 87 (some ⟨b, off, none⟩) ps.length c1 Tryd.underlying81]
    obtain ⟨g, cap, w1, hrun, h3, h4, h5⟩ := appendK (w.alloc (.cells #[] 87)) w.heap.size (.slice (some ⟨w.heap.size, 0, none⟩) 0 0) ps b off c1 (unhide HO) ((unhide H).old ((Kept.refl [] w).alloc _)) hp0 (unhide HL) (unhide H1) hl (by simp)
    have HR := hide hrun
    have HO1 := hide h3
    have HK1 := hide (((Kept.refl [] w).alloc _).grown h4 (by intro k hk; right; simp [Value.ownBlock] at hk; omega))
    clear hrun h3 h4 h5 HO hpk hnil
    go_enter Tryd.func41, Tryd.ntmps41
    go_wp2_with (at_builtin; refine wpList_plain rfl fun K hK' => ?_; refine wp_appendT rfl rfl rfl rfl (unhide HR) (hK' _ _ ?_))
    go_ret
    exact ⟨_, rfl, unhide HO1, fun e => absurd e hp, unhide HK1⟩

end Go.Proofs.YtbljofojeagdkaaDoor
/-
  Laws for drawn regions, by genreg.py. No program.
-/
namespace Go.Proofs.YtbljofojeagdkaaDoor
open Go Go.RowKit Go.BigFrame
set_option linter.unusedVariables false
set_option linter.unusedSimpArgs false
section
variable {P : Program} {Q : Exit → Act → World → Prop}
theorem wp_ap16 {id : Nat} {o0 o1 o2 o3 o4 o5 o6 o7 o8 o9 o10 o11 o12 o13 o14 o15 : Oper} {a : Act} {w : World} (hm : P.follows .mixedOrders = true) (hs : Region.noSelect #[o0, o1, o2, o3, o4, o5, o6, o7, o8, o9, o10, o11, o12, o13, o14, o15] = true)
    (f0 : Region.free .any #[o0, o1, o2, o3, o4, o5, o6, o7, o8, o9, o10, o11, o12, o13, o14, o15] #[false, false, false, false, false, false, false, false, false, false, false, false, false, false, false, false] 0 = true) (r0 : (Region.ready .any #[o0, o1, o2, o3, o4, o5, o6, o7, o8, o9, o10, o11, o12, o13, o14, o15] #[false, false, false, false, false, false, false, false, false, false, false, false, false, false, false, false]).contains 0 = true)
    (f1 : Region.free .any #[o0, o1, o2, o3, o4, o5, o6, o7, o8, o9, o10, o11, o12, o13, o14, o15] #[true, false, false, false, false, false, false, false, false, false, false, false, false, false, false, false] 1 = true) (r1 : (Region.ready .any #[o0, o1, o2, o3, o4, o5, o6, o7, o8, o9, o10, o11, o12, o13, o14, o15] #[true, false, false, false, false, false, false, false, false, false, false, false, false, false, false, false]).contains 1 = true)
    (f2 : Region.free .any #[o0, o1, o2, o3, o4, o5, o6, o7, o8, o9, o10, o11, o12, o13, o14, o15] #[true, true, false, false, false, false, false, false, false, false, false, false, false, false, false, false] 2 = true) (r2 : (Region.ready .any #[o0, o1, o2, o3, o4, o5, o6, o7, o8, o9, o10, o11, o12, o13, o14, o15] #[true, true, false, false, false, false, false, false, false, false, false, false, false, false, false, false]).contains 2 = true)
    (f3 : Region.free .any #[o0, o1, o2, o3, o4, o5, o6, o7, o8, o9, o10, o11, o12, o13, o14, o15] #[true, true, true, false, false, false, false, false, false, false, false, false, false, false, false, false] 3 = true) (r3 : (Region.ready .any #[o0, o1, o2, o3, o4, o5, o6, o7, o8, o9, o10, o11, o12, o13, o14, o15] #[true, true, true, false, false, false, false, false, false, false, false, false, false, false, false, false]).contains 3 = true)
    (f4 : Region.free .any #[o0, o1, o2, o3, o4, o5, o6, o7, o8, o9, o10, o11, o12, o13, o14, o15] #[true, true, true, true, false, false, false, false, false, false, false, false, false, false, false, false] 4 = true) (r4 : (Region.ready .any #[o0, o1, o2, o3, o4, o5, o6, o7, o8, o9, o10, o11, o12, o13, o14, o15] #[true, true, true, true, false, false, false, false, false, false, false, false, false, false, false, false]).contains 4 = true)
    (f5 : Region.free .any #[o0, o1, o2, o3, o4, o5, o6, o7, o8, o9, o10, o11, o12, o13, o14, o15] #[true, true, true, true, true, false, false, false, false, false, false, false, false, false, false, false] 5 = true) (r5 : (Region.ready .any #[o0, o1, o2, o3, o4, o5, o6, o7, o8, o9, o10, o11, o12, o13, o14, o15] #[true, true, true, true, true, false, false, false, false, false, false, false, false, false, false, false]).contains 5 = true)
    (f6 : Region.free .any #[o0, o1, o2, o3, o4, o5, o6, o7, o8, o9, o10, o11, o12, o13, o14, o15] #[true, true, true, true, true, true, false, false, false, false, false, false, false, false, false, false] 6 = true) (r6 : (Region.ready .any #[o0, o1, o2, o3, o4, o5, o6, o7, o8, o9, o10, o11, o12, o13, o14, o15] #[true, true, true, true, true, true, false, false, false, false, false, false, false, false, false, false]).contains 6 = true)
    (f7 : Region.free .any #[o0, o1, o2, o3, o4, o5, o6, o7, o8, o9, o10, o11, o12, o13, o14, o15] #[true, true, true, true, true, true, true, false, false, false, false, false, false, false, false, false] 7 = true) (r7 : (Region.ready .any #[o0, o1, o2, o3, o4, o5, o6, o7, o8, o9, o10, o11, o12, o13, o14, o15] #[true, true, true, true, true, true, true, false, false, false, false, false, false, false, false, false]).contains 7 = true)
    (f8 : Region.free .any #[o0, o1, o2, o3, o4, o5, o6, o7, o8, o9, o10, o11, o12, o13, o14, o15] #[true, true, true, true, true, true, true, true, false, false, false, false, false, false, false, false] 8 = true) (r8 : (Region.ready .any #[o0, o1, o2, o3, o4, o5, o6, o7, o8, o9, o10, o11, o12, o13, o14, o15] #[true, true, true, true, true, true, true, true, false, false, false, false, false, false, false, false]).contains 8 = true)
    (f9 : Region.free .any #[o0, o1, o2, o3, o4, o5, o6, o7, o8, o9, o10, o11, o12, o13, o14, o15] #[true, true, true, true, true, true, true, true, true, false, false, false, false, false, false, false] 9 = true) (r9 : (Region.ready .any #[o0, o1, o2, o3, o4, o5, o6, o7, o8, o9, o10, o11, o12, o13, o14, o15] #[true, true, true, true, true, true, true, true, true, false, false, false, false, false, false, false]).contains 9 = true)
    (f10 : Region.free .any #[o0, o1, o2, o3, o4, o5, o6, o7, o8, o9, o10, o11, o12, o13, o14, o15] #[true, true, true, true, true, true, true, true, true, true, false, false, false, false, false, false] 10 = true) (r10 : (Region.ready .any #[o0, o1, o2, o3, o4, o5, o6, o7, o8, o9, o10, o11, o12, o13, o14, o15] #[true, true, true, true, true, true, true, true, true, true, false, false, false, false, false, false]).contains 10 = true)
    (f11 : Region.free .any #[o0, o1, o2, o3, o4, o5, o6, o7, o8, o9, o10, o11, o12, o13, o14, o15] #[true, true, true, true, true, true, true, true, true, true, true, false, false, false, false, false] 11 = true) (r11 : (Region.ready .any #[o0, o1, o2, o3, o4, o5, o6, o7, o8, o9, o10, o11, o12, o13, o14, o15] #[true, true, true, true, true, true, true, true, true, true, true, false, false, false, false, false]).contains 11 = true)
    (q_ : Region.ready .any #[o0, o1, o2, o3, o4, o5, o6, o7, o8, o9, o10, o11, o12, o13, o14, o15] #[true, true, true, true, true, true, true, true, true, true, true, true, false, false, false, false] = [12])
    (f_12_13 : Region.free .any #[o0, o1, o2, o3, o4, o5, o6, o7, o8, o9, o10, o11, o12, o13, o14, o15] #[true, true, true, true, true, true, true, true, true, true, true, true, true, false, false, false] 13 = true) (r_12_13 : (Region.ready .any #[o0, o1, o2, o3, o4, o5, o6, o7, o8, o9, o10, o11, o12, o13, o14, o15] #[true, true, true, true, true, true, true, true, true, true, true, true, true, false, false, false]).contains 13 = true)
    (q12_ : Region.ready .any #[o0, o1, o2, o3, o4, o5, o6, o7, o8, o9, o10, o11, o12, o13, o14, o15] #[true, true, true, true, true, true, true, true, true, true, true, true, true, true, false, false] = [14])
    (f12_14_15 : Region.free .any #[o0, o1, o2, o3, o4, o5, o6, o7, o8, o9, o10, o11, o12, o13, o14, o15] #[true, true, true, true, true, true, true, true, true, true, true, true, true, true, true, false] 15 = true) (r12_14_15 : (Region.ready .any #[o0, o1, o2, o3, o4, o5, o6, o7, o8, o9, o10, o11, o12, o13, o14, o15] #[true, true, true, true, true, true, true, true, true, true, true, true, true, true, true, false]).contains 15 = true)
    (q12_14_ : Region.ready .any #[o0, o1, o2, o3, o4, o5, o6, o7, o8, o9, o10, o11, o12, o13, o14, o15] #[true, true, true, true, true, true, true, true, true, true, true, true, true, true, true, true] = [])
    (g12 : o12.guard = none)    (g14 : o14.guard = none)
    (v0 v1 v2 v3 v4 v5 v6 v7 v8 v9 v10 v11 : Value) (A0 A1 A2 A3 A4 A5 A6 A7 A8 A9 A10 A11 : Act)
    (S : World → Prop)
    (I_ : World → Prop)
    (I12_ : Value → World → Prop)
    (I12_14_ : Value → Value → World → Prop)
    (v13 : Value → Value)
    (v15 : Value → Value)
    (p0 : a.put o0.dst v0 = A0) (hy0 : YieldsIf P #[o0, o1, o2, o3, o4, o5, o6, o7, o8, o9, o10, o11, o12, o13, o14, o15] S o0 v0 a)
    (p1 : A0.put o1.dst v1 = A1) (hy1 : YieldsIf P #[o0, o1, o2, o3, o4, o5, o6, o7, o8, o9, o10, o11, o12, o13, o14, o15] S o1 v1 A0)
    (p2 : A1.put o2.dst v2 = A2) (hy2 : YieldsIf P #[o0, o1, o2, o3, o4, o5, o6, o7, o8, o9, o10, o11, o12, o13, o14, o15] S o2 v2 A1)
    (p3 : A2.put o3.dst v3 = A3) (hy3 : YieldsIf P #[o0, o1, o2, o3, o4, o5, o6, o7, o8, o9, o10, o11, o12, o13, o14, o15] S o3 v3 A2)
    (p4 : A3.put o4.dst v4 = A4) (hy4 : YieldsIf P #[o0, o1, o2, o3, o4, o5, o6, o7, o8, o9, o10, o11, o12, o13, o14, o15] S o4 v4 A3)
    (p5 : A4.put o5.dst v5 = A5) (hy5 : YieldsIf P #[o0, o1, o2, o3, o4, o5, o6, o7, o8, o9, o10, o11, o12, o13, o14, o15] S o5 v5 A4)
    (p6 : A5.put o6.dst v6 = A6) (hy6 : YieldsIf P #[o0, o1, o2, o3, o4, o5, o6, o7, o8, o9, o10, o11, o12, o13, o14, o15] S o6 v6 A5)
    (p7 : A6.put o7.dst v7 = A7) (hy7 : YieldsIf P #[o0, o1, o2, o3, o4, o5, o6, o7, o8, o9, o10, o11, o12, o13, o14, o15] S o7 v7 A6)
    (p8 : A7.put o8.dst v8 = A8) (hy8 : YieldsIf P #[o0, o1, o2, o3, o4, o5, o6, o7, o8, o9, o10, o11, o12, o13, o14, o15] S o8 v8 A7)
    (p9 : A8.put o9.dst v9 = A9) (hy9 : YieldsIf P #[o0, o1, o2, o3, o4, o5, o6, o7, o8, o9, o10, o11, o12, o13, o14, o15] S o9 v9 A8)
    (p10 : A9.put o10.dst v10 = A10) (hy10 : YieldsIf P #[o0, o1, o2, o3, o4, o5, o6, o7, o8, o9, o10, o11, o12, o13, o14, o15] S o10 v10 A9)
    (p11 : A10.put o11.dst v11 = A11) (hy11 : YieldsIf P #[o0, o1, o2, o3, o4, o5, o6, o7, o8, o9, o10, o11, o12, o13, o14, o15] S o11 v11 A10)
    (i0 : I_ w.drew)
    (hIS : (∀ w', I_  w' → S w') ∧ (∀ (u12 : Value) w', I12_ u12 w' → S w') ∧ (∀ (u12 u14 : Value) w', I12_14_ u12 u14 w' → S w'))
    (s_12 : ∀ w', I_  w' → ∀ K : Act → World → Prop, (∀ (u12 : Value) w2, I12_ u12 w2 → K (A11.put o12.dst u12) w2) → o12.wp P A11 w' K (NoPanic Q))
    (s12_14 : ∀ (u12 : Value) w', I12_ u12 w' → ∀ K : Act → World → Prop, (∀ (u14 : Value) w2, I12_14_ u12 u14 w2 → K (((A11.put o12.dst u12).put o13.dst (v13 u12)).put o14.dst u14) w2) → o14.wp P ((A11.put o12.dst u12).put o13.dst (v13 u12)) w' K (NoPanic Q))
    (y_12_13 : ∀ (u12 : Value) w', I12_ u12 w' → YieldsIf P #[o0, o1, o2, o3, o4, o5, o6, o7, o8, o9, o10, o11, o12, o13, o14, o15] S o13 (v13 u12) (A11.put o12.dst u12))
    (y12_14_15 : ∀ (u12 u14 : Value) w', I12_14_ u12 u14 w' → YieldsIf P #[o0, o1, o2, o3, o4, o5, o6, o7, o8, o9, o10, o11, o12, o13, o14, o15] S o15 (v15 u14) (((A11.put o12.dst u12).put o13.dst (v13 u12)).put o14.dst u14))
    (h : ∀ (u12 u14 : Value) w', I12_14_ u12 u14 w' → Q .normal ((((A11.put o12.dst u12).put o13.dst (v13 u12)).put o14.dst u14).put o15.dst (v15 u14)) w') :
    (Code.region id #[o0, o1, o2, o3, o4, o5, o6, o7, o8, o9, o10, o11, o12, o13, o14, o15] true).wp P Q a w := by
  subst p0 p1 p2 p3 p4 p5 p6 p7 p8 p9 p10 p11
  obtain ⟨z_, z12_, z12_14_⟩ := hIS
  refine wp_region_noPanic ?_
  refine wp_region_held_drew (S := S) hm (z_ _ i0) (fun hH => ?_)
  show wpAnyH P .any #[o0, o1, o2, o3, o4, o5, o6, o7, o8, o9, o10, o11, o12, o13, o14, o15] (NoPanic Q) S 16 #[false, false, false, false, false, false, false, false, false, false, false, false, false, false, false, false] a w.drew
  refine wpAnyH_take (i := 0) (oi := o0) rfl hs f0 r0 (fun _ _ _ h => h) hy0 hH ?_
  refine wpAnyH_take (i := 1) (oi := o1) rfl hs f1 r1 (fun _ _ _ h => h) hy1 hH ?_
  refine wpAnyH_take (i := 2) (oi := o2) rfl hs f2 r2 (fun _ _ _ h => h) hy2 hH ?_
  refine wpAnyH_take (i := 3) (oi := o3) rfl hs f3 r3 (fun _ _ _ h => h) hy3 hH ?_
  refine wpAnyH_take (i := 4) (oi := o4) rfl hs f4 r4 (fun _ _ _ h => h) hy4 hH ?_
  refine wpAnyH_take (i := 5) (oi := o5) rfl hs f5 r5 (fun _ _ _ h => h) hy5 hH ?_
  refine wpAnyH_take (i := 6) (oi := o6) rfl hs f6 r6 (fun _ _ _ h => h) hy6 hH ?_
  refine wpAnyH_take (i := 7) (oi := o7) rfl hs f7 r7 (fun _ _ _ h => h) hy7 hH ?_
  refine wpAnyH_take (i := 8) (oi := o8) rfl hs f8 r8 (fun _ _ _ h => h) hy8 hH ?_
  refine wpAnyH_take (i := 9) (oi := o9) rfl hs f9 r9 (fun _ _ _ h => h) hy9 hH ?_
  refine wpAnyH_take (i := 10) (oi := o10) rfl hs f10 r10 (fun _ _ _ h => h) hy10 hH ?_
  refine wpAnyH_take (i := 11) (oi := o11) rfl hs f11 r11 (fun _ _ _ h => h) hy11 hH ?_
  generalize ((((((((((((a.put o0.dst v0).put o1.dst v1).put o2.dst v2).put o3.dst v3).put o4.dst v4).put o5.dst v5).put o6.dst v6).put o7.dst v7).put o8.dst v8).put o9.dst v9).put o10.dst v10).put o11.dst v11) = B at *
  have wa12 : ∀ y, Region.wanted o12 y = true := fun y => by unfold Region.wanted; rw [g12]
  have wa14 : ∀ y, Region.wanted o14 y = true := fun y => by unfold Region.wanted; rw [g14]
  have t12_14_ : ∀ (u12 u14 : Value) w', I12_14_ u12 u14 w' → wpAnyH P .any #[o0, o1, o2, o3, o4, o5, o6, o7, o8, o9, o10, o11, o12, o13, o14, o15] (NoPanic Q) S 0 #[true, true, true, true, true, true, true, true, true, true, true, true, true, true, true, true] ((((B.put o12.dst u12).put o13.dst (v13 u12)).put o14.dst u14).put o15.dst (v15 u14)) w' := by
    intro u12 u14 w0 i0
    exact ⟨q12_14_, NoPanic.normal (h u12 u14 w0 i0)⟩
  have t12_ : ∀ (u12 : Value) w', I12_ u12 w' → wpAnyH P .any #[o0, o1, o2, o3, o4, o5, o6, o7, o8, o9, o10, o11, o12, o13, o14, o15] (NoPanic Q) S 2 #[true, true, true, true, true, true, true, true, true, true, true, true, true, true, false, false] ((B.put o12.dst u12).put o13.dst (v13 u12)) w' := by
    intro u12 w0 i0
    refine wpAnyH_ready (rs := [14]) q12_ (by simp) (AllReadyH.cons (o := o14) rfl (fun K hK => ?_) AllReadyH.nil)
    · rw [if_pos (wa14 _)]
      refine s12_14 u12 w0 i0 K (fun u14 w1 i1 => hK.out _ _ (z12_14_ u12 u14 w1 i1) (fun _ => ?_))
      clear hK
      refine wpAnyH_take (i := 15) (oi := o15) rfl hs f12_14_15 r12_14_15 (fun _ _ _ h => h) (y12_14_15 u12 u14 w1 i1) (z12_14_ u12 u14 w1 i1) ?_
      exact t12_14_ u12 u14 w1 i1
  have t_ : ∀ w', I_  w' → wpAnyH P .any #[o0, o1, o2, o3, o4, o5, o6, o7, o8, o9, o10, o11, o12, o13, o14, o15] (NoPanic Q) S 4 #[true, true, true, true, true, true, true, true, true, true, true, true, false, false, false, false] B w' := by
    intro w0 i0
    refine wpAnyH_ready (rs := [12]) q_ (by simp) (AllReadyH.cons (o := o12) rfl (fun K hK => ?_) AllReadyH.nil)
    · rw [if_pos (wa12 _)]
      refine s_12  w0 i0 K (fun u12 w1 i1 => hK.out _ _ (z12_ u12 w1 i1) (fun _ => ?_))
      clear hK
      refine wpAnyH_take (i := 13) (oi := o13) rfl hs f_12_13 r_12_13 (fun _ _ _ h => h) (y_12_13 u12 w1 i1) (z12_ u12 w1 i1) ?_
      exact t12_ u12 w1 i1
  exact t_ w.drew i0

end
end Go.Proofs.YtbljofojeagdkaaDoor
namespace Go.Proofs.YtbljofojeagdkaaDoor
open Go.RowKit Go.BigFrame
set_option linter.unusedVariables false
set_option linter.unusedSimpArgs false

theorem appendT_nil (lv : Value) (w : World) : Calls Tryd.prog 24 #[.pointer none, lv] w fun e w' => e = .returned (.tuple #[.pointer none, .int .i64 5]) ∧ w' = w := by
  go_enter Tryd.func24, Tryd.ntmps24
  go_wp2
  exact bodyPost_ret (results_tmp2 rfl _ _ _) rfl ⟨rfl, rfl⟩

/-- What Append answers. -/
def AppD (z : Int) (ps : List Pk) (ls : List (List Nat)) (w : World) (e : Ending) (w' : World) : Prop :=
  (ls.all (formB z) = true → ∃ t' v' qs, e = .returned (.tuple #[.pointer (some ⟨t', 0, none⟩), .int .i64 0]) ∧ w.heap.size ≤ t' ∧ TreeAt z w' t' v' qs ∧ leavesK qs = leavesK ps ++ ls ∧ (qs = [] → v' = .slice none 0 0)) ∧
  (ls.all (formB z) = false → e = .returned (.tuple #[.pointer none, .int .i64 3])) ∧ Kept [] w w'

set_option maxRecDepth 100000 in
set_option maxHeartbeats 1000000 in
theorem appendT_any (z : Int) (t : Nat) (v lv : Value) (ps : List Pk) (ls : List (List Nat)) (w : World) (h : TreeAt z w t v ps) (hnil : ps = [] → v = .slice none 0 0) (hl : RdD w lv ls) (hN : (leavesK ps).length + ls.length ≤ 1000000000) (hT : Tabs w) (h6 : Tab6 w) :
    Calls Tryd.prog 24 #[.pointer (some ⟨t, 0, none⟩), lv] w (AppD z ps ls w) := by
  have hz : 1 ≤ z ∧ z ≤ 32 := by simpa [widthB] using h.wid
  have hz2 : -9223372036854775808 ≤ z ∧ z ≤ 9223372036854775807 := by omega
  have HT := hide h
  have HL := hide hl
  obtain ⟨ao, len, cap, rfl, h1, h2, h3, h4, h5⟩ := hl
  subst h1
  clear h4 h5 h
  have cz := cell_of_row _ _ 0 _ _ _ (unhide HT).row
  simp at cz
  have HTB := hide hT
  have H6B := hide h6
  have HNL := hide hnil
  clear hT h6 hnil
  go_enter Tryd.func24, Tryd.ntmps24
  go_wp2_with fail
  go_loopw [15] (fun t15 wr => ∃ (i : Nat), i ≤ ls.length ∧ t15 = .int .i64 i ∧ Hid ((ls.take i).all (formB z) = true) ∧ Hid (Kept [] w wr)) (fun t _ => ls.length - (intOf t).toNat)
  case atStart => exact ⟨0, Nat.zero_le _, rfl, hide (by simp), hide (Kept.refl _ _)⟩
  case round =>
    obtain ⟨j, hj, rfl, HAJ, HKJ⟩ := hrel
    by_cases hjl : j < ls.length
    · have hjl' : (j : Int) < ls.length := by omega
      obtain ⟨ra, rl, rc, re, r1, r2, r3, r4, r5⟩ := unhide HL
      cases re
      obtain ⟨b, o, rfl, hcell⟩ := r5 (by omega)
      have HD := hide (r4 (ls.getD j []) (by rw [List.getD_eq_getElem?_getD, List.getElem?_eq_getElem hjl]; exact List.getElem_mem hjl))
      have HRG := hide (fun u v hv => (unhide HKJ).cell (hcell j hjl u v hv) (by simp) : wr.rangeAt b (o + j * 32) ((ls.getD j []).map Go.Proofs.YtbljofojeagdkaaDoor.u8))
      have HN := hide (by rw [List.take_succ_eq_append_getElem hjl, List.all_append, unhide HAJ, List.getD_eq_getElem?_getD, List.getElem?_eq_getElem hjl]; simp : (ls.take (j + 1)).all (formB z) = formB z (ls.getD j []))
      have HM := hide (fun (h : formB z (ls.getD j []) = false) => by
        rw [List.all_eq_false]
        exact ⟨ls.getD j [], by rw [List.getD_eq_getElem?_getD, List.getElem?_eq_getElem hjl]; exact List.getElem_mem hjl, by rw [h]; decide⟩ : formB z (ls.getD j []) = false → ls.all (formB z) = false)
      clear hcell r4 r5
      obtain ⟨d, hd⟩ : ∃ d, ls.getD j [] = d := ⟨_, rfl⟩
      rw [hd] at HD HRG HN HM
      clear hd
      have hdl := (unhide HD).1
      have HSZ := hide (by rw [brow_size, hdl]; exact Tryd.size_dig : (Tryd.prog.info? 23).map (·.size) = some (brow d).size)
      have HNW := hide (setRow_heap (wr.alloc (.cells (zb 32) 23)) wr.heap.size (zb 32) (brow d) 23 (0, 0) (heap_alloc_new _ _))
      have HKN := hide (((unhide HKJ).alloc (.cells (zb 32) 23)).setRow (g := wr.heap.size) (Or.inr (unhide HKJ).size) (brow d))
      go_wp2_with (first
        | (refine wpList_load_mid rfl 23 (.tmp 17) rfl b (o + j * 32) rfl (d.map Go.Proofs.YtbljofojeagdkaaDoor.u8) _ (unhide HRG) Tryd.underlying23 rfl (by rw [List.length_map, hdl]; exact Tryd.size_dig) ?_)
        | (rw [zb32]; refine wpList_store_row rfl 23 (.tmp 7) _ rfl wr.heap.size (brow d) rfl rfl _ (zb 32) (heap_alloc_new _ _) (unhide HSZ) (by rw [zb_size, brow_size, hdl]) (brow_one _) ?_))
      obtain ⟨W, hW⟩ : ∃ W, (wr.alloc (.cells (zb 32) 23)).setRow wr.heap.size (brow d) = W := ⟨_, rfl⟩
      rw [hW] at HNW HKN ⊢
      clear hW
      have cz4 := (unhide HKN).cell cz (by simp)
      have HFO := hide (fun w' (hw' : Kept [] W w') => (form_any z d w' hz2 hdl (unhide HD).2).mono (fun e w2 (h2 : _ ∧ _) => (⟨h2.1, hw'.trans h2.2 (by simp)⟩ : _ ∧ Kept [] W w2)))
      cases hf : formB z d with
      | true =>
        rw [hf] at HN HFO
        clear hf
        have hne : ∀ p : Prop, (∀ w', Kept [] W w' → p) = p := fun p => propext ⟨fun h => h W (Kept.refl [] W), fun h _ _ => h⟩
        refine wp_region_keep (by kernel_rfl) (by kernel_rfl) ?_
        iterate 3 (go_big_quiet_step (fail))
        refine wpQuiet_val rfl (.int .i64 z) (fun w' hw' => run_load1 3 (.tmp 21) rfl ⟨t, 0, none⟩ rfl w' _ .i64 Tryd.underlying3 (hw'.cell cz4 (by simp))) ?_
        simp only [Act.put, List.setIfInBounds_toArray, List.set_cons_succ, List.set_cons_zero]
        refine wpQuiet_row rfl 23 (.tmp 7) rfl wr.heap.size rfl _ (brow d) (0, 0) _ (fun w' hw' => hw'.heap (unhide HNW) (by simp)) Tryd.underlying23 rfl (unhide HSZ) ?_
        simp only [Act.put, List.setIfInBounds_toArray, List.set_cons_succ, List.set_cons_zero]
        go_big_quiet_want
        go_big_quiet_op
        apply Exists.intro
        refine ⟨fun w' hw' => ?_, ?_⟩
        · exact unhide HFO w' hw'
        go_big_quiet_on
        repeat (go_big_quiet_step (fail))
        refine wpQuiet_nil ?_
        intro w6 hw6
        have HK6 := hide ((unhide HKN).trans hw6 (by simp))
        clear hw6
        go_wp2_with fail
        refine ⟨⟨j + 1, by omega, by go_num, HN, HK6⟩, ?_⟩
        simp [intOf]; omega
      | false =>
        have HF := hide (unhide HM hf)
        rw [hf] at HFO
        clear hf
        have hne : ∀ p : Prop, (∀ w', Kept [] W w' → p) = p := fun p => propext ⟨fun h => h W (Kept.refl [] W), fun h _ _ => h⟩
        refine wp_region_keep (by kernel_rfl) (by kernel_rfl) ?_
        iterate 3 (go_big_quiet_step (fail))
        refine wpQuiet_val rfl (.int .i64 z) (fun w' hw' => run_load1 3 (.tmp 21) rfl ⟨t, 0, none⟩ rfl w' _ .i64 Tryd.underlying3 (hw'.cell cz4 (by simp))) ?_
        simp only [Act.put, List.setIfInBounds_toArray, List.set_cons_succ, List.set_cons_zero]
        refine wpQuiet_row rfl 23 (.tmp 7) rfl wr.heap.size rfl _ (brow d) (0, 0) _ (fun w' hw' => hw'.heap (unhide HNW) (by simp)) Tryd.underlying23 rfl (unhide HSZ) ?_
        simp only [Act.put, List.setIfInBounds_toArray, List.set_cons_succ, List.set_cons_zero]
        go_big_quiet_want
        go_big_quiet_op
        apply Exists.intro
        refine ⟨fun w' hw' => ?_, ?_⟩
        · exact unhide HFO w' hw'
        go_big_quiet_on
        repeat (go_big_quiet_step (fail))
        refine wpQuiet_nil ?_
        intro w6 hw6
        have HK6 := hide ((unhide HKN).trans hw6 (by simp))
        clear hw6
        go_wp2_with fail
        exact bodyPost_ret (results_tmp2 rfl _ _ _) rfl ⟨fun h => absurd h (by rw [unhide HF]; decide), fun _ => rfl, unhide HK6⟩
    · have hjl' : ¬ (j : Int) < ls.length := by omega
      have hje : j = ls.length := by omega
      subst hje
      rw [List.take_length] at HAJ
      go_wp2_with fail
      have hN0 : (leavesK ps).length ≤ 1000000000 := by omega
      obtain ⟨va, vn, vc, rfl⟩ : ∃ a n c, v = .slice a n c := by obtain ⟨a, c, h9, _⟩ := (unhide HT).rd; exact ⟨_, _, _, h9⟩
      have c0 := (unhide HKJ).cell cz (by simp)
      have c1 : wr.cell? ⟨t, 1, none⟩ = some (.int .u64 ((leavesK ps).length : Int)) := (unhide HKJ).cell (by have := cell_of_row _ _ 1 _ _ _ (unhide HT).row; simpa using this) (by simp)
      have c2 : wr.cell? ⟨t, 2, none⟩ = some (.slice va vn vc) := (unhide HKJ).cell (by have := cell_of_row _ _ 2 _ _ _ (unhide HT).row; simpa using this) (by simp)
      have hpl : ps.length ≤ 1000000000 := by
        have h8 := len_le_sum (ps.reverse.map (·.h)); rw [← leavesK_len (unhide HT).pk.ok] at h8; simp at h8; omega
      have HCL := hide (fun w' (k : Kept [] wr w') => cloneK_any z (.slice va vn vc) ps w' (((unhide HT).rd.old (unhide HKJ)).old k) (((unhide HT).pk.old (unhide HKJ)).old k) (unhide HNL) hpl)
      refine wp_ap16 (by kernel_rfl) (by kernel_rfl) (by kernel_rfl) (by kernel_rfl) (by kernel_rfl) (by kernel_rfl) (by kernel_rfl) (by kernel_rfl) (by kernel_rfl) (by kernel_rfl) (by kernel_rfl) (by kernel_rfl) (by kernel_rfl) (by kernel_rfl) (by kernel_rfl) (by kernel_rfl) (by kernel_rfl) (by kernel_rfl) (by kernel_rfl) (by kernel_rfl) (by kernel_rfl) (by kernel_rfl) (by kernel_rfl) (by kernel_rfl) (by kernel_rfl) (by kernel_rfl) (by kernel_rfl) (by kernel_rfl) (by kernel_rfl) (by kernel_rfl) (by kernel_rfl) (by kernel_rfl) (by kernel_rfl) rfl rfl
        (.pointer (some ⟨t, 0, none⟩)) (.pointer (some ⟨t, 0, none⟩)) (.pointer (some ⟨t, 0, none⟩)) (.int .i64 z) (.pointer (some ⟨t, 0, none⟩)) (.pointer (some ⟨t, 0, none⟩)) (.pointer (some ⟨t, 1, none⟩)) (.int .u64 ((leavesK ps).length : Int)) (.pointer (some ⟨t, 0, none⟩)) (.pointer (some ⟨t, 0, none⟩)) (.pointer (some ⟨t, 2, none⟩)) (.slice va vn vc) _ _ _ _ _ _ _ _ _ _ _ _
        (fun w' => Kept [] wr w')
        (fun w' => Kept [] wr w')
        (fun u w' => (∃ a n c, u = .slice a n c ∧ w'.ownsRow wr.heap.size 87 33 (.slice a n c) ps.length (cellsK ps) ∧ (ps = [] → Value.slice a n c = .slice none 0 0)) ∧ Kept [] wr w')
        (fun u x w' => (∃ a n c t', u = .slice a n c ∧ w'.ownsRow wr.heap.size 87 33 (.slice a n c) ps.length (cellsK ps) ∧ (ps = [] → Value.slice a n c = .slice none 0 0) ∧ x = .pointer (some ⟨t', 0, none⟩) ∧ wr.heap.size ≤ t' ∧ w'.heap[t']? = some (.cells #[.int .i64 z, .int .u64 ((leavesK ps).length : Int), .slice a n c] 83 (0, 0))) ∧ Kept [] wr w')
        (fun u => .agg #[.int .i64 z, .int .u64 ((leavesK ps).length : Int), u]) (fun x => x)
        (by simp only [Act.put, List.setIfInBounds_toArray, List.set_cons_zero, List.set_cons_succ]; rfl) (by exact Or.inl ⟨by rfl, fun W' hW' => by go_simp⟩)
        (by simp only [Act.put, List.setIfInBounds_toArray, List.set_cons_zero, List.set_cons_succ]; rfl) (by exact Or.inl ⟨by rfl, fun W' hW' => by go_simp⟩)
        (by simp only [Act.put, List.setIfInBounds_toArray, List.set_cons_zero, List.set_cons_succ]; rfl) (by exact Or.inl ⟨by rfl, fun W' hW' => by go_simp⟩)
        (by simp only [Act.put, List.setIfInBounds_toArray, List.set_cons_zero, List.set_cons_succ]; rfl) (by exact Or.inl ⟨by rfl, fun W' hW' => by have h9 := hW'.cell c0 (by simp); go_simp⟩)
        (by simp only [Act.put, List.setIfInBounds_toArray, List.set_cons_zero, List.set_cons_succ]; rfl) (by exact Or.inl ⟨by rfl, fun W' hW' => by go_simp⟩)
        (by simp only [Act.put, List.setIfInBounds_toArray, List.set_cons_zero, List.set_cons_succ]; rfl) (by exact Or.inl ⟨by rfl, fun W' hW' => by go_simp⟩)
        (by simp only [Act.put, List.setIfInBounds_toArray, List.set_cons_zero, List.set_cons_succ]; rfl) (by exact Or.inl ⟨by rfl, fun W' hW' => by go_simp⟩)
        (by simp only [Act.put, List.setIfInBounds_toArray, List.set_cons_zero, List.set_cons_succ]; rfl) (by exact Or.inl ⟨by rfl, fun W' hW' => by have h9 := hW'.cell c1 (by simp); go_simp⟩)
        (by simp only [Act.put, List.setIfInBounds_toArray, List.set_cons_zero, List.set_cons_succ]; rfl) (by exact Or.inl ⟨by rfl, fun W' hW' => by go_simp⟩)
        (by simp only [Act.put, List.setIfInBounds_toArray, List.set_cons_zero, List.set_cons_succ]; rfl) (by exact Or.inl ⟨by rfl, fun W' hW' => by go_simp⟩)
        (by simp only [Act.put, List.setIfInBounds_toArray, List.set_cons_zero, List.set_cons_succ]; rfl) (by exact Or.inl ⟨by rfl, fun W' hW' => by go_simp⟩)
        (by simp only [Act.put, List.setIfInBounds_toArray, List.set_cons_zero, List.set_cons_succ]; rfl) (by exact Or.inl ⟨by rfl, fun W' hW' => by have h9 := hW'.cell c2 (by simp); go_simp⟩)
        (Kept.refl [] wr).drew
        ⟨fun w' h => h, fun u w' h => h.2, fun u x w' h => h.2⟩
        (by intro w' i K hK; refine wp_callN rfl Tryd.call41 [.slice va vn vc] rfl (unhide HCL w' i) ?_; rintro e w2 ⟨v', rfl, ho, hn, k2⟩; obtain ⟨a, n, c, rfl⟩ : ∃ a n c, v' = .slice a n c := by (rcases ho.2 with ⟨h9, _⟩ | ⟨g, cp, cur, h9, _⟩ <;> exact ⟨_, _, _, h9⟩)
            exact ⟨_, rfl, hK _ _ ⟨⟨a, n, c, rfl, owns_baseK ho i.size, hn⟩, i.trans k2 (by simp)⟩⟩)
        (by
          intro u w' hh K hK
          simp only [Act.put, List.setIfInBounds_toArray, List.set_cons_zero, List.set_cons_succ] at hK ⊢
          obtain ⟨⟨a, n, c, rfl, ho, hn⟩, i⟩ := hh
          unfold Oper.wp execOp
          go_simp
          exact hK _ _ ⟨⟨a, n, c, _, rfl, ((Kept.refl [] w').alloc _).owns ho (by simp), hn, rfl, i.size, heap_alloc_new _ _⟩, i.alloc _⟩)
        (by rintro u w' ⟨⟨a, n, c, rfl, _⟩, _⟩; exact Or.inl ⟨by rfl, fun W' hW' => by unfold execOp; go_simp⟩)
        (by rintro u x w' ⟨⟨a, n, c, t', rfl, _, _, rfl, _⟩, _⟩; exact Or.inl ⟨by rfl, fun W' hW' => by go_simp⟩)
        ?_
      rintro u x Y ⟨⟨a, n, c, t', rfl, ho, hn, rfl, ht', hrow⟩, kY⟩
      simp only [Act.put, List.setIfInBounds_toArray, List.set_cons_zero, List.set_cons_succ]
      have HO := hide ho
      have HNN := hide hn
      have HRW := hide hrow
      have HKY := hide ((unhide HKJ).trans kY (by simp))
      have HPK := hide ((unhide HT).pk.old ((unhide HKJ).trans kY (by simp)))
      have hszw := (unhide HKJ).size
      clear ho hn hrow kY HCL c0 c1 c2
      go_wp2_with fail
      have HI0 := hide (⟨by simpa using unhide HRW, unhide HO, unhide HPK, by simp, unhide HNN, unhide HKY, hszw, Nat.le_trans hszw ht', by have := (unhide HO).lt; have := lt_of_block (unhide HRW); omega⟩ : AppI z ps ls w t' wr.heap.size 0 (.slice a n c) ps Y)
      have hwid := hide (unhide HT).wid
      clear HO HNN HRW HKY HPK hpl HNL
      obtain ⟨base, hbase⟩ : ∃ base, base = wr.heap.size := ⟨_, rfl⟩
      rw [← hbase] at HI0
      clear hszw ht' hbase
      go_loopw [44] (fun t44 wq => ∃ (i : Nat) (v' : Value) (qs : List Pk), i ≤ ls.length ∧ t44 = .int .i64 i ∧ Hid (AppI z ps ls w t' base i v' qs wq)) (fun t _ => ls.length - (intOf t).toNat)
      case atStart => exact ⟨0, _, _, Nat.zero_le _, rfl, HI0⟩
      case round =>
        obtain ⟨i, v', qs, hi, rfl, HI⟩ := hrel
        by_cases hil : i < ls.length
        · have hil' : (i : Int) < ls.length := by omega
          obtain ⟨ra, rl, rc, re, r1, r2, r3, r4, r5⟩ := unhide HL
          cases re
          obtain ⟨b, o, rfl, hcell⟩ := r5 (by omega)
          have hmem : ls.getD i [] ∈ ls := by rw [List.getD_eq_getElem?_getD, List.getElem?_eq_getElem hil]; exact List.getElem_mem hil
          have HD := hide (r4 (ls.getD i []) hmem)
          have HFD := hide (List.all_eq_true.1 (unhide HAJ) _ hmem)
          have HRG := hide (fun u v hv => (unhide HI).kept.cell (hcell i hil u v hv) (by simp) : wr.rangeAt b (o + i * 32) ((ls.getD i []).map Go.Proofs.YtbljofojeagdkaaDoor.u8))
          clear hcell r4 r5 hmem
          obtain ⟨d, hd⟩ : ∃ d, ls.getD i [] = d := ⟨_, rfl⟩
          have HDD := hide hd
          rw [hd] at HD HRG HFD
          clear hd
          have hdl := (unhide HD).1
          have HSZ := hide (by rw [brow_size, hdl]; exact Tryd.size_dig : (Tryd.prog.info? 23).map (·.size) = some (brow d).size)
          have HNW := hide (setRow_heap (wr.alloc (.cells (zb 32) 23)) wr.heap.size (zb 32) (brow d) 23 (0, 0) (heap_alloc_new _ _))
          have HKN := hide (((Kept.refl [] wr).alloc (.cells (zb 32) 23)).setRow (g := wr.heap.size) (Or.inr (Nat.le_refl _)) (brow d))
          go_wp2_with (first
            | (refine wpList_load_mid rfl 23 (.tmp 46) rfl b (o + i * 32) rfl (d.map Go.Proofs.YtbljofojeagdkaaDoor.u8) _ (unhide HRG) Tryd.underlying23 rfl (by rw [List.length_map, hdl]; exact Tryd.size_dig) ?_)
            | (rw [zb32]; refine wpList_store_row rfl 23 (.tmp 10) _ rfl wr.heap.size (brow d) rfl rfl _ (zb 32) (heap_alloc_new _ _) (unhide HSZ) (by rw [zb_size, brow_size, hdl]) (brow_one _) ?_)
            | (refine wpList_load_row rfl 23 (.tmp 10) rfl wr.heap.size rfl _ (brow d) (0, 0) _ (unhide HNW) Tryd.underlying23 rfl (unhide HSZ) ?_))
          obtain ⟨W, hW⟩ : ∃ W, (wr.alloc (.cells (zb 32) 23)).setRow wr.heap.size (brow d) = W := ⟨_, rfl⟩
          rw [hW] at HKN ⊢
          clear hW HNW
          refine Calls.mono (push_any z t' ((leavesK ps).length + i) base v' qs d W ((unhide HKN).heap (unhide HI).row (by simp)) ((unhide HKN).owns (unhide HI).own (by simp)) ((unhide HI).pk.old (unhide HKN)) ((unhide HI).len hi) (by omega) (Nat.le_trans (unhide HI).br (unhide HKN).size) (unhide hwid) ((unhide HI).far (unhide HTB) (unhide H6B)) ⟨hdl, (unhide HD).2⟩ (unhide HFD) ((unhide HTB).kept ((unhide HI).kept.trans (unhide HKN) (by simp)) (by simp) (by simp)) ((unhide H6B).kept ((unhide HI).kept.trans (unhide HKN) (by simp)))) ?_
          rintro e w4 ⟨rfl, hpd⟩
          obtain ⟨v2, rs, hi2⟩ := (unhide HI).step hil (unhide HKN) (by rw [unhide HDD]; exact hpd)
          have HI2 := hide hi2
          clear hpd hi2 HI HKN
          go_wp2_with fail
          refine ⟨⟨i + 1, _, _, by omega, by go_num, HI2⟩, ?_⟩
          simp [intOf]; omega
        · have hil' : ¬ (i : Int) < ls.length := by omega
          have hie : i = ls.length := by omega
          subst hie
          have HF := hide ((unhide HI).fin (unhide hwid))
          go_wp2_with fail
          exact bodyPost_ret (results_tmp2 rfl _ _ _) rfl ⟨fun _ => ⟨t', v', qs, rfl, (unhide HI).bt, (unhide HF).1, (unhide HF).2, (unhide HI).nil⟩, fun h => absurd h (by rw [unhide HAJ]; decide), (unhide HI).kept⟩

end Go.Proofs.YtbljofojeagdkaaDoor
namespace Go.Proofs.YtbljofojeagdkaaDoor
open Go.RowKit Go.BigFrame
set_option linter.unusedVariables false
set_option linter.unusedSimpArgs false

/-- What the statements' tree answers. -/
def TrD (z : Int) (ls : List (List Nat)) (w : World) (e : Ending) (w' : World) : Prop :=
  (widthB z = false → e = .returned (.tuple #[.pointer none, .slice none 0 0, .bool false]) ∧ Kept [] w w') ∧
  (widthB z = true → ∃ t v qs u, e = .returned (.tuple #[.pointer (some ⟨t, 0, none⟩), u, .bool true]) ∧ TreeAt z w' t v qs ∧ leavesK qs = ls.map (cutL z.toNat) ∧ OwD w w' u (ls.map (cutL z.toNat)))
theorem cut_all {k : Nat} (h1 : 1 ≤ k) (h2 : k ≤ 32) {ls : List (List Nat)} (h : ∀ d ∈ ls, Dg d) : (ls.map (cutL k)).all (formB (k : Int)) = true := by
  rw [List.all_eq_true]
  intro x hx
  obtain ⟨d, hd, rfl⟩ := List.mem_map.1 hx
  exact cut_form h1 h2 (h d hd)

end Go.Proofs.YtbljofojeagdkaaDoor
namespace Go.Proofs.YtbljofojeagdkaaDoor
open Go.RowKit Go.BigFrame
set_option linter.unusedVariables false
set_option linter.unusedSimpArgs false

set_option maxRecDepth 100000 in
set_option maxHeartbeats 1000000 in
theorem leaf_all (z : Int) (v : Value) (p : List Nat) (w : World) (hz : -9223372036854775808 ≤ z ∧ z ≤ 9223372036854775807) (h : Rd w v p) (hl : p.length ≤ 140737488351232) (hT : Tabs w) :
    Calls Tryd.prog 40 #[.int .i64 z, v] w fun e w' => e = .returned (.tuple #[.agg (brow (sumD z (0 :: p))), .int .i64 (sumE z)]) ∧ Kept [] w w' := by
  have H := hide h
  have HT := hide hT
  clear h hT
  have hcl := sumD_len z (0 :: p)
  obtain ⟨B, hB⟩ : ∃ B, 0 :: p = B := ⟨_, rfl⟩
  have HB := hide hB
  rw [hB] at hcl ⊢
  clear hB
  obtain ⟨D, hD⟩ : ∃ D, sumD z B = D := ⟨_, rfl⟩
  have HD := hide hD
  rw [hD] at hcl ⊢
  clear hD
  obtain ⟨E, hE⟩ : ∃ E, sumE z = E := ⟨_, rfl⟩
  have HE := hide hE
  rw [hE]
  clear hE
  go_enter Tryd.func40, Tryd.ntmps40
  go_wp2_with fail
  rw [zb32]
  refine Calls.mono (leafInput_any _ p _ ((unhide H).old ((Kept.refl [] w).alloc _) (by simp)) hl) ?_
  rintro e w1 ⟨v1, rfl, n1, k1⟩
  rw [unhide HB] at n1
  have HR1 := hide n1.1
  obtain ⟨a1, m1, c1, hu1, hm1, _⟩ := id n1.1
  subst hu1
  have HZ1 := hide (k1.heap (heap_alloc_new w (.cells (zb 32) 23)) (by simp))
  have HK1 := hide (((Kept.refl [] w).alloc (.cells (zb 32) 23)).trans k1 (by simp))
  clear n1 k1
  go_wp2_with fail
  refine Calls.mono (dsum_all z _ [B] _ hz (RdL.one (heap_alloc_new _ _) ((unhide HR1).old ((Kept.refl [] w1).alloc _) (by simp))) (by have h9 := (unhide HR1).len; simpa using h9) ((unhide HT).k ((unhide HK1).alloc _))) ?_
  rintro e w2 ⟨rfl, k2⟩
  rw [show ([B] : List (List Nat)).flatten = B by simp, unhide HD, unhide HE]
  have HZ2 := hide (k2.heap ((Kept.refl [] w1).alloc (.cells #[.slice a1 m1 c1] 80) |>.heap (unhide HZ1) (by simp)) (by simp))
  have HK2 := hide (((unhide HK1).alloc _).trans k2 (by simp))
  clear k2
  go_wp2_with (refine wpList_store_row rfl 23 _ _ rfl w.heap.size (brow D) rfl rfl _ (zb 32) (unhide HZ2) (by rw [brow_size, hcl]; exact Tryd.size_dig) (by rw [zb_size, brow_size, hcl]) (brow_one _) ?_)
  refine bodyPost_ret (v := .tuple #[.agg (brow D), .int .i64 E]) ?_ rfl ⟨rfl, (unhide HK2).setRow (by simp) _⟩
  exact results_cell_tmp rfl _ _ w.heap.size _ (brow D) (0, 0) _ rfl (setRow_heap _ _ _ _ _ _ (unhide HZ2)) Tryd.underlying23 rfl (by rw [brow_size, hcl]; exact Tryd.size_dig) _ rfl

end Go.Proofs.YtbljofojeagdkaaDoor
namespace Go.Proofs.YtbljofojeagdkaaDoor
open Go.RowKit Go.BigFrame
set_option linter.unusedVariables false
set_option linter.unusedSimpArgs false

/-- What Leaf answers. -/
def lfD (L : List (List Nat)) (i : Nat) : List Nat := if L.length ≤ i then List.replicate 32 0 else L.getD i []
def lfE (L : List (List Nat)) (i : Nat) : Int := if L.length ≤ i then 4 else 0
theorem lfD_dg {z : Int} {w : World} {ps : List Pk} (h : PKs z w ps) (i : Nat) : Dg (lfD (leavesK ps) i) := by
  unfold lfD
  split
  · exact ⟨by simp, by simp⟩
  · rename_i h1
    rw [List.getD_eq_getElem?_getD, List.getElem?_eq_getElem (by omega)]
    exact (h.leaves _ (List.getElem_mem _)).1

end Go.Proofs.YtbljofojeagdkaaDoor
namespace Go.Proofs.YtbljofojeagdkaaDoor
open Go.RowKit Go.BigFrame
set_option linter.unusedVariables false
set_option linter.unusedSimpArgs false

theorem RdD.flat {w : World} {g : Nat} {ds : List (List Nat)} {t : TypeId} {fr : Nat × Nat} (h : w.heap[g]? = some (.cells (flatD ds).toArray t fr)) (hd : ∀ d ∈ ds, Dg d) (n : Nat) (hn : ds.length = n) (hs : n ≤ 1000000) : RdD w (.slice (some ⟨g, 0, none⟩) n n) ds := by
  subst hn
  refine ⟨_, _, _, rfl, rfl, Nat.le_refl _, by omega, hd, fun _ => ⟨g, 0, rfl, fun i hi => ?_⟩⟩
  intro j v hv
  have hj : j < 32 := by
    have := (List.getElem?_eq_some_iff.1 hv).1
    rw [List.length_map, List.getD_eq_getElem?_getD, List.getElem?_eq_getElem hi] at this
    rw [← (hd ds[i] (List.getElem_mem hi)).1]; exact this
  have hq := flatD_at (fun d hd' => (hd d hd').1) i hi j hj
  rw [Nat.zero_add, cell_of_row _ _ _ _ _ _ h, List.getElem?_toArray, hq]
  exact hv
theorem RdD.range {w : World} {ao : Option Addr} {n c : Nat} {ds : List (List Nat)} (h : RdD w (.slice ao n c) ds) (hp : 0 < ds.length) : ∃ b o, ao = some ⟨b, o, none⟩ ∧ ∀ i, i < ds.length → w.rangeAt b (o + i * 32) ((ds.getD i []).map u8) := by
  obtain ⟨_, _, _, e, h1, h2, h3, h4, h5⟩ := h
  cases e
  obtain ⟨b, o, e, hc⟩ := h5 (by omega)
  exact ⟨b, o, e, fun i hi => hc i (by omega)⟩

def e1 : List Nat := 1 :: List.replicate 31 0
def e2 : List Nat := 2 :: List.replicate 31 0
def e3 : List Nat := 3 :: List.replicate 31 0
theorem e_dg : ∀ d ∈ [e1, e2, e3], Dg d := by
  intro d hd
  simp only [List.mem_cons, List.not_mem_nil, or_false] at hd
  rcases hd with rfl | rfl | rfl <;> exact ⟨rfl, by decide⟩
theorem e_cut : [e1, e2, e3].map (cutL 4) = [e1, e2, e3] := by decide +kernel
theorem e_path : pathF 2 64 0 3 = [(0, 2)] := by decide +kernel
theorem e_seam : smL 1 3 = [(1, 2), (2, 3)] := by decide +kernel
theorem e_in : inD 4 [e1, e2, e3] 2 3 = [nodS 4 e1 e2] := by
  unfold inD
  rw [if_neg (by decide), e_path]
  unfold rgL
  rw [List.map_cons, List.map_nil]
  unfold rgD
  rw [if_neg (by decide), rngD_cut (by decide) (by decide)]
  rfl
theorem e_cs : csD 4 [e1, e2, e3] 1 3 = [e2, e3] := by
  unfold csD
  rw [if_neg (by decide), e_seam]
  rfl

end Go.Proofs.YtbljofojeagdkaaDoor
namespace Go.Proofs.YtbljofojeagdkaaDoor
open Go.RowKit Go.BigFrame
set_option linter.unusedVariables false
set_option linter.unusedSimpArgs false

theorem sumD_dgT (z : Int) (p : List Nat) : Dg (sumD z p) := ⟨sumD_len _ _, by
  unfold sumD
  split
  · exact cutL_byte _ _ (hash_byte _)
  · intro x hx; simp at hx; omega⟩
theorem sumD_formT {z : Int} (hw : widthB z = true) (p : List Nat) : formB z (sumD z p) = true := by
  obtain ⟨h1, h2⟩ : 1 ≤ z ∧ z ≤ 32 := by simpa [widthB] using hw
  unfold formB sumD
  rw [hw]
  simp only [if_true, Bool.true_and]
  rw [cutL_cutL _ _ (by rw [hash_len]; omega)]
  simp
theorem all_snoc {α : Type} {p : α → Bool} {l : List α} {x : α} (h : l.all p = true) (hx : p x = true) : (l ++ [x]).all p = true := by
  rw [List.all_append, h]
  simp [hx]

set_option maxRecDepth 100000 in
set_option maxHeartbeats 1000000 in
theorem leaves_any (k : Nat) (lv : Value) (ls : List (List Nat)) (n : Nat) (w : World) (h1 : 1 ≤ k) (h2 : k ≤ 32) (hl : RdD w lv ls) (hn : n ≤ 300) (hT : Tabs w) :
    Calls Tryd.prog 22 #[.int .i64 (k : Int), lv, .int .i64 (n : Int)] w fun e w' => ∃ u, e = .returned u ∧ ∃ ds, OwD w w' u ds ∧ ds.length = n ∧ ds.all (formB (k : Int)) = true := by
  have HTB := hide hT
  have HL := hide hl
  have HDG := hide (fun d hd => hl.dg (d := d) hd)
  have hwb : widthB (k : Int) = true := by simp [widthB]; omega
  have HWB := hide hwb
  obtain ⟨la, ll, lc, rfl, l1, l2, l3, -⟩ := hl
  subst l1
  clear hT hwb
  go_enter Tryd.func22, Tryd.ntmps22
  go_wp2_with fail
  go_loopw [7, 8] (fun t7 t8 wr => ∃ (i : Nat) (ds : List (List Nat)), i ≤ n ∧ t8 = .int .i64 (i : Int) ∧ Hid (OwD w wr t7 ds) ∧ Hid (ds.length = i) ∧ Hid (ds.all (formB (k : Int)) = true)) (fun _ t _ => n - (intOf t).toNat)
  case atStart => exact ⟨0, [], Nat.zero_le _, rfl, hide (OwD.nil _), hide rfl, hide rfl⟩
  case round =>
    obtain ⟨i, ds, hi, rfl, HO, HLN, HF⟩ := hrel
    by_cases hlt : i < n
    · have hlt' : (i : Int) < (n : Int) := by omega
      obtain ⟨ua, ucap, rfl⟩ := owns_form (unhide HO).own
      by_cases hin : i < ls.length
      · have hin' : (i : Int) < (ls.length : Int) := by omega
        obtain ⟨b, o, rfl, hc⟩ := ((unhide HL).old (unhide HO).kept).range (by omega)
        have HC := hide (hc i hin)
        have HDi := hide (unhide HDG (ls.getD i []) (by rw [List.getD_eq_getElem?_getD, List.getElem?_eq_getElem hin]; exact List.getElem_mem hin))
        generalize ls.getD i [] = d at HC HDi
        have hdl := (unhide HDi).1
        have ia : ¬ (i : Int) < 0 := by omega
        have ib : ¬ (ls.length : Int) ≤ i := by omega
        have HCT := hide (tcut_any k d wr h1 h2 hdl (unhide HDi).2)
        have HDX := hide (cut_dg h2 (unhide HDi))
        have HFX := hide (cut_form h1 h2 (unhide HDi))
        generalize cutL k d = X at HCT HDX HFX
        have hxl := (unhide HDX).1
        clear hc
        go_wp2_with (refine wpList_load_mid rfl 23 _ rfl b (o + i * 32) rfl (d.map Go.Proofs.YtbljofojeagdkaaDoor.u8) _ (unhide HC) Tryd.underlying23 rfl (by rw [List.length_map, hdl]; exact Tryd.size_dig) ?_)
        refine (unhide HCT).mono ?_
        rintro e wa ⟨rfl, ka⟩
        have HOB := hide ((unhide HO).pass ka)
        have HOC := hide ((unhide HOB).pass ((Kept.refl [] wa).alloc (.cells (brow X) 23)))
        have HNC := hide (heap_alloc_new wa (.cells (brow X) 23))
        clear ka HO
        rw [show (Value.agg (brow X)) = .agg (X.map Go.Proofs.YtbljofojeagdkaaDoor.u8).toArray from rfl]
        go_wp2_with (first
          | (at_builtin; rw [zb32, one_digP X hxl]; refine wpList_appendD rfl _ _ rfl rfl (wa.alloc (.cells (brow X) 23)) w.heap.size (.slice ua ds.length ucap) ds [X] (some ⟨wa.heap.size, 0, none⟩) 1 1 (unhide HOC).own (RdD.oneP (unhide HNC) (unhide HDX)) (by have := unhide HLN; simp; omega) (unhide HOC).kept.size rfl rfl ?_; intro ao3 cap3 w3 HO3 HG3; have HO4 := hide ((unhide HOC).push (unhide HDX) (unhide HO3) (unhide HG3)); clear HO3 HG3))
        go_roundw
        case rel => exact ⟨i + 1, ds ++ [X], by omega, by simp, HO4, hide (by rw [List.length_append, unhide HLN]; rfl), hide (all_snoc (unhide HF) (unhide HFX))⟩
        case measure => simp [intOf]; omega
      · have hin' : ¬ (i : Int) < (ls.length : Int) := by omega
        have HRB := hide (rd_lit (bs := [i % 256, i / 256]) (heap_alloc_new wr (.cells #[.int .u8 ((i : Int) % 256), .int .u8 ((i : Int) / 256)] 5)) (by simp) (by intro x hx; simp at hx; omega) 2 rfl (by omega))
        have HOA := hide ((unhide HO).pass ((Kept.refl [] wr).alloc (.cells #[.int .u8 ((i : Int) % 256), .int .u8 ((i : Int) / 256)] 5)))
        have HLF := hide (leaf_all (k : Int) _ _ _ (by omega) (unhide HRB) (by simp) ((unhide HTB).kept (unhide HOA).kept (by simp) (by simp)))
        have HDX := hide (sumD_dgT (k : Int) (0 :: [i % 256, i / 256]))
        have HFX := hide (sumD_formT (unhide HWB) (0 :: [i % 256, i / 256]))
        generalize sumD (k : Int) (0 :: [i % 256, i / 256]) = X at HLF HDX HFX
        generalize sumE (k : Int) = E at HLF
        have hxl := (unhide HDX).1
        clear HRB HO
        go_wp2_with fail
        refine (unhide HLF).mono ?_
        rintro e wa ⟨rfl, ka⟩
        have HOB := hide (((unhide HOA).pass ka).pass (kept_old wa X))
        have HN := hide (cell_new wa X)
        clear ka HOA HLF
        obtain ⟨wb, hwb⟩ : ∃ wb, (wa.alloc (.cells (zb 32) 23)).setRow wa.heap.size (brow X) = wb := ⟨_, rfl⟩
        rw [hwb] at HOB HN
        have HWB2 := hide hwb
        have HOC := hide ((unhide HOB).pass ((Kept.refl [] wb).alloc (.cells (brow X) 23)))
        have HNC := hide (heap_alloc_new wb (.cells (brow X) 23))
        clear hwb
        go_wp2_with (first
          | (rw [zb32]; refine wpList_store_row rfl 23 (.tmp 9) _ rfl wa.heap.size (brow X) rfl rfl _ (zb 32) (heap_alloc_new _ _) (Tryd.szD hxl) (by rw [zb_size, brow_size, hxl]) (brow_one _) ?_; rw [unhide HWB2])
          | (refine wpList_load_mid rfl 23 _ rfl wa.heap.size 0 rfl (X.map Go.Proofs.YtbljofojeagdkaaDoor.u8) _ (range_row (unhide HN)) Tryd.underlying23 rfl (by rw [List.length_map, hxl]; exact Tryd.size_dig) ?_)
          | (at_builtin; rw [zb32, one_digP X hxl]; refine wpList_appendD rfl _ _ rfl rfl (wb.alloc (.cells (brow X) 23)) w.heap.size (.slice ua ds.length ucap) ds [X] (some ⟨wb.heap.size, 0, none⟩) 1 1 (unhide HOC).own (RdD.oneP (unhide HNC) (unhide HDX)) (by have := unhide HLN; simp; omega) (unhide HOC).kept.size rfl rfl ?_; intro ao3 cap3 w3 HO3 HG3; have HO4 := hide ((unhide HOC).push (unhide HDX) (unhide HO3) (unhide HG3)); clear HO3 HG3))
        go_roundw
        case rel => exact ⟨i + 1, ds ++ [X], by omega, by simp, HO4, hide (by rw [List.length_append, unhide HLN]; rfl), hide (all_snoc (unhide HF) (unhide HFX))⟩
        case measure => simp [intOf]; omega
    · have hlt' : ¬ (i : Int) < (n : Int) := by omega
      have HE := hide (by have := unhide HLN; omega : ds.length = n)
      go_wp2_with fail
      go_ret
      exact ⟨_, rfl, ds, unhide HO, unhide HE, List.all_eq_true.1 (unhide HF)⟩
end Go.Proofs.YtbljofojeagdkaaDoor
namespace Go.Proofs.YtbljofojeagdkaaDoor
open Go Go.RowKit Go.BigFrame
set_option linter.unusedVariables false
set_option linter.unusedSimpArgs false

theorem wpQuiet_monoW {P : Program} {ops : Array Oper} {C : World → Prop} {Q Q' : Act → Prop} (h : ∀ a, Q a → Q' a) : ∀ (l : List Oper) (a : Act), wpQuiet P ops C Q l a → wpQuiet P ops C Q' l a
  | [], a, hh => h a hh
  | o :: r, a, hh => by
    unfold wpQuiet at hh ⊢
    split
    · rename_i hw
      rw [if_pos hw] at hh
      obtain ⟨v, h1, h2⟩ := hh
      exact ⟨v, h1, wpQuiet_monoW h r _ h2⟩
    · rename_i hw
      rw [if_neg hw] at hh
      exact wpQuiet_monoW h r _ hh
theorem wp_split18 {P : Program} {id : Nat} {Q : Exit → Act → World → Prop} {a : Act} {W : World} {l : List Oper} (hm : P.follows .mixedOrders = true) (hB : Region.lexB .any l.toArray = true)
    (ht : ∀ (v145 v146 v147 v148 v149 v150 v151 v152 v153 v154 v155 v156 v157 v158 v159 v160 v161 v162 v163 : Value) w', Kept [] W w' → Q .normal ((((((((((((((((((((a.put (some 145) v145).put (some 146) v146).put (some 147) v147).put (some 148) v148).put (some 149) v149).put (some 150) v150).put (some 151) v151).put (some 152) v152).put (some 153) v153).put (some 154) v154).put (some 155) v155).put (some 156) v156).put (some 157) v157).put (some 158) v158).put (some 159) v159).put (some 160) v160).put (some 161) v161).put (some 162) v162).put (some 163) v163).put (some 164) (.bool false)) w')
    (hr : wpQuiet P l.toArray (fun w' => Kept [] W w') (fun a' => ∃ v145 v146 v147 v148 v149 v150 v151 v152 v153 v154 v155 v156 v157 v158 v159 v160 v161 v162 v163 : Value, a' = ((((((((((((((((((((a.put (some 145) v145).put (some 146) v146).put (some 147) v147).put (some 148) v148).put (some 149) v149).put (some 150) v150).put (some 151) v151).put (some 152) v152).put (some 153) v153).put (some 154) v154).put (some 155) v155).put (some 156) v156).put (some 157) v157).put (some 158) v158).put (some 159) v159).put (some 160) v160).put (some 161) v161).put (some 162) v162).put (some 163) v163).put (some 164) (.bool false))) l a) : (Code.region id l.toArray true).wp P Q a W := by
  refine wp_region_keep hm hB ?_
  refine wpQuiet_monoW ?_ _ _ hr
  rintro a' ⟨v145, v146, v147, v148, v149, v150, v151, v152, v153, v154, v155, v156, v157, v158, v159, v160, v161, v162, v163, rfl⟩ w' hw'
  exact ht v145 v146 v147 v148 v149 v150 v151 v152 v153 v154 v155 v156 v157 v158 v159 v160 v161 v162 v163 w' hw'

end Go.Proofs.YtbljofojeagdkaaDoor
namespace Go.Proofs.YtbljofojeagdkaaDoor
open Go.RowKit Go.BigFrame
set_option linter.unusedVariables false
set_option linter.unusedSimpArgs false

theorem wpList_load_midG {P : Program} {ops : Array Oper} {rest : List Oper} {op : Oper} {a : Act} {w : World} {Q : Exit → Act → World → Prop} (hw : Region.wanted op (yielded ops a.tmps) = true) (ty : TypeId) (x : Operand) (ho : op.op = .load ty x)
    (b o : Nat) (hx : a.eval x = .pointer (some ⟨b, o, none⟩)) (cs : List Value) (d : TypeDesc) (hc : w.rangeAt b o cs)
    (hu : P.underlying ty = some d) (hd : d.isRow = true) (hi : (P.info? ty).map (·.size) = some cs.length)
    (h : wpList P ops Q rest (a.put op.dst (.agg cs.toArray)) w) : wpList P ops Q (op :: rest) a w :=
  wpList_want hw fun _ hK => wp_load_mid ty x ho b o hx cs d hc hu hd hi (hK _ _ h)
def dX : List Nat := 1 :: 2 :: 3 :: 4 :: List.replicate 28 0
def dY : List Nat := 5 :: 6 :: 7 :: 8 :: List.replicate 28 0
def dXY : List Nat := 62 :: 68 :: 92 :: 222 :: List.replicate 28 0
def dYX : List Nat := 40 :: 116 :: 230 :: 72 :: List.replicate 28 0
theorem dX_dg : Dg dX := ⟨rfl, by decide⟩
theorem dY_dg : Dg dY := ⟨rfl, by decide⟩
theorem nod_xy : nodS 4 dX dY = dXY := by
  have e0 : nodeB 4 dX dY = [1, 1, 2, 3, 4, 5, 6, 7, 8] := by decide
  unfold nodS sumD
  rw [e0, if_pos (by decide)]
  unfold hash hashW
  have e : [1, 1, 2, 3, 4, 5, 6, 7, 8] ++ pad [1, 1, 2, 3, 4, 5, 6, 7, 8].length = [1, 1, 2, 3, 4, 5, 6, 7, 8, 128] ++ List.replicate 53 0 ++ [72] := by decide
  rw [e, chain_step (by decide), chain_short (by decide), ← evC_eq]
  decide +kernel
theorem nod_yx : nodS 4 dY dX = dYX := by
  have e0 : nodeB 4 dY dX = [1, 5, 6, 7, 8, 1, 2, 3, 4] := by decide
  unfold nodS sumD
  rw [e0, if_pos (by decide)]
  unfold hash hashW
  have e : [1, 5, 6, 7, 8, 1, 2, 3, 4] ++ pad [1, 5, 6, 7, 8, 1, 2, 3, 4].length = [1, 5, 6, 7, 8, 1, 2, 3, 4, 128] ++ List.replicate 53 0 ++ [72] := by decide
  rw [e, chain_step (by decide), chain_short (by decide), ← evC_eq]
  decide +kernel
theorem spl2 : spl 2 = 1 := by decide
theorem form4 : formedE 4 [dX, dY] = 0 := by decide
theorem aw_root1 : rootE 4 dX 1 2 [dY] = 0 ∧ rootD 4 dX 1 2 [dY] = dYX := by
  have h := rootE_c (z := 4) (leaf := dX) (i := 1) (n := 2) (p := [dY]) form4 (by decide)
  have e : clD 4 dX [dY].reverse 1 2 = some dYX := by
    show clD 4 dX [dY] 1 2 = _
    simp [clD, spl2, nod_yx]
  rw [e] at h
  exact h
theorem aw_root0 : rootE 4 dX 0 2 [dY] = 0 ∧ rootD 4 dX 0 2 [dY] = dXY := by
  have h := rootE_c (z := 4) (leaf := dX) (i := 0) (n := 2) (p := [dY]) form4 (by decide)
  have e : clD 4 dX [dY].reverse 0 2 = some dXY := by
    show clD 4 dX [dY] 0 2 = _
    simp [clD, spl2, nod_xy]
  rw [e] at h
  exact h
theorem aw_roots : rootsE 4 dX 1 2 [dY] = 0 ∧ rootsD 4 dX 1 2 [dY] = (dX, dXY) := by
  have h := rootsE_c (z := 4) (old := dX) (m := 1) (n := 2) (p := [dY]) form4 (by decide)
  have e : twD 4 dX [dY].reverse 1 2 true = some (dX, dXY) := by
    show twD 4 dX [dY] 1 2 true = _
    simp [twD, spl2, nod_xy]
  rw [e] at h
  exact h
theorem aw_inc : incE 4 dX 1 2 [dY] dXY = 10 := by
  unfold incE
  rw [show formedE 4 [dX, dXY, dY] = 0 by decide, aw_root1.1, aw_root1.2]
  decide

set_option maxRecDepth 100000 in
set_option maxHeartbeats 2000000 in
theorem mawake_any (w : World) (hT : Tabs w) :
    Calls Tryd.prog 6 #[] w fun e w' => e = .returned (.bool true) ∧ Kept [] w w' := by
  have HT := hide hT
  clear hT
  have hyl : dY.length = 32 := rfl
  go_enter Tryd.func6, Tryd.ntmps6
  have HA0 := hide (((Kept.refl [] (w.alloc (.cells (zb 32) 23))).alloc (.cells (zb 32) 23)).heap (heap_alloc_new w (.cells (zb 32) 23)) (by simp))
  have HA1 := hide (alloc_at w (.cells (zb 32) 23) (.cells (zb 32) 23))
  obtain ⟨W0, hW0⟩ : ∃ W0, (w.alloc (.cells (zb 32) 23)).alloc (.cells (zb 32) 23) = W0 := ⟨_, rfl⟩
  have HK0 := hide (by rw [← hW0]; exact (((Kept.refl [] w).alloc (.cells (zb 32) 23)).alloc (.cells (zb 32) 23)) : Kept [] w W0)
  rw [hW0] at HA0 HA1
  have hsz : W0.heap.size = w.heap.size + 1 + 1 := by rw [← hW0]; simp
  have HB1 := hide ((setRow_other W0 w.heap.size (w.heap.size + 1) (brow dX) (by omega)).trans (unhide HA1))
  have HX1 := hide ((setRow_other (W0.setRow w.heap.size (brow dX)) (w.heap.size + 1) w.heap.size (brow dY) (by omega)).trans (setRow_heap W0 _ _ (brow dX) _ _ (unhide HA0)))
  have HY1 := hide (setRow_heap (W0.setRow w.heap.size (brow dX)) _ _ (brow dY) _ _ (unhide HB1))
  have HK1 := hide (((unhide HK0).setRow (g := w.heap.size) (Or.inr (by omega)) (brow dX)).setRow (g := w.heap.size + 1) (Or.inr (by omega)) (brow dY))
  go_wp2_with (first
    | (refine wpList_build_as rfl 23 #[(0, .const (.int .u8 1)), (1, .const (.int .u8 2)), (2, .const (.int .u8 3)), (3, .const (.int .u8 4))] rfl (brow dX) (by kernel_rfl) ?_)
    | (refine wpList_build_as rfl 23 #[(0, .const (.int .u8 5)), (1, .const (.int .u8 6)), (2, .const (.int .u8 7)), (3, .const (.int .u8 8))] rfl (brow dY) (by kernel_rfl) ?_)
    | (rw [zb32, hW0]; refine wpList_store_row rfl 23 _ _ rfl w.heap.size (brow dX) rfl rfl _ (zb 32) (unhide HA0) (by kernel_rfl) (by kernel_rfl) (brow_one _) ?_)
    | (refine wpList_store_row rfl 23 _ _ rfl (w.heap.size + 1) (brow dY) rfl rfl _ (zb 32) (unhide HB1) (by kernel_rfl) (by kernel_rfl) (brow_one _) ?_)
    | (refine wpList_load_row rfl 23 _ rfl w.heap.size rfl _ (brow dX) (0, 0) _ (unhide HX1) Tryd.underlying23 rfl (by kernel_rfl) ?_)
    | (refine wpList_load_mid rfl 23 _ rfl (w.heap.size + 1) 0 rfl (dY.map u8) _ (range_row (unhide HY1)) Tryd.underlying23 rfl (by kernel_rfl) ?_))
  rw [zb32, one_dig dY rfl]
  obtain ⟨W1, hW1⟩ : ∃ W1, (W0.setRow w.heap.size (brow dX)).setRow (w.heap.size + 1) (brow dY) = W1 := ⟨_, rfl⟩
  have hs1 : w.heap.size + 1 + 1 = W1.heap.size := by rw [← hW1, ← hsz]; simp
  rw [hW1] at HX1 HY1 HK1
  rw [hW1, hs1]
  clear hW1 hW0 HA0 HA1 HB1 HK0
  have kc2 := (Kept.refl [] W1).alloc (.cells (brow dY) 23)
  refine Calls.mono (rootOf_any 4 dX 1 2 _ [dY] _ (by decide) dX_dg (by decide) (by decide) (RdD.one (heap_alloc_new W1 _) dY_dg) ((unhide HT).k ((unhide HK1).trans kc2 (by simp)))) ?_
  rintro e w2 ⟨rfl, k2⟩
  rw [aw_root1.1, aw_root1.2]
  have kk2 := kc2.trans k2 (by simp)
  have HK2 := hide ((unhide HK1).trans kk2 (by simp))
  have HX2 := hide (kk2.heap (unhide HX1) (by simp))
  have HY2 := hide (kk2.heap (unhide HY1) (by simp))
  clear kc2 k2 kk2 HX1 HY1
  have kd := ((Kept.refl [] w2).alloc (.cells (zb 32) 23)).setRow (g := w2.heap.size) (Or.inr (Nat.le_refl _)) (brow dYX)
  have HDd := hide (setRow_heap (w2.alloc (.cells (zb 32) 23)) w2.heap.size (zb 32) (brow dYX) 23 (0, 0) (heap_alloc_new _ _))
  have HX3 := hide (kd.heap (unhide HX2) (by simp))
  have HY3 := hide (kd.heap (unhide HY2) (by simp))
  have HK3 := hide ((unhide HK2).trans kd (by simp))
  clear kd HX2 HY2
  go_wp2_with (first
    | (rw [zb32]; refine wpList_store_row rfl 23 _ _ rfl w2.heap.size (brow dYX) rfl rfl _ (zb 32) (heap_alloc_new _ _) (by kernel_rfl) (by kernel_rfl) (brow_one _) ?_)
    | (refine wpList_load_row rfl 23 _ rfl w.heap.size rfl _ (brow dX) (0, 0) _ (unhide HX3) Tryd.underlying23 rfl (by kernel_rfl) ?_)
    | (refine wpList_load_mid rfl 23 _ rfl (w.heap.size + 1) 0 rfl (dY.map u8) _ (range_row (unhide HY3)) Tryd.underlying23 rfl (by kernel_rfl) ?_))
  rw [zb32, one_dig dY rfl]
  obtain ⟨W3, hW3⟩ : ∃ W3, (w2.alloc (.cells (zb 32) 23)).setRow w2.heap.size (brow dYX) = W3 := ⟨_, rfl⟩
  have hs3 : w2.heap.size + 1 = W3.heap.size := by rw [← hW3]; simp
  rw [hW3] at HX3 HY3 HK3 HDd
  rw [hW3, hs3]
  clear hW3
  have kc4 := (Kept.refl [] W3).alloc (.cells (brow dY) 23)
  refine Calls.mono (rootsOf_any 4 1 2 dX _ [dY] _ (by decide) dX_dg (by decide) (by decide) (RdD.one (heap_alloc_new W3 _) dY_dg) ((unhide HT).k ((unhide HK3).trans kc4 (by simp)))) ?_
  rintro e w4 ⟨rfl, k4⟩
  rw [aw_roots.1, aw_roots.2]
  have kk4 := kc4.trans k4 (by simp)
  have HK4 := hide ((unhide HK3).trans kk4 (by simp))
  have HX4 := hide (kk4.heap (unhide HX3) (by simp))
  have HY4 := hide (kk4.heap (unhide HY3) (by simp))
  have HD4 := hide (kk4.heap (unhide HDd) (by simp))
  clear kc4 k4 kk4 HX3 HY3 HDd
  have ka := (((Kept.refl [] w4).alloc (.cells (zb 32) 23)).alloc (.cells (zb 32) 23))
  have kab := (ka.setRow (g := w4.heap.size) (Or.inr (Nat.le_refl _)) (brow dX)).setRow (g := w4.heap.size + 1) (Or.inr (by omega)) (brow dXY)
  have HA0 := hide (((Kept.refl [] (w4.alloc (.cells (zb 32) 23))).alloc (.cells (zb 32) 23)).heap (heap_alloc_new w4 (.cells (zb 32) 23)) (by simp))
  have HB0 := hide ((setRow_other ((w4.alloc (.cells (zb 32) 23)).alloc (.cells (zb 32) 23)) w4.heap.size (w4.heap.size + 1) (brow dX) (by omega)).trans (alloc_at w4 (.cells (zb 32) 23) (.cells (zb 32) 23)))
  have HA5 := hide ((setRow_other (((w4.alloc (.cells (zb 32) 23)).alloc (.cells (zb 32) 23)).setRow w4.heap.size (brow dX)) (w4.heap.size + 1) w4.heap.size (brow dXY) (by omega)).trans (setRow_heap _ _ _ (brow dX) _ _ (unhide HA0)))
  have HB5 := hide (setRow_heap (((w4.alloc (.cells (zb 32) 23)).alloc (.cells (zb 32) 23)).setRow w4.heap.size (brow dX)) _ _ (brow dXY) _ _ (unhide HB0))
  have HX5 := hide (kab.heap (unhide HX4) (by simp))
  have HY5 := hide (kab.heap (unhide HY4) (by simp))
  have HD5 := hide (kab.heap (unhide HD4) (by simp))
  have HK5 := hide ((unhide HK4).trans kab (by simp))
  clear ka kab HX4 HY4 HD4
  go_wp2_with (first
    | (rw [zb32]; refine wpList_store_row rfl 23 _ _ rfl w4.heap.size (brow dX) rfl rfl _ (zb 32) (unhide HA0) (by kernel_rfl) (by kernel_rfl) (brow_one _) ?_)
    | (refine wpList_store_row rfl 23 _ _ rfl (w4.heap.size + 1) (brow dXY) rfl rfl _ (zb 32) (unhide HB0) (by kernel_rfl) (by kernel_rfl) (brow_one _) ?_)
    | (refine wpList_load_row rfl 23 _ rfl w.heap.size rfl _ (brow dX) (0, 0) _ (unhide HX5) Tryd.underlying23 rfl (by kernel_rfl) ?_)
    | (refine wpList_load_mid rfl 23 _ rfl (w.heap.size + 1) 0 rfl (dY.map u8) _ (range_row (unhide HY5)) Tryd.underlying23 rfl (by kernel_rfl) ?_))
  rw [zb32, one_dig dY rfl]
  obtain ⟨W5, hW5⟩ : ∃ W5, (((w4.alloc (.cells (zb 32) 23)).alloc (.cells (zb 32) 23)).setRow w4.heap.size (brow dX)).setRow (w4.heap.size + 1) (brow dXY) = W5 := ⟨_, rfl⟩
  have hs5 : w4.heap.size + 1 + 1 = W5.heap.size := by rw [← hW5]; simp
  rw [hW5] at HX5 HY5 HK5 HD5 HA5 HB5
  rw [hW5, hs5]
  clear hW5 HA0 HB0
  have kc6 := (Kept.refl [] W5).alloc (.cells (brow dY) 23)
  refine Calls.mono (docRootOf_any 4 dX 1 2 _ [dY] _ (by decide) dX_dg (by decide) (by decide) (RdD.one (heap_alloc_new W5 _) dY_dg) (by decide)) ?_
  rintro e w6 ⟨rfl, k6⟩
  rw [aw_root1.1, aw_root1.2]
  have kk6 := kc6.trans k6 (by simp)
  have HK6 := hide ((unhide HK5).trans kk6 (by simp))
  have HX6 := hide (kk6.heap (unhide HX5) (by simp))
  have HY6 := hide (kk6.heap (unhide HY5) (by simp))
  have HD6 := hide (kk6.heap (unhide HD5) (by simp))
  have HA6 := hide (kk6.heap (unhide HA5) (by simp))
  have HB6 := hide (kk6.heap (unhide HB5) (by simp))
  clear kc6 k6 kk6 HX5 HY5 HD5 HA5 HB5
  have kk7 := ((Kept.refl [] w6).alloc (.cells (zb 32) 23)).setRow (g := w6.heap.size) (Or.inr (Nat.le_refl _)) (brow dYX)
  have HS7 := hide (setRow_heap (w6.alloc (.cells (zb 32) 23)) w6.heap.size (zb 32) (brow dYX) 23 (0, 0) (heap_alloc_new _ _))
  have HK7 := hide ((unhide HK6).trans kk7 (by simp))
  have HX7 := hide (kk7.heap (unhide HX6) (by simp))
  have HY7 := hide (kk7.heap (unhide HY6) (by simp))
  have HD7 := hide (kk7.heap (unhide HD6) (by simp))
  have HA7 := hide (kk7.heap (unhide HA6) (by simp))
  have HB7 := hide (kk7.heap (unhide HB6) (by simp))
  clear kk7 HX6 HY6 HD6 HA6 HB6
  go_wp2_with (first
    | (rw [zb32]; refine wpList_store_row rfl 23 _ _ rfl w6.heap.size (brow dYX) rfl rfl _ (zb 32) (heap_alloc_new _ _) (by kernel_rfl) (by kernel_rfl) (brow_one _) ?_)
    | (refine wpList_load_row rfl 23 _ rfl w.heap.size rfl _ (brow dX) (0, 0) _ (unhide HX7) Tryd.underlying23 rfl (by kernel_rfl) ?_)
    | (refine wpList_load_mid rfl 23 _ rfl (w.heap.size + 1) 0 rfl (dY.map u8) _ (range_row (unhide HY7)) Tryd.underlying23 rfl (by kernel_rfl) ?_))
  rw [zb32, one_dig dY rfl]
  obtain ⟨W7, hW7⟩ : ∃ W7, (w6.alloc (.cells (zb 32) 23)).setRow w6.heap.size (brow dYX) = W7 := ⟨_, rfl⟩
  have hs7 : w6.heap.size + 1 = W7.heap.size := by rw [← hW7]; simp
  rw [hW7] at HK7 HX7 HY7 HD7 HA7 HB7 HS7
  rw [hW7, hs7]
  clear hW7
  have kc8 := (Kept.refl [] W7).alloc (.cells (brow dY) 23)
  refine Calls.mono (docRootOf_any 4 dX 0 2 _ [dY] _ (by decide) dX_dg (by decide) (by decide) (RdD.one (heap_alloc_new W7 _) dY_dg) (by decide)) ?_
  rintro e w8 ⟨rfl, k8⟩
  rw [aw_root0.1, aw_root0.2]
  have kk8 := kc8.trans k8 (by simp)
  have HK8 := hide ((unhide HK7).trans kk8 (by simp))
  have HX8 := hide (kk8.heap (unhide HX7) (by simp))
  have HY8 := hide (kk8.heap (unhide HY7) (by simp))
  have HD8 := hide (kk8.heap (unhide HD7) (by simp))
  have HA8 := hide (kk8.heap (unhide HA7) (by simp))
  have HB8 := hide (kk8.heap (unhide HB7) (by simp))
  have HS8 := hide (kk8.heap (unhide HS7) (by simp))
  clear kc8 k8 kk8 HX7 HY7 HD7 HA7 HB7 HS7
  have kk9 := ((Kept.refl [] w8).alloc (.cells (zb 32) 23)).setRow (g := w8.heap.size) (Or.inr (Nat.le_refl _)) (brow dXY)
  have HT9 := hide (setRow_heap (w8.alloc (.cells (zb 32) 23)) w8.heap.size (zb 32) (brow dXY) 23 (0, 0) (heap_alloc_new _ _))
  have HK9 := hide ((unhide HK8).trans kk9 (by simp))
  have HX9 := hide (kk9.heap (unhide HX8) (by simp))
  have HY9 := hide (kk9.heap (unhide HY8) (by simp))
  have HD9 := hide (kk9.heap (unhide HD8) (by simp))
  have HA9 := hide (kk9.heap (unhide HA8) (by simp))
  have HB9 := hide (kk9.heap (unhide HB8) (by simp))
  have HS9 := hide (kk9.heap (unhide HS8) (by simp))
  clear kk9 HX8 HY8 HD8 HA8 HB8 HS8
  have hq1 : ∀ W, (Op.equalIn 10000 23 (.agg (brow dYX)) (.agg (brow dYX))).run Tryd.prog W = .ok true W := fun W => by have := dig_eq W dYX dYX rfl rfl; rwa [decide_eq_true rfl] at this
  have hq2 : ∀ W, (Op.equalIn 10000 23 (.agg (brow dX)) (.agg (brow dX))).run Tryd.prog W = .ok true W := fun W => by have := dig_eq W dX dX rfl rfl; rwa [decide_eq_true rfl] at this
  have hq3 : ∀ W, (Op.equalIn 10000 23 (.agg (brow dXY)) (.agg (brow dXY))).run Tryd.prog W = .ok true W := fun W => by have := dig_eq W dXY dXY rfl rfl; rwa [decide_eq_true rfl] at this
  have hq4 : ∀ W, (Op.equalIn 10000 23 (.agg (brow dYX)) (.agg (zb 32))).run Tryd.prog W = .ok false W := fun W => by have := dig_eq W dYX zD rfl rfl; rw [decide_eq_false (by decide)] at this; exact this
  rw [← zb32] at hq4
  have HT9' := hide (((Kept.refl [] ((w8.alloc (.cells (zb 32) 23)).setRow w8.heap.size (brow dXY))).alloc (.cells (brow dY) 23)).heap (unhide HT9) (by simp))
  go_wp2_with (first
    | (rw [zb32]; refine wpList_store_row rfl 23 _ _ rfl w8.heap.size (brow dXY) rfl rfl _ (zb 32) (heap_alloc_new _ _) (by kernel_rfl) (by kernel_rfl) (brow_one _) ?_)
    | (refine wpList_load_rowG rfl 23 (.tmp 3) rfl w2.heap.size rfl _ (brow dYX) (0, 0) _ (unhide HD9) Tryd.underlying23 rfl (by kernel_rfl) ?_)
    | (refine wpList_load_rowG rfl 23 (.tmp 8) rfl w6.heap.size rfl _ (brow dYX) (0, 0) _ (unhide HS9) Tryd.underlying23 rfl (by kernel_rfl) ?_)
    | (refine wpList_load_rowG rfl 23 (.tmp 5) rfl w4.heap.size rfl _ (brow dX) (0, 0) _ (unhide HA9) Tryd.underlying23 rfl (by kernel_rfl) ?_)
    | (refine wpList_load_rowG rfl 23 (.tmp 1) rfl w.heap.size rfl _ (brow dX) (0, 0) _ (unhide HX9) Tryd.underlying23 rfl (by kernel_rfl) ?_)
    | (refine wpList_load_rowG rfl 23 (.tmp 6) rfl (w4.heap.size + 1) rfl _ (brow dXY) (0, 0) _ (unhide HB9) Tryd.underlying23 rfl (by kernel_rfl) ?_)
    | (refine wpList_load_rowG rfl 23 (.tmp 10) rfl w8.heap.size rfl _ (brow dXY) (0, 0) _ (unhide HT9) Tryd.underlying23 rfl (by kernel_rfl) ?_)
    | (rw [zb32, one_dig dY rfl]; refine wpList_load_rowG rfl 23 (.tmp 10) rfl w8.heap.size rfl _ (brow dXY) (0, 0) _ (unhide HT9') Tryd.underlying23 rfl (by kernel_rfl) ?_)
    | (refine wpList_load_midG rfl 23 (.tmp 2) rfl (w.heap.size + 1) 0 rfl (dY.map u8) _ (range_row (unhide HY9)) Tryd.underlying23 rfl (by kernel_rfl) ?_))
  clear hq1 hq2 hq3 hq4 HT9'
  obtain ⟨W9, hW9⟩ : ∃ W9, (w8.alloc (.cells (zb 32) 23)).setRow w8.heap.size (brow dXY) = W9 := ⟨_, rfl⟩
  have hs9 : w8.heap.size + 1 = W9.heap.size := by rw [← hW9]; simp
  rw [hW9] at HK9
  rw [hW9, hs9]
  clear hW9 HX9 HY9 HD9 HA9 HB9 HS9 HT9
  have kc := (Kept.refl [] W9).alloc (.cells (brow dY) 23)
  refine Calls.mono (inclusion_any 4 dX 1 2 _ [dY] dXY _ (by decide) dX_dg ⟨rfl, by decide⟩ (by decide) (by decide) (RdD.one (heap_alloc_new W9 _) dY_dg) ((unhide HT).k ((unhide HK9).trans kc (by simp)))) ?_
  rintro e w10 ⟨rfl, k10⟩
  have HK10 := hide (((unhide HK9).trans kc (by simp)).trans k10 (by simp))
  rw [aw_inc]
  clear k10 kc
  go_wp2
  go_ret
  exact ⟨rfl, unhide HK10⟩
end Go.Proofs.YtbljofojeagdkaaDoor
namespace Go.Proofs.YtbljofojeagdkaaDoor
open Go.RowKit Go.BigFrame
set_option linter.unusedVariables false
set_option linter.unusedSimpArgs false

theorem nil_of_len {p : List (List Nat)} : p = [] ↔ p.length = 0 := by cases p <;> simp

set_option maxRecDepth 100000 in
set_option maxHeartbeats 8000000 in
theorem consistency_any (z : Int) (m n : Nat) (leaf root : List Nat) (pv : Value) (p : List (List Nat)) (w : World) (hz : -9223372036854775808 ≤ z ∧ z ≤ 9223372036854775807) (hl : Dg leaf) (hr : Dg root) (hi : m < 18446744073709551616) (hn : n < 18446744073709551616) (hp : RdD w pv p) (hT : Tabs w) :
    Calls Tryd.prog 13 #[.int .i64 z, .int .u64 m, .int .u64 n, .agg (brow leaf), .agg (brow root), pv] w fun e w' => e = .returned (.int .i64 (conE z m n leaf root p)) ∧ Kept [] w w' := by
  have HP := hide hp
  obtain ⟨ao, len, cap, rfl, h1, h2, h3, h4, h5⟩ := hp
  clear h4 h5
  subst h1
  have HT := hide hT
  have HL := hide hl
  have HR := hide hr
  have hll := hl.1
  have hrl := hr.1
  have hlb := hl.2
  have hrb := hr.2
  clear hT
  obtain ⟨E, hE⟩ : ∃ E, conE z m n leaf root p = E := ⟨_, rfl⟩
  have HE := hide hE
  rw [hE]
  clear hE
  go_enter Tryd.func13, Tryd.ntmps13
  have HGL := hide (((Kept.refl [] (w.alloc (.cells (brow leaf) 23))).alloc (.cells (brow root) 23)).heap (heap_alloc_new w (.cells (brow leaf) 23)) (by simp))
  have HGR := hide (alloc_at w (.cells (brow leaf) 23) (.cells (brow root) 23))
  have HK0 := hide (((Kept.refl [] w).alloc (.cells (brow leaf) 23)).alloc (.cells (brow root) 23))
  have HSL := hide (by rw [List.length_map, hll]; exact Tryd.size_dig : (Tryd.prog.info? 23).map (·.size) = some (leaf.map u8).length)
  have HSM := hide (by rw [List.length_map, hrl]; exact Tryd.size_dig : (Tryd.prog.info? 23).map (·.size) = some (root.map u8).length)
  have hfs : ∀ A : Array Value, (List.foldl (fun cs x => cs.setIfInBounds x.snd x.fst) A (List.map u8 leaf).zipIdx).size = A.size := fun A => fold_size _ A 0
  go_wp2_with (first
    | (refine wpList_load_mid rfl 23 _ rfl w.heap.size 0 rfl (leaf.map u8) _ (range_row (unhide HGL)) Tryd.underlying23 rfl (unhide HSL) ?_)
    | (refine wpList_load_mid rfl 23 _ rfl (w.heap.size + 1) 0 rfl (root.map u8) _ (range_row (unhide HGR)) Tryd.underlying23 rfl (unhide HSM) ?_))
  rw [zb64, two_digs leaf root hll hrl]
  clear hfs
  have k0 := (Kept.refl [] ((w.alloc (.cells (brow leaf) 23)).alloc (.cells (brow root) 23))).alloc (.cells (leaf.map u8 ++ root.map u8).toArray 23)
  refine Calls.mono (mformed_any z _ _ p [leaf, root] _ hz ((unhide HP).old ((unhide HK0).trans k0 (by simp))) (RdD.two (alloc3_at _ _ _ _) hll hrl hlb hrb)) ?_
  rintro e w1 ⟨rfl, k1⟩
  have k01 := k0.trans k1 (by simp)
  have HK1 := hide ((unhide HK0).trans k01 (by simp))
  have HL1 := hide (k01.heap (unhide HGL) (by simp))
  have HR1 := hide (k01.heap (unhide HGR) (by simp))
  clear k0 k1 k01 HGL HGR
  obtain ⟨f, hf⟩ : ∃ f, formedE z ([leaf, root] ++ p) = f := ⟨_, rfl⟩
  have HF := hide (show formedE z (leaf :: root :: p) = f from hf)
  rw [hf]
  clear hf
  by_cases hf0 : f = 0
  · subst hf0
    obtain ⟨hw, hff⟩ := formedE_zero (unhide HF)
    have HWW := hide hw
    clear hff
    have HE0 := hide (by rw [← unhide HE]; unfold conE; rw [if_neg (by rw [unhide HF]; simp)] : E = if n < m then 4 else if m = n then (if p = [] ∧ leaf = root then 0 else 10) else if m = 0 then (if p = [] ∧ leaf = sumD z [] then 0 else 10) else if rootsE z leaf m n p ≠ 0 then rootsE z leaf m n p else if (rootsD z leaf m n p).1 = leaf ∧ (rootsD z leaf m n p).2 = root then 0 else 10)
    by_cases hgt : n < m
    · have hgt' : (n : Int) < m := by omega
      have HC := hide (by rw [unhide HE0, if_pos hgt] : E = 4)
      go_wp2
      go_ret
      exact ⟨by rw [unhide HC]; rfl, unhide HK1⟩
    · have hgt' : ¬ (n : Int) < m := by omega
      by_cases hmn : m = n
      · have hmn' : ((m : Int) == n) = true := by simp; omega
        have hqd : ∀ W, (Op.equalIn 10000 23 (.agg (leaf.map u8).toArray) (.agg (root.map u8).toArray)).run Tryd.prog W = .ok (decide (leaf = root)) W := fun W => dig_eq W leaf root hll hrl
        by_cases hp0 : p.length = 0
        · have hp0' : ((p.length : Int) == 0) = true := by rw [beq_iff_eq]; omega
          have HC := hide (by rw [unhide HE0, if_neg hgt, if_pos hmn]; by_cases h9 : leaf = root; rw [if_pos ⟨nil_of_len.2 hp0, h9⟩]; simp [prE, h9]; rw [if_neg (fun h => h9 h.2)]; simp [prE, h9] : E = prE (decide (leaf = root)))
          go_wp2_with (first
            | (refine wpList_load_midG rfl 23 _ rfl w.heap.size 0 rfl (leaf.map u8) _ (range_row (unhide HL1)) Tryd.underlying23 rfl (unhide HSL) ?_)
            | (refine wpList_load_midG rfl 23 _ rfl (w.heap.size + 1) 0 rfl (root.map u8) _ (range_row (unhide HR1)) Tryd.underlying23 rfl (unhide HSM) ?_))
          refine Calls.mono (proven_any (decide (leaf = root)) _) ?_
          rintro e w9 ⟨rfl, rfl⟩
          generalize hB9 : prE (decide (leaf = root)) = B9
          rw [hB9] at HC
          clear hB9
          go_wp2
          go_ret
          exact ⟨by rw [unhide HC]; rfl, unhide HK1⟩
        · have hp0' : ((p.length : Int) == 0) = false := by rw [beq_eq_false_iff_ne]; omega
          have HC := hide (by rw [unhide HE0, if_neg hgt, if_pos hmn, if_neg (fun h => hp0 (nil_of_len.1 h.1))]; rfl : E = prE false)
          go_wp2_with fail
          refine Calls.mono (proven_any false _) ?_
          rintro e w9 ⟨rfl, rfl⟩
          generalize hB9 : prE false = B9
          rw [hB9] at HC
          clear hB9
          go_wp2
          go_ret
          exact ⟨by rw [unhide HC]; rfl, unhide HK1⟩
      · have hmn' : ((m : Int) == n) = false := by simp; omega
        by_cases hm0 : m = 0
        · have hm0' : ((m : Int) == 0) = true := by simp; omega
          have hwd : 1 ≤ z ∧ z ≤ 32 := by simpa [widthB] using hw
          go_wp2_with fail
          refine Calls.mono (nolog_any z _ hz hw ((unhide HT).k (unhide HK1))) ?_
          rintro e w2 ⟨rfl, k2⟩
          have HNL := hide (by unfold sumD; rw [if_pos hw] : sumD z [] = cutL z.toNat (hash []))
          have hnl := cutL_len z.toNat (hash []) (by omega) (hash_len [])
          obtain ⟨D, hD⟩ : ∃ D, cutL z.toNat (hash []) = D := ⟨_, rfl⟩
          rw [hD] at HNL hnl ⊢
          clear hD
          have HSD := hide (by rw [List.length_map, hnl]; exact Tryd.size_dig : (Tryd.prog.info? 23).map (·.size) = some (D.map u8).length)
          have kN := ((Kept.refl [] w2).alloc (.cells (zb 32) 23)).setRow (g := w2.heap.size) (Or.inr (Nat.le_refl _)) (brow D)
          have HN3 := hide (range_row (setRow_heap (w2.alloc (.cells (zb 32) 23)) w2.heap.size (zb 32) (brow D) 23 (0, 0) (heap_alloc_new _ _)))
          have kk := k2.trans kN (by simp)
          have HL3 := hide (range_row (kk.heap (unhide HL1) (by simp)))
          have HK3 := hide ((unhide HK1).trans kk (by simp))
          clear k2 kN kk
          have hqd : ∀ W, (Op.equalIn 10000 23 (.agg (leaf.map u8).toArray) (.agg (D.map u8).toArray)).run Tryd.prog W = .ok (decide (leaf = D)) W := fun W => dig_eq W leaf D hll hnl
          by_cases hp0 : p.length = 0
          · have hp0' : ((p.length : Int) == 0) = true := by rw [beq_iff_eq]; omega
            have HC := hide (by rw [unhide HE0, if_neg hgt, if_neg hmn, if_pos hm0, unhide HNL]; by_cases h9 : leaf = D; rw [if_pos ⟨nil_of_len.2 hp0, h9⟩]; simp [prE, h9]; rw [if_neg (fun h => h9 h.2)]; simp [prE, h9] : E = prE (decide (leaf = D)))
            go_wp2_with (first
              | (rw [zb32]; refine wpList_store_row rfl 23 _ _ rfl w2.heap.size (brow D) rfl rfl _ (zb 32) (heap_alloc_new _ _) (by rw [brow_size, hnl]; exact Tryd.size_dig) (by rw [zb_size, brow_size, hnl]) (brow_one _) ?_)
              | (refine wpList_load_midG rfl 23 _ rfl w.heap.size 0 rfl (leaf.map u8) _ (unhide HL3) Tryd.underlying23 rfl (unhide HSL) ?_)
              | (refine wpList_load_midG rfl 23 _ rfl w2.heap.size 0 rfl (D.map u8) _ (unhide HN3) Tryd.underlying23 rfl (unhide HSD) ?_))
            refine Calls.mono (proven_any (decide (leaf = D)) _) ?_
            rintro e w9 ⟨rfl, rfl⟩
            generalize hB9 : prE (decide (leaf = D)) = B9
            rw [hB9] at HC
            clear hB9
            go_wp2
            go_ret
            exact ⟨by rw [unhide HC]; rfl, unhide HK3⟩
          · have hp0' : ((p.length : Int) == 0) = false := by rw [beq_eq_false_iff_ne]; omega
            have HC := hide (by rw [unhide HE0, if_neg hgt, if_neg hmn, if_pos hm0, if_neg (fun h => hp0 (nil_of_len.1 h.1))]; rfl : E = prE false)
            go_wp2_with (rw [zb32]; refine wpList_store_row rfl 23 _ _ rfl w2.heap.size (brow D) rfl rfl _ (zb 32) (heap_alloc_new _ _) (by rw [brow_size, hnl]; exact Tryd.size_dig) (by rw [zb_size, brow_size, hnl]) (brow_one _) ?_)
            refine Calls.mono (proven_any false _) ?_
            rintro e w9 ⟨rfl, rfl⟩
            generalize hB9 : prE false = B9
            rw [hB9] at HC
            clear hB9
            go_wp2
            go_ret
            exact ⟨by rw [unhide HC]; rfl, unhide HK3⟩
        · have hm0' : ((m : Int) == 0) = false := by simp; omega
          have hdg := rootsD_dg (z := z) (m := m) (n := n) (unhide HL) (fun d hd => (unhide HP).dg hd)
          go_wp2_with (refine wpList_load_mid rfl 23 _ rfl w.heap.size 0 rfl (leaf.map u8) _ (range_row (unhide HL1)) Tryd.underlying23 rfl (unhide HSL) ?_)
          refine Calls.mono (rootsOf_any z m n leaf _ p _ hz (unhide HL) hi hn ((unhide HP).old (unhide HK1)) ((unhide HT).k (unhide HK1))) ?_
          rintro e w2 ⟨rfl, k2⟩
          obtain ⟨G, hG⟩ : ∃ G, rootsE z leaf m n p = G := ⟨_, rfl⟩
          obtain ⟨D, hD⟩ : ∃ D, rootsD z leaf m n p = D := ⟨_, rfl⟩
          rw [hD] at hdg
          have HE1 := hide (by rw [unhide HE0, if_neg hgt, if_neg hmn, if_neg hm0, hG, hD] : E = if G ≠ 0 then G else if D.1 = leaf ∧ D.2 = root then 0 else 10)
          rw [hG, hD]
          clear hG hD
          obtain ⟨D1, D2⟩ := D
          have hl4 := hdg.1.1
          have hl5 := hdg.2.1
          simp only at hl4 hl5 HE1 ⊢
          have HS4 := hide (by rw [List.length_map, hl4]; exact Tryd.size_dig : (Tryd.prog.info? 23).map (·.size) = some (D1.map u8).length)
          have HS5 := hide (by rw [List.length_map, hl5]; exact Tryd.size_dig : (Tryd.prog.info? 23).map (·.size) = some (D2.map u8).length)
          have HA0 := hide (((Kept.refl [] (w2.alloc (.cells (zb 32) 23))).alloc (.cells (zb 32) 23)).heap (heap_alloc_new w2 (.cells (zb 32) 23)) (by simp))
          have HB0 := hide ((setRow_other ((w2.alloc (.cells (zb 32) 23)).alloc (.cells (zb 32) 23)) w2.heap.size (w2.heap.size + 1) (brow D1) (by omega)).trans (alloc_at w2 (.cells (zb 32) 23) (.cells (zb 32) 23)))
          have kab := ((((Kept.refl [] w2).alloc (.cells (zb 32) 23)).alloc (.cells (zb 32) 23)).setRow (g := w2.heap.size) (Or.inr (Nat.le_refl _)) (brow D1)).setRow (g := w2.heap.size + 1) (Or.inr (by omega)) (brow D2)
          have HA1 := hide (range_row ((setRow_other (((w2.alloc (.cells (zb 32) 23)).alloc (.cells (zb 32) 23)).setRow w2.heap.size (brow D1)) (w2.heap.size + 1) w2.heap.size (brow D2) (by omega)).trans (setRow_heap _ _ _ (brow D1) _ _ (unhide HA0))))
          have HB1 := hide (range_row (setRow_heap (((w2.alloc (.cells (zb 32) 23)).alloc (.cells (zb 32) 23)).setRow w2.heap.size (brow D1)) _ _ (brow D2) _ _ (unhide HB0)))
          have kk := k2.trans kab (by simp)
          have HL3 := hide (range_row (kk.heap (unhide HL1) (by simp)))
          have HR3 := hide (range_row (kk.heap (unhide HR1) (by simp)))
          have HK3 := hide ((unhide HK1).trans kk (by simp))
          clear k2 kab kk hdg
          by_cases hG0 : G = 0
          · subst hG0
            have hqa : ∀ W, (Op.equalIn 10000 23 (.agg (D1.map u8).toArray) (.agg (leaf.map u8).toArray)).run Tryd.prog W = .ok (decide (D1 = leaf)) W := fun W => dig_eq W D1 leaf hl4 hll
            have hqb : ∀ W, (Op.equalIn 10000 23 (.agg (D2.map u8).toArray) (.agg (root.map u8).toArray)).run Tryd.prog W = .ok (decide (D2 = root)) W := fun W => dig_eq W D2 root hl5 hrl
            by_cases h1a : D1 = leaf
            · rw [decide_eq_true h1a] at hqa
              have HC := hide (by rw [unhide HE1, if_neg (by simp)]; by_cases h9 : D2 = root; rw [if_pos ⟨h1a, h9⟩]; simp [prE, h9]; rw [if_neg (fun h => h9 h.2)]; simp [prE, h9] : E = prE (decide (D2 = root)))
              clear h1a
              go_wp2_with (first
                | (rw [zb32]; refine wpList_store_row rfl 23 _ _ rfl w2.heap.size (brow D1) rfl rfl _ (zb 32) (unhide HA0) (by rw [brow_size, hl4]; exact Tryd.size_dig) (by rw [zb_size, brow_size, hl4]) (brow_one _) ?_; clear HA0)
                | (refine wpList_store_row rfl 23 _ _ rfl (w2.heap.size + 1) (brow D2) rfl rfl _ (zb 32) (unhide HB0) (by rw [brow_size, hl5]; exact Tryd.size_dig) (by rw [zb_size, brow_size, hl5]) (brow_one _) ?_; clear HB0)
                | (refine wpList_load_midG rfl 23 _ rfl w2.heap.size 0 rfl (D1.map u8) _ (unhide HA1) Tryd.underlying23 rfl (unhide HS4) ?_)
                | (refine wpList_load_midG rfl 23 _ rfl (w2.heap.size + 1) 0 rfl (D2.map u8) _ (unhide HB1) Tryd.underlying23 rfl (unhide HS5) ?_)
                | (refine wpList_load_midG rfl 23 _ rfl w.heap.size 0 rfl (leaf.map u8) _ (unhide HL3) Tryd.underlying23 rfl (unhide HSL) ?_)
                | (refine wpList_load_midG rfl 23 _ rfl (w.heap.size + 1) 0 rfl (root.map u8) _ (unhide HR3) Tryd.underlying23 rfl (unhide HSM) ?_))
              refine Calls.mono (proven_any (decide (D2 = root)) _) ?_
              rintro e w9 ⟨rfl, rfl⟩
              generalize hB9 : prE (decide (D2 = root)) = B9
              rw [hB9] at HC
              clear hB9
              go_wp2
              go_ret
              exact ⟨by rw [unhide HC]; rfl, unhide HK3⟩
            · rw [decide_eq_false h1a] at hqa
              have HC := hide (by rw [unhide HE1, if_neg (by simp), if_neg (fun h => h1a h.1)]; rfl : E = prE false)
              clear h1a
              go_wp2_with (first
                | (rw [zb32]; refine wpList_store_row rfl 23 _ _ rfl w2.heap.size (brow D1) rfl rfl _ (zb 32) (unhide HA0) (by rw [brow_size, hl4]; exact Tryd.size_dig) (by rw [zb_size, brow_size, hl4]) (brow_one _) ?_; clear HA0)
                | (refine wpList_store_row rfl 23 _ _ rfl (w2.heap.size + 1) (brow D2) rfl rfl _ (zb 32) (unhide HB0) (by rw [brow_size, hl5]; exact Tryd.size_dig) (by rw [zb_size, brow_size, hl5]) (brow_one _) ?_; clear HB0)
                | (refine wpList_load_midG rfl 23 _ rfl w2.heap.size 0 rfl (D1.map u8) _ (unhide HA1) Tryd.underlying23 rfl (unhide HS4) ?_)
                | (refine wpList_load_midG rfl 23 _ rfl w.heap.size 0 rfl (leaf.map u8) _ (unhide HL3) Tryd.underlying23 rfl (unhide HSL) ?_))
              refine Calls.mono (proven_any false _) ?_
              rintro e w9 ⟨rfl, rfl⟩
              generalize hB9 : prE false = B9
              rw [hB9] at HC
              clear hB9
              go_wp2
              go_ret
              exact ⟨by rw [unhide HC]; rfl, unhide HK3⟩
          · have hb : ((G : Int) != 0) = true := by simp; omega
            have HC := hide (by rw [unhide HE1, if_pos hG0] : E = G)
            go_wp2_with (first
              | (rw [zb32]; refine wpList_store_row rfl 23 _ _ rfl w2.heap.size (brow D1) rfl rfl _ (zb 32) (unhide HA0) (by rw [brow_size, hl4]; exact Tryd.size_dig) (by rw [zb_size, brow_size, hl4]) (brow_one _) ?_; clear HA0)
              | (refine wpList_store_row rfl 23 _ _ rfl (w2.heap.size + 1) (brow D2) rfl rfl _ (zb 32) (unhide HB0) (by rw [brow_size, hl5]; exact Tryd.size_dig) (by rw [zb_size, brow_size, hl5]) (brow_one _) ?_; clear HB0))
            go_ret
            exact ⟨by rw [unhide HC]; rfl, unhide HK3⟩
  · have hb : ((f : Int) != 0) = true := by simp; omega
    have HC := hide (by rw [← unhide HE, ← unhide HF]; unfold conE; rw [if_pos (by rw [unhide HF]; exact hf0)] : E = f)
    go_wp2
    go_ret
    exact ⟨by rw [unhide HC]; rfl, unhide HK1⟩
end Go.Proofs.YtbljofojeagdkaaDoor
namespace Go.Proofs.YtbljofojeagdkaaDoor
open Go.RowKit Go.BigFrame
set_option linter.unusedVariables false
set_option linter.unusedSimpArgs false

set_option maxRecDepth 100000 in
set_option maxHeartbeats 4000000 in
theorem wholeIncluded_go (n8 : Nat) (lv : Value) (ls : List (List Nat)) (n i m : Nat) (w : World) (h8 : n8 < 256) (hl : RdD w lv ls) (hn : n < 65536) (hi0 : i < 65536) (hm0 : m < 65536) (hT : Tabs w) (h6 : Tab6 w) :
    Calls Tryd.prog 5 #[.int .u8 (n8 : Int), lv, .int .u16 (n : Int), .int .u16 (i : Int), .int .u16 (m : Int)] w fun e w' => e = .returned (.bool true) ∧ Kept [] w w' := by
  have HTB := hide hT
  have H6 := hide h6
  have HL := hide hl
  clear hT h6 hl
  obtain ⟨k, hk⟩ : ∃ k, 1 + n8 % 32 = k := ⟨_, rfl⟩
  have HWI := hide (twidth_any n8 w h8)
  rw [hk] at HWI
  have hk1 : 1 ≤ k := by omega
  have hk2 : k ≤ 32 := by omega
  have HWD := hide (by simp [widthB]; omega : widthB (k : Int) = true)
  clear hk
  obtain ⟨S, hS⟩ : ∃ S, 1 + n % 300 = S := ⟨_, rfl⟩
  have hcn : IntKind.i64.wrap (n : Int) = (n : Int) := by simp [IntKind.wrap, IntKind.signed, IntKind.bits]; omega
  have hci : IntKind.i64.wrap (i : Int) = (i : Int) := by simp [IntKind.wrap, IntKind.signed, IntKind.bits]; omega
  have hcm : IntKind.i64.wrap (m : Int) = (m : Int) := by simp [IntKind.wrap, IntKind.signed, IntKind.bits]; omega
  have hS1 : 1 ≤ S := by omega
  have hS2 : S ≤ 300 := by omega
  have hSe : 1 + (n : Int) % 300 = (S : Int) := by omega
  have hSe2 : 1 + (n : Int).tmod 300 = (S : Int) := by rw [Int.tmod_eq_emod_of_nonneg (by omega)]; omega
  clear hS
  obtain ⟨at', hat⟩ : ∃ a, i % S = a := ⟨_, rfl⟩
  have at1 : at' < S := by rw [← hat]; exact Nat.mod_lt i (by omega)
  have ate : (i : Int) % (S : Int) = (at' : Int) := by rw [← hat]; simp
  have ate2 : (i : Int).tmod (S : Int) = (at' : Int) := by rw [Int.tmod_eq_emod_of_nonneg (by omega)]; exact ate
  clear hat
  obtain ⟨mm, hmm⟩ : ∃ a, m % (S - at') = a := ⟨_, rfl⟩
  have mm1 : mm < S - at' := by rw [← hmm]; exact Nat.mod_lt m (by omega)
  have mme : (m : Int) % ((S : Int) - (at' : Int)) = (mm : Int) := by rw [← hmm, show (S : Int) - (at' : Int) = ((S - at' : Nat) : Int) by omega]; simp
  have mme2 : (m : Int).tmod ((S : Int) - (at' : Int)) = (mm : Int) := by rw [Int.tmod_eq_emod_of_nonneg (by omega)]; exact mme
  clear hmm
  obtain ⟨nw, hnw⟩ : ∃ a, at' + 1 + mm = a := ⟨_, rfl⟩
  have nw1 : at' < nw := by omega
  have nw2 : nw ≤ S := by omega
  have nwe1 : IntKind.u64.wrap ((at' : Int) + 1) = (at' : Int) + 1 := by rw [wrM]; omega
  have nwe : IntKind.u64.wrap ((at' : Int) + 1 + (mm : Int)) = (nw : Int) := by rw [wrM]; omega
  have hcmm : IntKind.u64.wrap (mm : Int) = (mm : Int) := by rw [wrM]; omega
  have hsub : IntKind.i64.wrap ((S : Int) - (at' : Int)) = (S : Int) - (at' : Int) := by simp [IntKind.wrap, IntKind.signed, IntKind.bits]; omega
  have hne1 : ¬ (S : Int) - (at' : Int) = 0 := by omega
  clear hnw
  obtain ⟨old, hold⟩ : ∃ a, m % (nw + 1) = a := ⟨_, rfl⟩
  have old1 : old ≤ nw := by have := Nat.mod_lt m (show 0 < nw + 1 by omega); omega
  have olde : (m : Int) % ((nw : Int) + 1) = (old : Int) := by rw [← hold]; simp
  have olde2 : (m : Int).tmod ((nw : Int) + 1) = (old : Int) := by rw [Int.tmod_eq_emod_of_nonneg (by omega)]; exact olde
  clear hold
  have hne0 : ¬ (S : Int) = 0 := by omega
  have hne2 : ¬ (nw : Int) + 1 = 0 := by omega
  have hca : IntKind.u64.wrap (at' : Int) = (at' : Int) := by rw [wrM]; omega
  have hcai : IntKind.i64.wrap (at' : Int) = (at' : Int) := by simp [IntKind.wrap, IntKind.signed, IntKind.bits]; omega
  have hcwi : IntKind.i64.wrap (nw : Int) = (nw : Int) := by simp [IntKind.wrap, IntKind.signed, IntKind.bits]; omega
  have hnw1 : IntKind.i64.wrap ((nw : Int) + 1) = (nw : Int) + 1 := by simp [IntKind.wrap, IntKind.signed, IntKind.bits]; omega
  have nwb : nw ≤ 300 := by omega
  have hco : IntKind.u64.wrap (old : Int) = (old : Int) := by rw [wrM]; omega
  have HMM := hide mm1
  clear mm1
  go_enter Tryd.func5, Tryd.ntmps5
  go_wp2_with fail
  refine (unhide HWI).mono ?_
  rintro e w0 ⟨rfl, rfl⟩
  go_wp2_with (first | simp only [hcn] | simp only [hSe] | simp only [hSe2])
  refine (leaves_any k lv ls S w0 hk1 hk2 (unhide HL) hS2 (unhide HTB)).mono ?_
  rintro e w1 ⟨u, rfl, ds, o1, hds, hall⟩
  have HO1 := hide o1
  have HDS := hide hds
  have HALL := hide hall
  obtain ⟨ua, uc, hu⟩ := o1.form
  rw [hds] at hu
  subst hu
  clear o1 hds hall
  go_wp2_with fail
  refine (newT_any (k : Int) w1 (unhide HWD)).mono ?_
  rintro e w2 ⟨t0, rfl, _, tr2, k2⟩
  have HT2 := hide tr2
  have HO2 := hide ((unhide HO1).pass k2)
  clear tr2 k2 HO1
  go_wp2_with fail
  refine (appendT_any (k : Int) t0 (.slice none 0 0) (.slice ua S uc) [] ds w2 (unhide HT2) (fun _ => rfl) (unhide HO2).rd (by rw [unhide HDS]; simp [leavesK]; omega) ((unhide HTB).kept (unhide HO2).kept (by simp) (by simp)) ((unhide H6).kept (unhide HO2).kept)).mono ?_
  rintro e w3 ⟨hg, _, k3⟩
  obtain ⟨t, v, qs, rfl, _, tr3, lv3, _⟩ := hg (unhide HALL)
  have HT3 := hide tr3
  have HL3 := hide (by rw [lv3]; simp [leavesK] : leavesK qs = ds)
  have HO3 := hide ((unhide HO2).pass k3)
  have HK3 := hide (unhide HO3).kept
  clear hg tr3 lv3 k3 HO2 HT2
  have HB := hide (by rw [unhide HL3, unhide HDS]; omega : (leavesK qs).length < 32768)
  have HTK := hide (fun W (kk : Kept [] w3 W) => (unhide HTB).kept ((unhide HK3).trans kk (by simp)) (by simp) (by simp))
  have H6K := hide (fun W (kk : Kept [] w3 W) => (unhide H6).kept ((unhide HK3).trans kk (by simp)))
  have HIN := hide (fun a b (hb : b < 18446744073709551616) W (kk : Kept [] w3 W) => mincl_any (k : Int) t v qs a b W ((unhide HT3).old kk) (unhide HB) (unhide HTK W kk) (unhide H6K W kk) hb)
  have HCN := hide (fun a b (hb : b < 18446744073709551616) W (kk : Kept [] w3 W) => mcons_any (k : Int) t v qs a b W ((unhide HT3).old kk) (unhide HB) (unhide HTK W kk) (unhide H6K W kk) hb)
  have HRT := hide (fun a W (kk : Kept [] w3 W) => rootT_all (k : Int) t v qs a W ((unhide HT3).old kk) (unhide HB) (unhide HTK W kk) (unhide H6K W kk))
  rw [unhide HL3] at HIN HCN HRT
  have hnL : nw ≤ ds.length := by rw [unhide HDS]; exact nw2
  have hlvo : LvO (k : Int) ds := ⟨unhide HWD, (unhide HO3).dg, fun d hd => List.all_eq_true.1 (unhide HALL) d hd⟩
  have HWH := hide (wih_of hlvo nw1 hnL (by omega))
  have HWC := hide (wic_of hlvo old1 hnL (by omega))
  have A1 := hide (unhide HIN at' nw (by omega))
  have A2 := hide (unhide HCN old nw (by omega))
  have B1 := hide (unhide HRT nw)
  have B2 := hide (unhide HRT old)
  rw [show inE ds at' nw = 0 from if_neg (by omega), show inD (k : Int) ds at' nw = rgL (k : Int) ds (pathF at' 64 0 nw) from if_neg (by omega)] at A1
  rw [show csE ds old nw = 0 from if_neg (by omega), show csD (k : Int) ds old nw = rgL (k : Int) ds (smL old nw) from if_neg (by omega)] at A2
  rw [show rgE ds 0 nw = 0 from if_neg (by omega)] at B1
  rw [show rgE ds 0 old = 0 from if_neg (by omega)] at B2
  obtain ⟨ub, uo, hua, hrd⟩ := (unhide HO3).rd.range (by rw [unhide HDS]; omega)
  subst hua
  have HR1 := hide (hrd at' (by omega))
  have hPLn := pathF_len at' 64 0 nw
  rw [← rgL_length (k : Int) ds] at hPLn
  have hQLn := smL_le old nw
  rw [← rgL_length (k : Int) ds] at hQLn
  clear hrd HIN HCN HRT hnL hlvo HTB H6 HT3 HL3 HALL H6K HWI HL HB
  generalize ds.getD at' [] = X at HR1 HWH
  generalize rgL (k : Int) ds (pathF at' 64 0 nw) = P at A1 HWH hPLn
  generalize rgL (k : Int) ds (smL old nw) = Q at A2 HWC hQLn
  generalize rgD (k : Int) ds 0 nw = R at B1 HWH HWC
  generalize rgD (k : Int) ds 0 old = R0 at B2 HWC
  have hxl := (unhide HWH).dx.1
  have hrl := (unhide HWH).dr.1
  have hr0l := (unhide HWC).dr.1
  have hz : (-9223372036854775808 : Int) ≤ (k : Int) ∧ (k : Int) ≤ 9223372036854775807 := by omega
  have HINC := hide (fun (pv : Value) (p : List (List Nat)) (a : Nat) (e9 : Int) (ha : a < 18446744073709551616) W (kk : Kept [] w3 W) (hp : RdD W pv p) (he : ((incE (k : Int) X a nw p R : Nat) : Int) = e9) => (by
    have h9 := inclusion_any (k : Int) X a nw pv p R W hz (unhide HWH).dx (unhide HWH).dr ha (by omega) hp (unhide HTK W kk)
    rw [he] at h9
    exact h9 : Calls Tryd.prog 10 #[.int .i64 (k : Int), .agg (brow X), .int .u64 (a : Int), .int .u64 (nw : Int), pv, .agg (brow R)] W fun e w' => e = .returned (.int .i64 e9) ∧ Kept [] W w'))
  have HCON := hide (fun (pv : Value) (p : List (List Nat)) (e9 : Int) W (kk : Kept [] w3 W) (hp : RdD W pv p) (he : ((conE (k : Int) old nw R0 R p : Nat) : Int) = e9) => (by
    have h9 := consistency_any (k : Int) old nw R0 R pv p W hz (unhide HWC).dr (unhide HWH).dr (by omega) (by omega) hp (unhide HTK W kk)
    rw [he] at h9
    exact h9 : Calls Tryd.prog 13 #[.int .i64 (k : Int), .int .u64 (old : Int), .int .u64 (nw : Int), .agg (brow R0), .agg (brow R), pv] W fun e w' => e = .returned (.int .i64 e9) ∧ Kept [] W w'))
  have HROF := hide (fun (pv : Value) W (kk : Kept [] w3 W) (hp : RdD W pv P) => (by
    have h9 := rootOf_any (k : Int) X at' nw pv P W hz (unhide HWH).dx (by omega) (by omega) hp (unhide HTK W kk)
    rw [(unhide HWH).re, (unhide HWH).rd] at h9
    exact h9 : Calls Tryd.prog 8 #[.int .i64 (k : Int), .agg (brow X), .int .u64 (at' : Int), .int .u64 (nw : Int), pv] W fun e w' => e = .returned (.tuple #[.agg (brow R), .int .i64 0]) ∧ Kept [] W w'))
  have HRSO := hide (fun (pv : Value) (hq : ¬ (old = 0 ∨ old = nw)) W (kk : Kept [] w3 W) (hp : RdD W pv Q) => (by
    have h9 := rootsOf_any (k : Int) old nw R0 pv Q W hz (unhide HWC).dr (by omega) (by omega) hp (unhide HTK W kk)
    rw [((unhide HWC).re hq).1, ((unhide HWC).re hq).2] at h9
    exact h9 : Calls Tryd.prog 11 #[.int .i64 (k : Int), .int .u64 (old : Int), .int .u64 (nw : Int), .agg (brow R0), pv] W fun e w' => e = .returned (.tuple #[.agg (brow R0), .agg (brow R), .int .i64 0]) ∧ Kept [] W w'))
  have ia : ¬ (at' : Int) < 0 := by omega
  have ib : ¬ (S : Int) ≤ (at' : Int) := by omega
  have NW := hide nw1
  have NW2 := hide nw2
  have hqR := fun W => dig_eq W R R hrl hrl
  rw [decide_eq_true rfl] at hqR
  have hqR0 := fun W => dig_eq W R0 R0 hr0l hr0l
  rw [decide_eq_true rfl] at hqR0
  clear nw1 nw2
  go_wp2_with (first | simp only [hci] | simp only [ate] | simp only [ate2] | simp only [hca] | simp only [nwe1] | simp only [hcm] | simp only [hcai] | simp only [hsub] | simp only [mme] | simp only [mme2] | simp only [hcmm] | simp only [nwe])
  refine (unhide B1 w3 (Kept.refl _ _)).mono ?_
  rintro e wa1 ⟨rfl, ka⟩
  have kab := ka.trans (kept_old wa1 R) (by simp)
  have HN1 := hide (cell_new wa1 R)
  have HKb1 := hide ((Kept.refl [] w3).trans kab (by simp))
  obtain ⟨wb1, hwb⟩ : ∃ wb, (wa1.alloc (.cells (zb 32) 23)).setRow wa1.heap.size (brow R) = wb := ⟨_, rfl⟩
  rw [hwb] at HN1 HKb1
  have HW1 := hide hwb
  clear ka kab hwb
  clear B1
  go_wp2_with (first
    | (rw [zb32]; refine wpList_store_row rfl 23 (.tmp 20) _ rfl wa1.heap.size (brow R) rfl rfl _ (zb 32) (heap_alloc_new _ _) (Tryd.szD hrl) (by rw [zb_size, brow_size, hrl]) (brow_one _) ?_; rw [unhide HW1]))
  refine (unhide A1 wb1 (unhide HKb1)).mono ?_
  rintro e w4 ⟨p, rfl, o4⟩
  have HP4 := hide o4
  have HK4 := hide ((unhide HKb1).trans o4.kept (by simp))
  have HN14 := hide (o4.kept.heap (unhide HN1) (by simp))
  obtain ⟨pa, pc, rfl⟩ := o4.form
  have hPc : P.length ≤ pc := by
    obtain ⟨_, _, _, e9, _, h9, _⟩ := o4.rd
    cases e9
    exact h9
  have HR4 := hide (range_kept (unhide HR1) (unhide HK4) (by simp))
  clear o4 A1 HN1 HKb1
  go_wp2_with (first
    | (refine wpList_load_mid rfl 23 _ rfl ub (uo + at' * 32) rfl (X.map Go.Proofs.YtbljofojeagdkaaDoor.u8) _ (unhide HR4) Tryd.underlying23 rfl (by rw [List.length_map, hxl]; exact Tryd.size_dig) ?_))
  refine (unhide HROF (.slice pa P.length pc) w4 (unhide HK4) (unhide HP4).rd).mono ?_
  rintro e wa2 ⟨rfl, ka⟩
  have kab := ka.trans (kept_old wa2 R) (by simp)
  have HN2 := hide (cell_new wa2 R)
  have HKb2 := hide ((unhide HK4).trans kab (by simp))
  have HN14x2 := hide (kab.heap (unhide HN14) (by simp))
  have HP4x2 := hide ((unhide HP4).pass kab)
  obtain ⟨wb2, hwb⟩ : ∃ wb, (wa2.alloc (.cells (zb 32) 23)).setRow wa2.heap.size (brow R) = wb := ⟨_, rfl⟩
  rw [hwb] at HN2 HKb2 HN14x2 HP4x2
  have HW2 := hide hwb
  clear ka kab hwb
  clear HR4 HN14 HP4 HROF
  have HR5 := hide (range_kept (unhide HR1) (unhide HKb2) (by simp))
  have hne : ∀ p : Prop, (∀ w', Kept [] wb2 w' → p) = p := fun p => propext ⟨fun h => h wb2 (Kept.refl [] wb2), fun h _ _ => h⟩
  go_wp2_with (first
    | (rw [zb32]; refine wpList_store_row rfl 23 (.tmp 24) _ rfl wa2.heap.size (brow R) rfl rfl _ (zb 32) (heap_alloc_new _ _) (Tryd.szD hrl) (by rw [zb_size, brow_size, hrl]) (brow_one _) ?_; rw [unhide HW2]))
  refine wp_region_keep (by kernel_rfl) (by kernel_rfl) ?_
  iterate 11 (go_big_quiet_step (fail))
  refine wpQuiet_row rfl 23 (.tmp 24) rfl wa2.heap.size rfl _ (brow R) (0, 0) _ (fun w' hw' => hw'.heap (unhide HN2) (by simp)) Tryd.underlying23 rfl (Tryd.szD hrl) ?_
  simp only [Act.put, List.setIfInBounds_toArray, List.set_cons_succ, List.set_cons_zero]
  refine wpQuiet_row rfl 23 (.tmp 20) rfl wa1.heap.size rfl _ (brow R) (0, 0) _ (fun w' hw' => hw'.heap (unhide HN14x2) (by simp)) Tryd.underlying23 rfl (Tryd.szD hrl) ?_
  simp only [Act.put, List.setIfInBounds_toArray, List.set_cons_succ, List.set_cons_zero]
  refine wpQuiet_val rfl (.bool false) (fun w' _ => run_neq 23 _ _ _ rfl (brow R) (brow R) rfl rfl w' true (by kernel_rfl) (hqR w')) ?_
  simp only [Act.put, List.setIfInBounds_toArray, List.set_cons_succ, List.set_cons_zero]
  iterate 6 (go_big_quiet_step (fail))
  refine wpQuiet_mid rfl 23 _ rfl ub (uo + at' * 32) rfl (X.map Go.Proofs.YtbljofojeagdkaaDoor.u8) _ (fun w' hw' => range_kept (unhide HR5) hw' (by simp)) Tryd.underlying23 rfl (by rw [List.length_map, hxl]; exact Tryd.size_dig) ?_
  simp only [Act.put, List.setIfInBounds_toArray, List.set_cons_succ, List.set_cons_zero]
  iterate 3 (go_big_quiet_step (fail))
  refine wpQuiet_row rfl 23 (.tmp 20) rfl wa1.heap.size rfl _ (brow R) (0, 0) _ (fun w' hw' => hw'.heap (unhide HN14x2) (by simp)) Tryd.underlying23 rfl (Tryd.szD hrl) ?_
  simp only [Act.put, List.setIfInBounds_toArray, List.set_cons_succ, List.set_cons_zero]
  go_big_quiet_want
  go_big_quiet_op
  apply Exists.intro
  refine ⟨fun w' hw' => ?_, ?_⟩
  · exact (unhide HINC (.slice pa P.length pc) (P) at' 0 (by omega) w' ((unhide HKb2).trans hw' (by simp)) ((unhide HP4x2).rd.old hw') (by rw [(unhide HWH).ok]; rfl)).mono (fun e2 w2 h2 => ⟨h2.1, hw'.trans h2.2 (by simp)⟩)
  go_big_quiet_on
  repeat (go_big_quiet_step (fail))
  refine wpQuiet_nil ?_
  intro w6 hw6
  have HK6 := hide ((unhide HKb2).trans hw6 (by simp))
  have HN16 := hide (hw6.heap (unhide HN14x2) (by simp))
  have HP6 := hide ((unhide HP4x2).pass hw6)
  clear hne hw6 HN14x2 HP4x2 HKb2 HR5 HN2
  have HOE := hide (World.ownsRow_made (base := w6.heap.size) (e := 23) (size := 32) w6 #[] 0 (Nat.le_refl _) (by unfold maxLen; omega) (by simp))
  have HPE := hide ((unhide HP6).rd.old ((Kept.refl [] w6).alloc (.cells #[] 23)))
  go_wp2_with (first
    | (at_builtin; refine wpList_appendD rfl (.tmp 128) (.tmp 129) rfl rfl _ w6.heap.size (.slice (some ⟨w6.heap.size, 0, none⟩) 0 0) [] P pa P.length pc (by exact unhide HOE) (by exact unhide HPE) (by simp; omega) (by simp) rfl rfl ?_; intro ao1a cap1a wpa HO1 HG1; simp only [List.nil_append, List.length_nil, Nat.zero_add] at HO1; have HOwa := hide (⟨unhide HO1, (unhide HP6).dg, ((Kept.refl [] w6).alloc _).grown (unhide HG1) (by intro k hk; right; simp [Value.ownBlock] at hk; omega)⟩ : OwD w6 wpa (.slice ao1a P.length cap1a) P); clear HG1 HO1; simp only [List.length_nil, Nat.zero_add])
    | (at_builtin; rw [zb32]; refine wpList_appendD rfl (.tmp 130) (.tmp 132) rfl rfl (wpa.alloc (.cells (zb 32) 23)) w6.heap.size (.slice ao1a P.length cap1a) P [zD] (some ⟨wpa.heap.size, 0, none⟩) 1 1 ((unhide HOwa).pass ((Kept.refl [] wpa).alloc (.cells (zb 32) 23))).own (RdD.oneP (l := zD) (heap_alloc_new wpa (.cells (zb 32) 23)) zD_dg) (by simp; omega) ((unhide HOwa).pass ((Kept.refl [] wpa).alloc (.cells (zb 32) 23))).kept.size rfl rfl ?_; intro ao2a cap2a wqa HO2 HG2; have HOla := hide (((unhide HOwa).pass ((Kept.refl [] wpa).alloc (.cells (zb 32) 23))).push zD_dg (unhide HO2) (unhide HG2)); clear HG2 HO2))
  have HKl := hide ((unhide HK6).trans (unhide HOla).kept (by simp))
  have HN1l := hide ((unhide HOla).kept.heap (unhide HN16) (by simp))
  have HPl := hide ((unhide HP6).pass (unhide HOla).kept)
  have HR7 := hide (range_kept (unhide HR1) (unhide HKl) (by simp))
  clear HOE HPE HOwa HP6 HN16 HK6
  have hne : ∀ p : Prop, (∀ w', Kept [] wqa w' → p) = p := fun p => propext ⟨fun h => h wqa (Kept.refl [] wqa), fun h _ _ => h⟩
  refine wp_region_keep (by kernel_rfl) (by kernel_rfl) ?_
  iterate 4 (go_big_quiet_step (fail))
  refine wpQuiet_mid rfl 23 _ rfl ub (uo + at' * 32) rfl (X.map Go.Proofs.YtbljofojeagdkaaDoor.u8) _ (fun w' hw' => range_kept (unhide HR7) hw' (by simp)) Tryd.underlying23 rfl (by rw [List.length_map, hxl]; exact Tryd.size_dig) ?_
  simp only [Act.put, List.setIfInBounds_toArray, List.set_cons_succ, List.set_cons_zero]
  iterate 3 (go_big_quiet_step (fail))
  refine wpQuiet_row rfl 23 (.tmp 20) rfl wa1.heap.size rfl _ (brow R) (0, 0) _ (fun w' hw' => hw'.heap (unhide HN1l) (by simp)) Tryd.underlying23 rfl (Tryd.szD hrl) ?_
  simp only [Act.put, List.setIfInBounds_toArray, List.set_cons_succ, List.set_cons_zero]
  go_big_quiet_want
  go_big_quiet_op
  apply Exists.intro
  refine ⟨fun w' hw' => ?_, ?_⟩
  · exact (unhide HINC (.slice ao2a (P.length + 1) cap2a) (P ++ [zD]) at' 10 (by omega) w' ((unhide HKl).trans hw' (by simp)) ((unhide HOla).rd.old hw') (by rw [(unhide HWH).long]; rfl)).mono (fun e2 w2 h2 => ⟨h2.1, hw'.trans h2.2 (by simp)⟩)
  go_big_quiet_on
  repeat (go_big_quiet_step (fail))
  refine wpQuiet_nil ?_
  intro w7 hw7
  have HK7 := hide ((unhide HKl).trans hw7 (by simp))
  have HN17 := hide (hw7.heap (unhide HN1l) (by simp))
  have HP7 := hide ((unhide HPl).pass hw7)
  clear hne hw7 HN1l HPl HKl HR7 HOla
  have HR8 := hide (range_kept (unhide HR1) (unhide HK7) (by simp))
  go_wp2_with fail
  have hne : ∀ p : Prop, (∀ w', Kept [] w7 w' → p) = p := fun p => propext ⟨fun h => h w7 (Kept.refl [] w7), fun h _ _ => h⟩
  refine wp_split18 (by kernel_rfl) (by kernel_rfl) ?_ ?_
  · intro v145 v146 v147 v148 v149 v150 v151 v152 v153 v154 v155 v156 v157 v158 v159 v160 v161 v162 v163
    intro w8 hw8
    have HK8 := hide ((unhide HK7).trans hw8 (by simp))
    have HN18 := hide (hw8.heap (unhide HN17) (by simp))
    have HP8 := hide ((unhide HP7).pass hw8)
    clear hne hw8 HN17 HP7 HK7 HR8
    simp only [Act.put, List.setIfInBounds_toArray, List.set_cons_succ, List.set_cons_zero]
    have HR9 := hide (range_kept (unhide HR1) (unhide HK8) (by simp))
    have hne : ∀ p : Prop, (∀ w', Kept [] w8 w' → p) = p := fun p => propext ⟨fun h => h w8 (Kept.refl [] w8), fun h _ _ => h⟩
    go_wp2_with fail
    refine wp_region_keep (by kernel_rfl) (by kernel_rfl) ?_
    iterate 4 (go_big_quiet_step (fail))
    refine wpQuiet_mid rfl 23 _ rfl ub (uo + at' * 32) rfl (X.map Go.Proofs.YtbljofojeagdkaaDoor.u8) _ (fun w' hw' => range_kept (unhide HR9) hw' (by simp)) Tryd.underlying23 rfl (by rw [List.length_map, hxl]; exact Tryd.size_dig) ?_
    simp only [Act.put, List.setIfInBounds_toArray, List.set_cons_succ, List.set_cons_zero]
    iterate 3 (go_big_quiet_step (fail))
    refine wpQuiet_row rfl 23 (.tmp 20) rfl wa1.heap.size rfl _ (brow R) (0, 0) _ (fun w' hw' => hw'.heap (unhide HN18) (by simp)) Tryd.underlying23 rfl (Tryd.szD hrl) ?_
    simp only [Act.put, List.setIfInBounds_toArray, List.set_cons_succ, List.set_cons_zero]
    go_big_quiet_want
    go_big_quiet_op
    apply Exists.intro
    refine ⟨fun w' hw' => ?_, ?_⟩
    · exact (unhide HINC (.slice pa P.length pc) (P) nw 4 (by omega) w' ((unhide HK8).trans hw' (by simp)) ((unhide HP8).rd.old hw') (by rw [(unhide HWH).rng]; rfl)).mono (fun e2 w2 h2 => ⟨h2.1, hw'.trans h2.2 (by simp)⟩)
    go_big_quiet_on
    repeat (go_big_quiet_step (fail))
    refine wpQuiet_nil ?_
    intro w9 hw9
    have HK9 := hide ((unhide HK8).trans hw9 (by simp))
    have HN19 := hide (hw9.heap (unhide HN18) (by simp))
    clear hne hw9 HN18 HP8 HK8 HR9
    go_wp2_with (first | simp only [hcm] | simp only [hcwi] | simp only [hnw1] | simp only [olde] | simp only [olde2] | simp only [hco])
    refine (unhide B2 w9 (unhide HK9)).mono ?_
    rintro e wa3 ⟨rfl, ka⟩
    have kab := ka.trans (kept_old wa3 R0) (by simp)
    have HN3 := hide (cell_new wa3 R0)
    have HKb3 := hide ((unhide HK9).trans kab (by simp))
    have HN19x3 := hide (kab.heap (unhide HN19) (by simp))
    obtain ⟨wb3, hwb⟩ : ∃ wb, (wa3.alloc (.cells (zb 32) 23)).setRow wa3.heap.size (brow R0) = wb := ⟨_, rfl⟩
    rw [hwb] at HN3 HKb3 HN19x3
    have HW3 := hide hwb
    clear ka kab hwb
    clear B2 HN19
    go_wp2_with (first
      | (rw [zb32]; refine wpList_store_row rfl 23 (.tmp 28) _ rfl wa3.heap.size (brow R0) rfl rfl _ (zb 32) (heap_alloc_new _ _) (Tryd.szD hr0l) (by rw [zb_size, brow_size, hr0l]) (brow_one _) ?_; rw [unhide HW3]))
    refine (unhide A2 wb3 (unhide HKb3)).mono ?_
    rintro e w10 ⟨q, rfl, o10⟩
    have HQ10 := hide o10
    have HK10 := hide ((unhide HKb3).trans o10.kept (by simp))
    have HNr := hide (o10.kept.heap (unhide HN19x3) (by simp))
    have HNb := hide (o10.kept.heap (unhide HN3) (by simp))
    obtain ⟨qa, qc, rfl⟩ := o10.form
    clear o10 A2 HN3 HN19x3 HKb3
    go_wp2_with (first
      | (refine wpList_load_rowG rfl 23 (.tmp 28) rfl wa3.heap.size rfl _ (brow R0) (0, 0) _ (unhide HNb) Tryd.underlying23 rfl (Tryd.szD hr0l) ?_)
      | (refine wpList_load_rowG rfl 23 (.tmp 20) rfl wa1.heap.size rfl _ (brow R) (0, 0) _ (unhide HNr) Tryd.underlying23 rfl (Tryd.szD hrl) ?_))
    refine (unhide HCON (.slice qa Q.length qc) Q 0 w10 (unhide HK10) (unhide HQ10).rd (by rw [(unhide HWC).ok]; rfl)).mono ?_
    rintro e w11 ⟨rfl, k11⟩
    have HK11 := hide ((unhide HK10).trans k11 (by simp))
    have HNr2 := hide (k11.heap (unhide HNr) (by simp))
    have HNb2 := hide (k11.heap (unhide HNb) (by simp))
    have HQ11 := hide ((unhide HQ10).pass k11)
    have HKF := hide ((unhide HK3).trans (unhide HK11) (by simp))
    clear k11 HNr HNb HQ10 HK10
    by_cases ho0 : old = 0
    · have ho0' : (old : Int) = 0 := by omega
      have hQ0 : Q.length = 0 := by rw [(unhide HWC).nil (Or.inl ho0)]; rfl
      rw [hQ0]
      clear ho0
      go_wp2_with fail
      go_ret
      exact ⟨rfl, unhide HKF⟩
    · have ho0' : ¬ (old : Int) = 0 := by omega
      by_cases hon : old = nw
      · have hon' : (old : Int) = (nw : Int) := by omega
        have hQ0 : Q.length = 0 := by rw [(unhide HWC).nil (Or.inr hon)]; rfl
        rw [hQ0]
        have honb : ((old : Int) == (nw : Int)) = true := by simp; omega
        clear hon hon' olde olde2
        go_wp2_with (first | simp only [honb])
        all_goals go_ret
        all_goals exact ⟨rfl, unhide HKF⟩
      · have hon' : ¬ (old : Int) = (nw : Int) := by omega
        have honb : ((old : Int) == (nw : Int)) = false := by simp; omega
        have hq9 : ¬ (old = 0 ∨ old = nw) := by omega
        have HMO := hide ((unhide HWC).more hq9)
        go_wp2_with (first
          | simp only [honb]
          | (refine wpList_load_row rfl 23 (.tmp 28) rfl wa3.heap.size rfl _ (brow R0) (0, 0) _ (unhide HNb2) Tryd.underlying23 rfl (Tryd.szD hr0l) ?_)
          | (refine wpList_load_rowG rfl 23 (.tmp 28) rfl wa3.heap.size rfl _ (brow R0) (0, 0) _ (unhide HNb2) Tryd.underlying23 rfl (Tryd.szD hr0l) ?_))
        refine (unhide HRSO (.slice qa Q.length qc) hq9 w11 (unhide HK11) (unhide HQ11).rd).mono ?_
        rintro e w12 ⟨rfl, k12⟩
        have HA0 := hide (((Kept.refl [] (w12.alloc (.cells (zb 32) 23))).alloc (.cells (zb 32) 23)).heap (heap_alloc_new w12 (.cells (zb 32) 23)) (by simp))
        have HB0 := hide ((setRow_other ((w12.alloc (.cells (zb 32) 23)).alloc (.cells (zb 32) 23)) w12.heap.size (w12.heap.size + 1) (brow R0) (by omega)).trans (alloc_at w12 (.cells (zb 32) 23) (.cells (zb 32) 23)))
        have kab := ((((Kept.refl [] w12).alloc (.cells (zb 32) 23)).alloc (.cells (zb 32) 23)).setRow (g := w12.heap.size) (Or.inr (Nat.le_refl _)) (brow R0)).setRow (g := w12.heap.size + 1) (Or.inr (by omega)) (brow R)
        have HX1 := hide ((setRow_other (((w12.alloc (.cells (zb 32) 23)).alloc (.cells (zb 32) 23)).setRow w12.heap.size (brow R0)) (w12.heap.size + 1) w12.heap.size (brow R) (by omega)).trans (setRow_heap _ _ _ (brow R0) _ _ (unhide HA0)))
        have HY1 := hide (setRow_heap (((w12.alloc (.cells (zb 32) 23)).alloc (.cells (zb 32) 23)).setRow w12.heap.size (brow R0)) _ _ (brow R) _ _ (unhide HB0))
        have kk := k12.trans kab (by simp)
        have HNr3 := hide (kk.heap (unhide HNr2) (by simp))
        have HNb3 := hide (kk.heap (unhide HNb2) (by simp))
        have HQz := hide ((unhide HQ11).pass kk)
        have HKz := hide ((unhide HK11).trans kk (by simp))
        obtain ⟨wz, hwz⟩ : ∃ wz, (((w12.alloc (.cells (zb 32) 23)).alloc (.cells (zb 32) 23)).setRow w12.heap.size (brow R0)).setRow (w12.heap.size + 1) (brow R) = wz := ⟨_, rfl⟩
        rw [hwz] at HX1 HY1 HNr3 HNb3 HQz HKz
        have HWZ := hide hwz
        clear hwz kk kab k12 HQ11 HK11 HNr2 HNb2 hon ho0 hq9 olde olde2
        have HOE := hide (World.ownsRow_made (base := wz.heap.size) (e := 23) (size := 32) wz #[] 0 (Nat.le_refl _) (by unfold maxLen; omega) (by simp))
        have HPE := hide ((unhide HQz).rd.old ((Kept.refl [] wz).alloc (.cells #[] 23)))
        go_wp2_with (first
          | (rw [zb32]; refine wpList_store_row rfl 23 (.tmp 32) _ rfl w12.heap.size (brow R0) rfl rfl _ (zb 32) (unhide HA0) (Tryd.szD hr0l) (by rw [zb_size, brow_size, hr0l]) (brow_one _) ?_)
          | (refine wpList_store_row rfl 23 (.tmp 33) _ rfl (w12.heap.size + 1) (brow R) rfl rfl _ (zb 32) (unhide HB0) (Tryd.szD hrl) (by rw [zb_size, brow_size, hrl]) (brow_one _) ?_; rw [unhide HWZ])
          | (at_builtin; refine wpList_appendD rfl (.tmp 232) (.tmp 233) rfl rfl _ wz.heap.size (.slice (some ⟨wz.heap.size, 0, none⟩) 0 0) [] Q qa Q.length qc (by exact unhide HOE) (by exact unhide HPE) (by simp; omega) (by simp) rfl rfl ?_; intro ao1b cap1b wpb HO1 HG1; simp only [List.nil_append, List.length_nil, Nat.zero_add] at HO1; have HOwb := hide (⟨unhide HO1, (unhide HQz).dg, ((Kept.refl [] wz).alloc _).grown (unhide HG1) (by intro k hk; right; simp [Value.ownBlock] at hk; omega)⟩ : OwD wz wpb (.slice ao1b Q.length cap1b) Q); clear HG1 HO1; simp only [List.length_nil, Nat.zero_add])
          | (at_builtin; rw [zb32]; refine wpList_appendD rfl (.tmp 234) (.tmp 236) rfl rfl (wpb.alloc (.cells (zb 32) 23)) wz.heap.size (.slice ao1b Q.length cap1b) Q [zD] (some ⟨wpb.heap.size, 0, none⟩) 1 1 ((unhide HOwb).pass ((Kept.refl [] wpb).alloc (.cells (zb 32) 23))).own (RdD.oneP (l := zD) (heap_alloc_new wpb (.cells (zb 32) 23)) zD_dg) (by simp; omega) ((unhide HOwb).pass ((Kept.refl [] wpb).alloc (.cells (zb 32) 23))).kept.size rfl rfl ?_; intro ao2b cap2b wqb HO2 HG2; have HOlb := hide (((unhide HOwb).pass ((Kept.refl [] wpb).alloc (.cells (zb 32) 23))).push zD_dg (unhide HO2) (unhide HG2)); clear HG2 HO2; have HX2 := hide ((unhide HOlb).kept.heap (unhide HX1) (by simp)); have HY2 := hide ((unhide HOlb).kept.heap (unhide HY1) (by simp)); have HNr4 := hide ((unhide HOlb).kept.heap (unhide HNr3) (by simp)); have HNb4 := hide ((unhide HOlb).kept.heap (unhide HNb3) (by simp)); have HKm := hide ((unhide HKz).trans (unhide HOlb).kept (by simp)))
          | (refine wpList_load_rowG rfl 23 (.tmp 32) rfl w12.heap.size rfl _ (brow R0) (0, 0) _ (unhide HX2) Tryd.underlying23 rfl (Tryd.szD hr0l) ?_)
          | (refine wpList_load_rowG rfl 23 (.tmp 28) rfl wa3.heap.size rfl _ (brow R0) (0, 0) _ (unhide HNb4) Tryd.underlying23 rfl (Tryd.szD hr0l) ?_)
          | (refine wpList_load_rowG rfl 23 (.tmp 33) rfl (w12.heap.size + 1) rfl _ (brow R) (0, 0) _ (unhide HY2) Tryd.underlying23 rfl (Tryd.szD hrl) ?_)
          | (refine wpList_load_rowG rfl 23 (.tmp 20) rfl wa1.heap.size rfl _ (brow R) (0, 0) _ (unhide HNr4) Tryd.underlying23 rfl (Tryd.szD hrl) ?_))
        refine (unhide HCON (.slice ao2b (Q.length + 1) cap2b) (Q ++ [zD]) 10 wqb (unhide HKm) (unhide HOlb).rd (by rw [unhide HMO]; rfl)).mono ?_
        rintro e w14 ⟨rfl, k14⟩
        have HKe := hide ((unhide HK3).trans ((unhide HKm).trans k14 (by simp)) (by simp))
        clear k14
        go_wp2_with fail
        go_ret
        exact ⟨rfl, unhide HKe⟩
  · clear HCON HRSO HWC A2 B2
    rcases (by omega : P.length = 0 ∨ 0 < P.length) with hp0 | hp0
    · have hp0' : ¬ (0 : Int) < (P.length : Int) := by omega
      repeat (go_big_quiet_step (fail))
      refine wpQuiet_nil ?_
      simp only [Act.put, List.setIfInBounds_toArray, List.set_cons_succ, List.set_cons_zero]
      rw [hp0]
      exact ⟨_, _, _, _, _, _, _, _, _, _, _, _, _, _, _, _, _, _, _, rfl⟩
    · obtain ⟨pl, hpl⟩ : ∃ pl, P.length = pl + 1 := ⟨P.length - 1, by omega⟩
      have HSH := hide (by have h9 := (unhide HWH).short hp0; rw [hpl, Nat.add_sub_cancel] at h9; exact h9 : incE (k : Int) X at' nw (P.take pl) R = 10)
      have HRT := hide ((unhide HP7).rd.upto pl (by omega))
      have hp0' : (0 : Int) < ((pl + 1 : Nat) : Int) := by omega
      have hcI : (pl : Int) ≤ pc := by omega
      have hpb : pl ≤ 64 := by omega
      rw [hpl]
      clear hpl hp0 hPLn hPc
      iterate 8 (go_big_quiet_step (fail))
      refine wpQuiet_mid rfl 23 _ rfl ub (uo + at' * 32) rfl (X.map Go.Proofs.YtbljofojeagdkaaDoor.u8) _ (fun w' hw' => range_kept (unhide HR8) hw' (by simp)) Tryd.underlying23 rfl (by rw [List.length_map, hxl]; exact Tryd.size_dig) ?_
      simp only [Act.put, List.setIfInBounds_toArray, List.set_cons_succ, List.set_cons_zero]
      iterate 7 (go_big_quiet_step (fail))
      refine wpQuiet_row rfl 23 (.tmp 20) rfl wa1.heap.size rfl _ (brow R) (0, 0) _ (fun w' hw' => hw'.heap (unhide HN17) (by simp)) Tryd.underlying23 rfl (Tryd.szD hrl) ?_
      simp only [Act.put, List.setIfInBounds_toArray, List.set_cons_succ, List.set_cons_zero]
      go_big_quiet_want
      go_big_quiet_op
      apply Exists.intro
      refine ⟨fun w' hw' => ?_, ?_⟩
      · exact (unhide HINC (.slice pa pl pc) (P.take pl) at' 10 (by omega) w' ((unhide HK7).trans hw' (by simp)) ((unhide HRT).old hw') (by rw [unhide HSH]; rfl)).mono (fun e2 w2 h2 => ⟨h2.1, hw'.trans h2.2 (by simp)⟩)
      go_big_quiet_on
      repeat (go_big_quiet_step (fail))
      refine wpQuiet_nil ?_
      try simp only [Act.put, List.setIfInBounds_toArray, List.set_cons_succ, List.set_cons_zero]
      exact ⟨_, _, _, _, _, _, _, _, _, _, _, _, _, _, _, _, _, _, _, rfl⟩

theorem wholeIncluded_walk (n8 : Nat) (lv : Value) (ls : List (List Nat)) (n a b : Nat) (w : World) (h8 : n8 < 256) (hl : RdD w lv ls) (hx : ls.length ≤ 1048576) (hn : n < 65536) (ha : a < 65536) (hb : b < 65536) (h : Tabs w ∧ Tab6 w) :
    Calls Tryd.prog 5 #[.int .u8 (n8 : Int), lv, .int .u16 (n : Int), .int .u16 (a : Int), .int .u16 (b : Int)] w fun e w' => e = .returned (.bool true) ∧ Below w.heap.size w w' :=
  (wholeIncluded_go n8 lv ls n a b w h8 hl hn ha hb h.1 h.2).mono fun e w' h9 => ⟨h9.1, h9.2.below (Nat.le_refl _) (by simp)⟩
end Go.Proofs.YtbljofojeagdkaaDoor
namespace Go.Proofs.YtbljofojeagdkaaDoor
open Go.ChangeShapes Go.WideShapes Go.ChangeAt Go.RowKit Go.Deep
set_option linter.unusedVariables false
set_option linter.unusedSimpArgs false

theorem own : ownKnob Tryd.prog.godebug = none := by kernel_rfl
theorem laidOut : laidOutB Tryd.prog = true := by kernel_rfl
theorem byte_of_wf {x : Int} (h : (Lit.int .u8 x).wf = true) : 0 ≤ x ∧ x < 256 := by
  simp [Lit.wf, IntKind.min, IntKind.max, IntKind.signed, IntKind.bits] at h
  exact ⟨by omega, by omega⟩
theorem int_of_wf {x : Int} (h : (Lit.int .i64 x).wf = true) : -9223372036854775808 ≤ x ∧ x ≤ 9223372036854775807 := by
  simp [Lit.wf, IntKind.min, IntKind.max, IntKind.signed, IntKind.bits] at h
  exact ⟨by omega, by omega⟩

theorem bulk_one {H : Type} (d : DataW H) : 1 ≤ Rows.uptoBulk d := by
  cases d with
  | lit l => cases l <;> simp [Rows.uptoBulk]
  | nil => simp [Rows.uptoBulk]
  | ptr d => simp [Rows.uptoBulk]
  | slice elems spare => simp [Rows.uptoBulk]
  | agg parts => simp [Rows.uptoBulk]
  | iface t d => simp [Rows.uptoBulk]
  | map entries => simp [Rows.uptoBulk]
  | held h => simp [Rows.uptoBulk]
theorem bulk_len {H : Type} (l : List (DataW H)) : l.length ≤ Rows.uptoBulkAll l := by
  induction l with
  | nil => simp [Rows.uptoBulkAll]
  | cons x r ih => have := bulk_one x; simp only [Rows.uptoBulkAll, List.length_cons]; omega
theorem Tryd.bytes5 : Tryd.prog.bytesOf 5 = 1 := by kernel_rfl

section
variable {H : Type} {enc : TypeId × Value → H} {W : World}

/-- Bytes that came in, as the walks want them, of whatever length. -/
theorem open_bytes {fuel : Nat} {cs : List Value} {x : DataW H × List MemPlace} (h : DataW.trod enc Tryd.prog W 0 (fun _ => true) true fuel 80 cs = some x) :
    ∃ v bs, cs = [v] ∧ (bs.length ≤ 140737488355328 → Rd W v bs) ∧ ((bs = [] ∧ x.1 = .nil) ∨ ∃ elems spare, x.1 = .slice elems spare ∧ elems.length = bs.length) := by
  rcases open_ints Tryd.underlying80 Tryd.underlying5 (by kernel_rfl) h with ⟨rfl, rfl⟩ | ⟨a, len, cap, zs, rfl, _, hl, hm, hz, rfl, hcell, hwz⟩
  · exact ⟨_, [], rfl, fun _ => Rd.nil W, .inl ⟨rfl, rfl⟩⟩
  · have h2 : (lits (H := H) .u8 (zs.take len)).length = len := by simp only [lits, List.length_map, List.length_take]; simp at hz; omega
    have hbl : ((zs.take len).map Int.toNat).length = len := by simp at hz; simp; omega
    refine ⟨_, (zs.take len).map Int.toNat, rfl, fun hB => ⟨_, _, _, rfl, hbl, hl, ⟨by unfold maxLen at hm; omega, by omega⟩, by simp, ?_, ?_⟩, .inr ⟨_, _, rfl, by rw [h2, hbl]⟩⟩
    · intro y hy
      obtain ⟨z, hz1, rfl⟩ := List.mem_map.1 hy
      have := byte_of_wf (hwz z (List.mem_of_mem_take hz1)); omega
    · intro hp
      simp at hz
      have hc0 := hcell 0 (by omega)
      obtain ⟨b, off, spot⟩ := a
      have hspot : spot = none := by simpa [Addr.add] using World.cell?_spot hc0
      subst hspot
      refine ⟨b, off, rfl, fun i hi => ?_⟩
      have hc := hcell i (by omega)
      have hzi : i < zs.length := by omega
      rw [Addr.add_mid] at hc
      rw [hc]
      have hw := byte_of_wf (hwz (zs[i]) (List.getElem_mem hzi))
      simp only [List.getD_eq_getElem?_getD, List.getElem?_eq_getElem hzi, Option.getD_some, List.getElem?_map, List.getElem?_take, hi, if_true, Option.map_some]
      simp [u8]; omega
/-- Their length, by the reach. -/
theorem reach_bytes {ts : List TypeId} {ds : List (DataW H)} (h : (DataW.weightsEach Tryd.prog ts ds).all (· ≤ reachBytes) = true) {j : Nat} (ht : ts[j]? = some 80) {d : DataW H} (hd : ds[j]? = some d) {bs : List Nat}
    (hx : (bs = [] ∧ d = .nil) ∨ ∃ elems spare, d = .slice elems spare ∧ elems.length = bs.length) : bs.length ≤ 140737488351232 := by
  rcases hx with ⟨rfl, _⟩ | ⟨elems, spare, rfl, he⟩
  · simp
  · have := sized_slice h ht hd Tryd.underlying80
    rw [Tryd.bytes5, Nat.mul_one] at this
    unfold reachBytes at this
    omega
/-- Their length, by the bulk. -/
theorem bulk_bytes {d : DataW H} {bs : List Nat} (hx : (bs = [] ∧ d = .nil) ∨ ∃ elems spare, d = .slice elems spare ∧ elems.length = bs.length) : bs.length + 1 ≤ Rows.uptoBulk d := by
  rcases hx with ⟨rfl, rfl⟩ | ⟨elems, spare, rfl, he⟩
  · simp [Rows.uptoBulk]
  · have := bulk_len elems
    simp only [Rows.uptoBulk]; omega
end
end Go.Proofs.YtbljofojeagdkaaDoor
namespace Go.Proofs.YtbljofojeagdkaaDoor
open Go Go.RowKit
set_option linter.unusedVariables false
set_option linter.unusedSimpArgs false
section
variable {H : Type} {enc : TypeId × Value → H} {W : World}

def natOf : Value → Nat
  | .int _ n => n.toNat
  | _ => 0
/-- A digest that came in. -/
theorem open_dig {fuel : Nat} {cs : List Value} {x : DataW H × List MemPlace} (h : DataW.trod enc Tryd.prog W 0 (fun _ => true) true fuel 23 cs = some x) :
    ∃ l : List Nat, cs = l.map u8 ∧ l.length = 32 ∧ ∀ y ∈ l, y < 256 := by
  obtain ⟨xs, m, _, rfl, hl, hn, hc⟩ := DataW.trod_array Tryd.underlying23 h
  rw [show Tryd.prog.cellsOf 23 = 32 from by kernel_rfl] at hl
  rw [show Tryd.prog.cellsOf 5 = 1 from by kernel_rfl] at hc
  have key : ∀ i (hi : i < cs.length), cs[i] = u8 (natOf cs[i]) ∧ natOf cs[i] < 256 := by
    intro i hi
    have h1 := hc i (by omega)
    rw [Nat.mul_one, List.getElem?_eq_getElem (by omega)] at h1
    obtain ⟨n, e, _, hw⟩ := DataW.trod_int Tryd.underlying5 h1
    rw [List.drop_eq_getElem_cons hi, List.take_succ_cons, List.take_zero] at e
    simp only [List.cons.injEq, and_true] at e
    have := byte_of_wf hw
    rw [e]
    refine ⟨?_, ?_⟩
    · simp [u8, natOf]; omega
    · simp [natOf]; omega
  refine ⟨cs.map natOf, ?_, by simp [hl], ?_⟩
  · rw [List.map_map]
    refine List.ext_getElem (by simp) fun i h1 h2 => ?_
    rw [List.getElem_map]
    exact (key i h1).1
  · intro y hy
    obtain ⟨v, hv, rfl⟩ := List.mem_map.1 hy
    obtain ⟨i, hi, rfl⟩ := List.getElem_of_mem hv
    exact (key i hi).2
set_option maxRecDepth 100000 in
theorem open_digv {b0 : Nat} {v : Value} {d : DataW H} {ps : List MemPlace} (hv : Value.okWide Tryd.prog W .any b0 23 v) (h : DataW.Trod enc Tryd.prog W 0 (fun _ => true) true 23 v d ps) :
    ∃ l : List Nat, v = .agg (brow l) ∧ l.length = 32 ∧ ∀ y ∈ l, y < 256 := by
  unfold Value.okWide at hv
  rw [Tryd.underlying23] at hv
  obtain ⟨cs, rfl, _, _⟩ := hv
  obtain ⟨fuel, hf⟩ := h
  obtain ⟨l, e, h1, h2⟩ := open_dig hf
  refine ⟨l, ?_, h1, h2⟩
  simp only [Value.cells] at e
  unfold brow
  rw [← e]
end
end Go.Proofs.YtbljofojeagdkaaDoor
namespace Go.Proofs.YtbljofojeagdkaaDoor
open Go.RowKit
set_option linter.unusedVariables false
set_option linter.unusedSimpArgs false

/-- The slice value v reads as these numbers of 64 bits. -/
def RdQ (w : World) (v : Value) (xs : List Nat) : Prop :=
  ∃ (ao : Option Addr) (len cap : Nat), v = .slice ao len cap ∧ xs.length = len ∧ len ≤ cap ∧ cap ≤ 9223372036854775807 ∧ (∀ x ∈ xs, x < 18446744073709551616) ∧
    (0 < len → ∃ b off, ao = some ⟨b, off, none⟩ ∧ ∀ i, i < len → w.cell? ⟨b, off + i, none⟩ = some (.int .u64 ((xs.getD i 0 : Nat) : Int)))
theorem RdQ.old {w0 w : World} {v : Value} {ws : List Nat} (h : RdQ w0 v ws) (k : Kept [] w0 w) : RdQ w v ws := by
  obtain ⟨ao, len, cap, rfl, h1, h2, h3, h5, h6⟩ := h
  refine ⟨ao, len, cap, rfl, h1, h2, h3, h5, fun hp => ?_⟩
  obtain ⟨b, off, rfl, hc⟩ := h6 hp
  exact ⟨b, off, rfl, fun i hi => k.cell (hc i hi) (by simp)⟩
end Go.Proofs.YtbljofojeagdkaaDoor
namespace Go.Proofs.YtbljofojeagdkaaDoor
open Go.ChangeShapes Go.WideShapes Go.ChangeAt Go.RowKit Go.Deep
set_option linter.unusedVariables false
set_option linter.unusedSimpArgs false
section
variable {H : Type} {enc : TypeId × Value → H} {W : World}

/-- Digests that came in. -/
theorem open_digs2 {fuel : Nat} {cs : List Value} {x : DataW H × List MemPlace} (h : DataW.trod enc Tryd.prog W 0 (fun _ => true) true fuel 25 cs = some x) (hB : Rows.uptoBulk x.1 ≤ 1048576) :
    ∃ v ds, cs = [v] ∧ RdD W v ds ∧ ds.length ≤ 1048576 := by
  rcases open_slice Tryd.underlying25 h with ⟨rfl, rfl⟩ | ⟨a, len, cap, m, n, D, Pl, rfl, _, hl, hm, hmm, rfl, hx⟩
  · exact ⟨_, [], rfl, ⟨none, 0, 0, rfl, rfl, Nat.le_refl _, by omega, fun d hd => by simp at hd, fun h => by omega⟩, by simp⟩
  · have hC : Tryd.prog.cellsOf 23 = 32 := by kernel_rfl
    rw [hC] at hx
    simp only [if_true] at hmm
    simp only [Rows.uptoBulk] at hB
    have hcap : cap ≤ 1048576 := by
      have h1 := bulk_len ((List.range len).map D)
      have h2 := bulk_len ((List.range (m - len)).map fun j => D (len + j))
      simp at h1 h2
      omega
    obtain ⟨f, hf⟩ := choose_lt (α := List Nat) (n := len) (p := fun i o => (∀ j v, (o.map u8)[j]? = some v → W.cell? ((a.add (i * 32)).add j) = some v) ∧ o.length = 32 ∧ ∀ y ∈ o, y < 256) (by
      intro i hi
      obtain ⟨cs', h1, h2⟩ := hx i (by omega)
      obtain ⟨l, rfl, hl1, hl2⟩ := open_dig h2
      obtain ⟨_, hlen, hc⟩ := World.cells?_some h1
      refine ⟨l, fun j v hv => ?_, hl1, hl2⟩
      have hj := (List.getElem?_eq_some_iff.1 hv).1
      have := hc j (by rw [List.length_map] at hj; omega)
      rw [this, ← hv, List.getElem?_eq_getElem hj])
    refine ⟨_, (List.range len).map f, rfl, ⟨some a, len, cap, rfl, by simp, hl, by omega, ?_, ?_⟩, by simp; omega⟩
    · intro d hd
      obtain ⟨i, hi, rfl⟩ := List.mem_map.1 hd
      exact (hf i (List.mem_range.1 hi)).2
    · intro hp
      obtain ⟨b, off, spot⟩ := a
      have h0 := hf 0 hp
      have hc0 := h0.1 0 (u8 ((f 0).getD 0 0)) (by rw [List.getElem?_map, List.getD_eq_getElem?_getD, List.getElem?_eq_getElem (by omega)]; rfl)
      have hspot : spot = none := by simpa [Addr.add] using World.cell?_spot hc0
      subst hspot
      refine ⟨b, off, rfl, fun i hi j v hv => ?_⟩
      have e9 : ((List.range len).map f).getD i [] = f i := by simp [List.getD_eq_getElem?_getD, hi]
      rw [e9] at hv
      have := (hf i hi).1 j v hv
      rw [Addr.add_mid, Addr.add_mid] at this
      exact this

end
end Go.Proofs.YtbljofojeagdkaaDoor
