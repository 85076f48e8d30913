import Derived.Test.YtmgjdcpfeihioaaDoorTopC
import Derived.Test.YtmgjdcpfeihioaaDoorRowz
import Derived.Deep.RegionHeld3
namespace Go.Proofs.YtmgjdcpfeihioaaDoor
open Go.RowKit Go.BigFrame
set_option linter.unusedVariables false
set_option linter.unusedSimpArgs false

theorem Tryd.size_ask : (Tryd.prog.info? 27).map (·.size) = some 68 := by kernel_rfl

theorem name_range {X : World} {g n : Nat} {cs : List Value} (h : X.rangeAt g 0 cs) (hn : n ≤ g) : ∃ Y g5, Y = X ∧ g5 = g ∧ Y.rangeAt g5 0 cs ∧ n ≤ g5 := ⟨X, g, rfl, rfl, h, hn⟩
theorem cells_kept {L : List Nat} {w0 : World} (b : Nat) (hb : b ∈ L ∨ w0.heap.size ≤ b) : ∀ (vs : List Value) (o : Nat) (w : World), Kept L w0 w → Kept L w0 (w.setCells b o vs)
  | [], _, _, h => h
  | v :: r, o, w, h => by rw [World.setCells]; exact cells_kept b hb r (o + 1) _ (h.setCell hb v)
theorem held_k {W w1 w2 : World} {g : Nat} {l : List Value} {z i n sl : Value} (h : Kept [] W w1 ∧ w1.rangeAt g 1 l ∧ w1.cell? ⟨g, 0, none⟩ = some z ∧ w1.cell? ⟨g, 33, none⟩ = some i ∧ w1.cell? ⟨g, 34, none⟩ = some n ∧ w1.cell? ⟨g, 35, none⟩ = some sl) (k : Kept [] w1 w2) : Kept [] W w2 ∧ w2.rangeAt g 1 l ∧ w2.cell? ⟨g, 0, none⟩ = some z ∧ w2.cell? ⟨g, 33, none⟩ = some i ∧ w2.cell? ⟨g, 34, none⟩ = some n ∧ w2.cell? ⟨g, 35, none⟩ = some sl :=
  ⟨h.1.trans k (by simp), range_kept h.2.1 k (by simp), k.cell h.2.2.1 (by simp), k.cell h.2.2.2.1 (by simp), k.cell h.2.2.2.2.1 (by simp), k.cell h.2.2.2.2.2 (by simp)⟩
theorem held_s {W w1 : World} {g b : Nat} {l : List Value} {z i n sl : Value} (h : Kept [] W w1 ∧ w1.rangeAt g 1 l ∧ w1.cell? ⟨g, 0, none⟩ = some z ∧ w1.cell? ⟨g, 33, none⟩ = some i ∧ w1.cell? ⟨g, 34, none⟩ = some n ∧ w1.cell? ⟨g, 35, none⟩ = some sl) (hb : W.heap.size ≤ b) (hg : g < W.heap.size) (o : Nat) (vs : List Value) : Kept [] W (w1.setCells b o vs) ∧ (w1.setCells b o vs).rangeAt g 1 l ∧ (w1.setCells b o vs).cell? ⟨g, 0, none⟩ = some z ∧ (w1.setCells b o vs).cell? ⟨g, 33, none⟩ = some i ∧ (w1.setCells b o vs).cell? ⟨g, 34, none⟩ = some n ∧ (w1.setCells b o vs).cell? ⟨g, 35, none⟩ = some sl := by
  have k := cells_kept (L := [b]) b (Or.inl (by simp)) vs o w1 (Kept.refl [b] w1)
  have hgb : g ∉ [b] := by simp; omega
  exact ⟨cells_kept b (Or.inr hb) vs o w1 h.1, range_kept h.2.1 k hgb, k.cell h.2.2.1 hgb, k.cell h.2.2.2.1 hgb, k.cell h.2.2.2.2.1 hgb, k.cell h.2.2.2.2.2 hgb⟩

end Go.Proofs.YtmgjdcpfeihioaaDoor
/-
  'x, y := f, g' of whole rows: reads, new blocks in whatever order, stores. One law for all orders. By genlay.py.
-/
namespace Go.Proofs.YtmgjdcpfeihioaaDoor
open Go Go.RowKit Go.BigFrame
set_option linter.unusedVariables false
set_option linter.unusedSimpArgs false

/-- The rows that lie in blocks that are new since W. -/
def Rw (W w' : World) (ty : TypeId) (l : List (Nat × Array Value)) : Prop :=
  Kept [] W w' ∧ (l.map (·.1)).Nodup ∧ ∀ x ∈ l, W.heap.size ≤ x.1 ∧ w'.heap[x.1]? = some (.cells x.2 ty (0, 0))
theorem Rw.nil (W : World) (ty : TypeId) : Rw W W ty [] := ⟨Kept.refl _ _, by simp, fun x hx => by cases hx⟩
theorem Rw.more {W w' : World} {ty : TypeId} {l : List (Nat × Array Value)} (Z : Array Value) (h : Rw W w' ty l) : Rw W (w'.alloc (.cells Z ty)) ty ((w'.heap.size, Z) :: l) := by
  obtain ⟨h1, h2, h3⟩ := h
  refine ⟨h1.alloc _, ?_, fun x hx => ?_⟩
  · rw [List.map_cons, List.nodup_cons]
    refine ⟨fun hm => ?_, h2⟩
    obtain ⟨x, hx, e⟩ := List.mem_map.1 hm
    have h4 := lt_of_block (h3 x hx).2
    simp only at e
    omega
  · rcases List.mem_cons.1 hx with rfl | hx
    · exact ⟨h1.size, heap_alloc_new _ _⟩
    · exact ⟨(h3 x hx).1, ((Kept.refl [] w').alloc _).heap (h3 x hx).2 (by simp)⟩
theorem Rw.perm {W w' : World} {ty : TypeId} {l l' : List (Nat × Array Value)} (h : Rw W w' ty l) (p : l.Perm l') : Rw W w' ty l' :=
  ⟨h.1, (p.map _).nodup_iff.1 h.2.1, fun x hx => h.2.2 x (p.mem_iff.2 hx)⟩
theorem Rw.store {W w' : World} {ty : TypeId} {pre post : List (Nat × Array Value)} {g : Nat} {Z c : Array Value} (h : Rw W w' ty (pre ++ (g, Z) :: post)) : Rw W (w'.setRow g c) ty (pre ++ (g, c) :: post) := by
  obtain ⟨h1, h2, h3⟩ := h
  have hg := h3 (g, Z) (by simp)
  refine ⟨h1.setRow (Or.inr hg.1) _, by simpa using h2, fun x hx => ?_⟩
  have hn : ∀ y ∈ pre ++ post, y.1 ≠ g := by
    intro y hy e
    have h4 : ((g, Z) :: (pre ++ post)).map (·.1) |>.Nodup := ((List.perm_middle (l₁ := pre) (l₂ := post) (a := (g, Z))).map _).nodup_iff.1 h2
    rw [List.map_cons, List.nodup_cons] at h4
    exact h4.1 (List.mem_map.2 ⟨y, hy, e⟩)
  by_cases hx' : x ∈ pre ++ post
  · have h5 := h3 x (by rcases List.mem_append.1 hx' with h6 | h6 <;> simp [h6])
    exact ⟨h5.1, (setRow_other _ _ _ _ (hn x hx')).trans h5.2⟩
  · have : x = (g, c) := by
      rcases List.mem_append.1 hx with h6 | h6
      · exact absurd (List.mem_append_left _ h6) hx'
      · rcases List.mem_cons.1 h6 with h6 | h6
        · exact h6
        · exact absurd (List.mem_append_right _ h6) hx'
    subst this
    exact ⟨hg.1, setRow_heap _ _ _ _ _ _ hg.2⟩

section
variable {P : Program} {Q : Exit → Act → World → Prop}
theorem wp_lay2 {id : Nat} {o0 o1 o2 o3 o4 o5 o6 : Oper} {a : Act} {w : World} (S : World → Prop) (hm : P.follows .mixedOrders = true) (hs : Region.noSelect #[o0, o1, o2, o3, o4, o5, o6] = true)
    (f0 : Region.free .any #[o0, o1, o2, o3, o4, o5, o6] #[false, false, false, false, false, false, false] 0 = true) (r0 : (Region.ready .any #[o0, o1, o2, o3, o4, o5, o6] #[false, false, false, false, false, false, false]).contains 0 = true)
    (f1 : Region.free .any #[o0, o1, o2, o3, o4, o5, o6] #[true, false, false, false, false, false, false] 1 = true) (r1 : (Region.ready .any #[o0, o1, o2, o3, o4, o5, o6] #[true, false, false, false, false, false, false]).contains 1 = true)
    (f2 : Region.free .any #[o0, o1, o2, o3, o4, o5, o6] #[true, true, false, false, false, false, false] 2 = true) (r2 : (Region.ready .any #[o0, o1, o2, o3, o4, o5, o6] #[true, true, false, false, false, false, false]).contains 2 = true)
    (qs : Region.ready .any #[o0, o1, o2, o3, o4, o5, o6] #[true, true, true, false, false, false, false] = [3, 4])
    (qs_3 : Region.ready .any #[o0, o1, o2, o3, o4, o5, o6] #[true, true, true, true, false, false, false] = [4])
    (qs_4 : Region.ready .any #[o0, o1, o2, o3, o4, o5, o6] #[true, true, true, false, true, false, false] = [3])
    (r5 : Region.ready .any #[o0, o1, o2, o3, o4, o5, o6] #[true, true, true, true, true, false, false] = [5])
    (r6 : Region.ready .any #[o0, o1, o2, o3, o4, o5, o6] #[true, true, true, true, true, true, false] = [6])
    (rr : Region.ready .any #[o0, o1, o2, o3, o4, o5, o6] #[true, true, true, true, true, true, true] = [])
    (g3 : o3.guard = none) (g4 : o4.guard = none) (g5 : o5.guard = none) (g6 : o6.guard = none) (hS : S w.drew) (v0 v1 v2 : Value) (A0 A1 A2 : Act)
    (p0 : a.put o0.dst v0 = A0) (p1 : A0.put o1.dst v1 = A1) (p2 : A1.put o2.dst v2 = A2) 
    (hy0 : YieldsIf P #[o0, o1, o2, o3, o4, o5, o6] S o0 v0 a) (hy1 : YieldsIf P #[o0, o1, o2, o3, o4, o5, o6] S o1 v1 A0) (hy2 : YieldsIf P #[o0, o1, o2, o3, o4, o5, o6] S o2 v2 A1) 
    (ty : TypeId) (Z : Array Value)
    (al3 : ∀ (a' : Act) (w' : World) (K : Act → World → Prop), K (a'.put o3.dst (.pointer (some ⟨w'.heap.size, 0, none⟩))) (w'.alloc (.cells Z ty)) → o3.wp P a' w' K (NoPanic Q))
    (al4 : ∀ (a' : Act) (w' : World) (K : Act → World → Prop), K (a'.put o4.dst (.pointer (some ⟨w'.heap.size, 0, none⟩))) (w'.alloc (.cells Z ty)) → o4.wp P a' w' K (NoPanic Q))
    (ne4_3 : ∀ d, o4.dst = some d → o3.dst ≠ some d)
    (hKS : ∀ w', Kept [] w.drew w' → S w')
    (c5 c6 : Array Value)
    (st5 : ∀ h3 h4 w' (K : Act → World → Prop), w'.heap[h3]? = some (.cells Z ty (0, 0)) → K ((A2.put o3.dst (.pointer (some ⟨h3, 0, none⟩))).put o4.dst (.pointer (some ⟨h4, 0, none⟩))) (w'.setRow h3 c5) → o5.wp P ((A2.put o3.dst (.pointer (some ⟨h3, 0, none⟩))).put o4.dst (.pointer (some ⟨h4, 0, none⟩))) w' K (NoPanic Q))
    (st6 : ∀ h3 h4 w' (K : Act → World → Prop), w'.heap[h4]? = some (.cells Z ty (0, 0)) → K ((A2.put o3.dst (.pointer (some ⟨h3, 0, none⟩))).put o4.dst (.pointer (some ⟨h4, 0, none⟩))) (w'.setRow h4 c6) → o6.wp P ((A2.put o3.dst (.pointer (some ⟨h3, 0, none⟩))).put o4.dst (.pointer (some ⟨h4, 0, none⟩))) w' K (NoPanic Q))
    (h : ∀ h3 h4 w', Rw w.drew w' ty [(h3, c5), (h4, c6)] → Q .normal ((A2.put o3.dst (.pointer (some ⟨h3, 0, none⟩))).put o4.dst (.pointer (some ⟨h4, 0, none⟩))) w') :
    (Code.region id #[o0, o1, o2, o3, o4, o5, o6] true).wp P Q a w := by
  subst p0 p1 p2
  refine wp_region_noPanic ?_
  refine wp_region_held_drew (S := S) hm hS (fun hH => ?_)
  show wpAnyH P .any #[o0, o1, o2, o3, o4, o5, o6] (NoPanic Q) S 7 #[false, false, false, false, false, false, false] a w.drew
  refine wpAnyH_take (i := 0) (oi := o0) rfl hs f0 r0 (fun _ _ _ h => h) hy0 hS ?_
  refine wpAnyH_take (i := 1) (oi := o1) rfl hs f1 r1 (fun _ _ _ h => h) hy1 hS ?_
  refine wpAnyH_take (i := 2) (oi := o2) rfl hs f2 r2 (fun _ _ _ h => h) hy2 hS ?_
  generalize (((a.put o0.dst v0).put o1.dst v1).put o2.dst v2) = B at *
  have wa3 : ∀ y, Region.wanted o3 y = true := fun y => by unfold Region.wanted; rw [g3]
  have wa4 : ∀ y, Region.wanted o4 y = true := fun y => by unfold Region.wanted; rw [g4]
  have wa5 : ∀ y, Region.wanted o5 y = true := fun y => by unfold Region.wanted; rw [g5]
  have wa6 : ∀ y, Region.wanted o6 y = true := fun y => by unfold Region.wanted; rw [g6]
  have s_3_4 : ∀ h3 h4 w', Rw w.drew w' ty [(h3, Z), (h4, Z)] → wpAnyH P .any #[o0, o1, o2, o3, o4, o5, o6] (NoPanic Q) S 2 #[true, true, true, true, true, false, false] ((B.put o3.dst (.pointer (some ⟨h3, 0, none⟩))).put o4.dst (.pointer (some ⟨h4, 0, none⟩))) w' := by
    intro h3 h4 w0 R0
    refine wpAnyH_ready (rs := [5]) r5 (by simp) (AllReadyH.cons (o := o5) rfl (fun K hK => ?_) AllReadyH.nil)
    rw [if_pos (wa5 _)]
    have R1 := Rw.store (pre := []) (post := [(h4, Z)]) (g := h3) (c := c5) R0
    refine st5 h3 h4 w0 K (R0.2.2 (h3, Z) (by simp)).2 (hK.out _ _ (hKS _ R1.1) (fun _ => ?_))
    clear hK
    refine wpAnyH_ready (rs := [6]) r6 (by simp) (AllReadyH.cons (o := o6) rfl (fun K hK => ?_) AllReadyH.nil)
    rw [if_pos (wa6 _)]
    have R2 := Rw.store (pre := [(h3, c5)]) (post := []) (g := h4) (c := c6) R1
    refine st6 h3 h4 (w0.setRow h3 c5) K (R1.2.2 (h4, Z) (by simp)).2 (hK.out _ _ (hKS _ R2.1) (fun _ => ?_))
    clear hK
    exact ⟨rr, NoPanic.normal (h h3 h4 _ R2)⟩
  have s_4 : ∀ h4 w', Rw w.drew w' ty [(h4, Z)] → wpAnyH P .any #[o0, o1, o2, o3, o4, o5, o6] (NoPanic Q) S 3 #[true, true, true, false, true, false, false] (B.put o4.dst (.pointer (some ⟨h4, 0, none⟩))) w' := by
    intro h4 w0 R0
    refine wpAnyH_ready (rs := [3]) qs_4 (by simp) (AllReadyH.cons (o := o3) rfl (fun K hK => ?_) AllReadyH.nil)
    · rw [if_pos (wa3 _)]
      refine al3 _ _ K (hK.out _ _ (hKS _ (R0.1.alloc _)) (fun _ => ?_))
      rw [Act.put_comm _ _ _ ne4_3]; exact s_3_4 w0.heap.size h4 _ ((R0.more Z).perm (List.perm_middle (l₁ := []) (l₂ := [(h4, Z)]) (a := (w0.heap.size, Z))).symm)
  have s_3 : ∀ h3 w', Rw w.drew w' ty [(h3, Z)] → wpAnyH P .any #[o0, o1, o2, o3, o4, o5, o6] (NoPanic Q) S 3 #[true, true, true, true, false, false, false] (B.put o3.dst (.pointer (some ⟨h3, 0, none⟩))) w' := by
    intro h3 w0 R0
    refine wpAnyH_ready (rs := [4]) qs_3 (by simp) (AllReadyH.cons (o := o4) rfl (fun K hK => ?_) AllReadyH.nil)
    · rw [if_pos (wa4 _)]
      refine al4 _ _ K (hK.out _ _ (hKS _ (R0.1.alloc _)) (fun _ => ?_))
      exact s_3_4 h3 w0.heap.size _ ((R0.more Z).perm (List.perm_middle (l₁ := [(h3, Z)]) (l₂ := []) (a := (w0.heap.size, Z))).symm)
  have s : ∀ w', Rw w.drew w' ty [] → wpAnyH P .any #[o0, o1, o2, o3, o4, o5, o6] (NoPanic Q) S 4 #[true, true, true, false, false, false, false] B w' := by
    intro w0 R0
    refine wpAnyH_ready (rs := [3, 4]) qs (by simp) (AllReadyH.cons (o := o3) rfl (fun K hK => ?_) (AllReadyH.cons (o := o4) rfl (fun K hK => ?_) AllReadyH.nil))
    · rw [if_pos (wa3 _)]
      refine al3 _ _ K (hK.out _ _ (hKS _ (R0.1.alloc _)) (fun _ => ?_))
      exact s_3 w0.heap.size _ ((R0.more Z).perm (List.perm_middle (l₁ := []) (l₂ := []) (a := (w0.heap.size, Z))).symm)
    · rw [if_pos (wa4 _)]
      refine al4 _ _ K (hK.out _ _ (hKS _ (R0.1.alloc _)) (fun _ => ?_))
      exact s_4 w0.heap.size _ ((R0.more Z).perm (List.perm_middle (l₁ := []) (l₂ := []) (a := (w0.heap.size, Z))).symm)
  exact s w.drew (Rw.nil _ ty)

theorem wp_lay4 {id : Nat} {o0 o1 o2 o3 o4 o5 o6 o7 o8 o9 o10 o11 o12 o13 o14 o15 o16 o17 o18 : Oper} {a : Act} {w : World} (S : World → Prop) (hm : P.follows .mixedOrders = true) (hs : Region.noSelect #[o0, o1, o2, o3, o4, o5, o6, o7, o8, o9, o10, o11, o12, o13, o14, o15, o16, o17, o18] = true)
    (f0 : Region.free .any #[o0, o1, o2, o3, o4, o5, o6, o7, o8, o9, o10, o11, o12, o13, o14, o15, o16, o17, o18] #[false, false, false, false, false, false, false, false, false, false, false, false, false, false, false, false, false, false, false] 0 = true) (r0 : (Region.ready .any #[o0, o1, o2, o3, o4, o5, o6, o7, o8, o9, o10, o11, o12, o13, o14, o15, o16, o17, o18] #[false, false, false, false, false, false, false, false, false, false, false, false, false, false, false, false, false, false, false]).contains 0 = true)
    (f1 : Region.free .any #[o0, o1, o2, o3, o4, o5, o6, o7, o8, o9, o10, o11, o12, o13, o14, o15, o16, o17, o18] #[true, false, false, false, false, false, false, false, false, false, false, false, false, false, false, false, false, false, false] 1 = true) (r1 : (Region.ready .any #[o0, o1, o2, o3, o4, o5, o6, o7, o8, o9, o10, o11, o12, o13, o14, o15, o16, o17, o18] #[true, false, false, false, false, false, false, false, false, false, false, false, false, false, false, false, false, false, false]).contains 1 = true)
    (f2 : Region.free .any #[o0, o1, o2, o3, o4, o5, o6, o7, o8, o9, o10, o11, o12, o13, o14, o15, o16, o17, o18] #[true, true, false, false, false, false, false, false, false, false, false, false, false, false, false, false, false, false, false] 2 = true) (r2 : (Region.ready .any #[o0, o1, o2, o3, o4, o5, o6, o7, o8, o9, o10, o11, o12, o13, o14, o15, o16, o17, o18] #[true, true, false, false, false, false, false, false, false, false, false, false, false, false, false, false, false, false, false]).contains 2 = true)
    (f3 : Region.free .any #[o0, o1, o2, o3, o4, o5, o6, o7, o8, o9, o10, o11, o12, o13, o14, o15, o16, o17, o18] #[true, true, true, false, false, false, false, false, false, false, false, false, false, false, false, false, false, false, false] 3 = true) (r3 : (Region.ready .any #[o0, o1, o2, o3, o4, o5, o6, o7, o8, o9, o10, o11, o12, o13, o14, o15, o16, o17, o18] #[true, true, true, false, false, false, false, false, false, false, false, false, false, false, false, false, false, false, false]).contains 3 = true)
    (f4 : Region.free .any #[o0, o1, o2, o3, o4, o5, o6, o7, o8, o9, o10, o11, o12, o13, o14, o15, o16, o17, o18] #[true, true, true, true, false, false, false, false, false, false, false, false, false, false, false, false, false, false, false] 4 = true) (r4 : (Region.ready .any #[o0, o1, o2, o3, o4, o5, o6, o7, o8, o9, o10, o11, o12, o13, o14, o15, o16, o17, o18] #[true, true, true, true, false, false, false, false, false, false, false, false, false, false, false, false, false, false, false]).contains 4 = true)
    (f5 : Region.free .any #[o0, o1, o2, o3, o4, o5, o6, o7, o8, o9, o10, o11, o12, o13, o14, o15, o16, o17, o18] #[true, true, true, true, true, false, false, false, false, false, false, false, false, false, false, false, false, false, false] 5 = true) (r5 : (Region.ready .any #[o0, o1, o2, o3, o4, o5, o6, o7, o8, o9, o10, o11, o12, o13, o14, o15, o16, o17, o18] #[true, true, true, true, true, false, false, false, false, false, false, false, false, false, false, false, false, false, false]).contains 5 = true)
    (f6 : Region.free .any #[o0, o1, o2, o3, o4, o5, o6, o7, o8, o9, o10, o11, o12, o13, o14, o15, o16, o17, o18] #[true, true, true, true, true, true, false, false, false, false, false, false, false, false, false, false, false, false, false] 6 = true) (r6 : (Region.ready .any #[o0, o1, o2, o3, o4, o5, o6, o7, o8, o9, o10, o11, o12, o13, o14, o15, o16, o17, o18] #[true, true, true, true, true, true, false, false, false, false, false, false, false, false, false, false, false, false, false]).contains 6 = true)
    (f7 : Region.free .any #[o0, o1, o2, o3, o4, o5, o6, o7, o8, o9, o10, o11, o12, o13, o14, o15, o16, o17, o18] #[true, true, true, true, true, true, true, false, false, false, false, false, false, false, false, false, false, false, false] 7 = true) (r7 : (Region.ready .any #[o0, o1, o2, o3, o4, o5, o6, o7, o8, o9, o10, o11, o12, o13, o14, o15, o16, o17, o18] #[true, true, true, true, true, true, true, false, false, false, false, false, false, false, false, false, false, false, false]).contains 7 = true)
    (f8 : Region.free .any #[o0, o1, o2, o3, o4, o5, o6, o7, o8, o9, o10, o11, o12, o13, o14, o15, o16, o17, o18] #[true, true, true, true, true, true, true, true, false, false, false, false, false, false, false, false, false, false, false] 8 = true) (r8 : (Region.ready .any #[o0, o1, o2, o3, o4, o5, o6, o7, o8, o9, o10, o11, o12, o13, o14, o15, o16, o17, o18] #[true, true, true, true, true, true, true, true, false, false, false, false, false, false, false, false, false, false, false]).contains 8 = true)
    (f9 : Region.free .any #[o0, o1, o2, o3, o4, o5, o6, o7, o8, o9, o10, o11, o12, o13, o14, o15, o16, o17, o18] #[true, true, true, true, true, true, true, true, true, false, false, false, false, false, false, false, false, false, false] 9 = true) (r9 : (Region.ready .any #[o0, o1, o2, o3, o4, o5, o6, o7, o8, o9, o10, o11, o12, o13, o14, o15, o16, o17, o18] #[true, true, true, true, true, true, true, true, true, false, false, false, false, false, false, false, false, false, false]).contains 9 = true)
    (f10 : Region.free .any #[o0, o1, o2, o3, o4, o5, o6, o7, o8, o9, o10, o11, o12, o13, o14, o15, o16, o17, o18] #[true, true, true, true, true, true, true, true, true, true, false, false, false, false, false, false, false, false, false] 10 = true) (r10 : (Region.ready .any #[o0, o1, o2, o3, o4, o5, o6, o7, o8, o9, o10, o11, o12, o13, o14, o15, o16, o17, o18] #[true, true, true, true, true, true, true, true, true, true, false, false, false, false, false, false, false, false, false]).contains 10 = true)
    (qs : Region.ready .any #[o0, o1, o2, o3, o4, o5, o6, o7, o8, o9, o10, o11, o12, o13, o14, o15, o16, o17, o18] #[true, true, true, true, true, true, true, true, true, true, true, false, false, false, false, false, false, false, false] = [11, 12, 13, 14])
    (qs_11 : Region.ready .any #[o0, o1, o2, o3, o4, o5, o6, o7, o8, o9, o10, o11, o12, o13, o14, o15, o16, o17, o18] #[true, true, true, true, true, true, true, true, true, true, true, true, false, false, false, false, false, false, false] = [12, 13, 14])
    (qs_12 : Region.ready .any #[o0, o1, o2, o3, o4, o5, o6, o7, o8, o9, o10, o11, o12, o13, o14, o15, o16, o17, o18] #[true, true, true, true, true, true, true, true, true, true, true, false, true, false, false, false, false, false, false] = [11, 13, 14])
    (qs_13 : Region.ready .any #[o0, o1, o2, o3, o4, o5, o6, o7, o8, o9, o10, o11, o12, o13, o14, o15, o16, o17, o18] #[true, true, true, true, true, true, true, true, true, true, true, false, false, true, false, false, false, false, false] = [11, 12, 14])
    (qs_14 : Region.ready .any #[o0, o1, o2, o3, o4, o5, o6, o7, o8, o9, o10, o11, o12, o13, o14, o15, o16, o17, o18] #[true, true, true, true, true, true, true, true, true, true, true, false, false, false, true, false, false, false, false] = [11, 12, 13])
    (qs_11_12 : Region.ready .any #[o0, o1, o2, o3, o4, o5, o6, o7, o8, o9, o10, o11, o12, o13, o14, o15, o16, o17, o18] #[true, true, true, true, true, true, true, true, true, true, true, true, true, false, false, false, false, false, false] = [13, 14])
    (qs_11_13 : Region.ready .any #[o0, o1, o2, o3, o4, o5, o6, o7, o8, o9, o10, o11, o12, o13, o14, o15, o16, o17, o18] #[true, true, true, true, true, true, true, true, true, true, true, true, false, true, false, false, false, false, false] = [12, 14])
    (qs_11_14 : Region.ready .any #[o0, o1, o2, o3, o4, o5, o6, o7, o8, o9, o10, o11, o12, o13, o14, o15, o16, o17, o18] #[true, true, true, true, true, true, true, true, true, true, true, true, false, false, true, false, false, false, false] = [12, 13])
    (qs_12_13 : Region.ready .any #[o0, o1, o2, o3, o4, o5, o6, o7, o8, o9, o10, o11, o12, o13, o14, o15, o16, o17, o18] #[true, true, true, true, true, true, true, true, true, true, true, false, true, true, false, false, false, false, false] = [11, 14])
    (qs_12_14 : Region.ready .any #[o0, o1, o2, o3, o4, o5, o6, o7, o8, o9, o10, o11, o12, o13, o14, o15, o16, o17, o18] #[true, true, true, true, true, true, true, true, true, true, true, false, true, false, true, false, false, false, false] = [11, 13])
    (qs_13_14 : Region.ready .any #[o0, o1, o2, o3, o4, o5, o6, o7, o8, o9, o10, o11, o12, o13, o14, o15, o16, o17, o18] #[true, true, true, true, true, true, true, true, true, true, true, false, false, true, true, false, false, false, false] = [11, 12])
    (qs_11_12_13 : Region.ready .any #[o0, o1, o2, o3, o4, o5, o6, o7, o8, o9, o10, o11, o12, o13, o14, o15, o16, o17, o18] #[true, true, true, true, true, true, true, true, true, true, true, true, true, true, false, false, false, false, false] = [14])
    (qs_11_12_14 : Region.ready .any #[o0, o1, o2, o3, o4, o5, o6, o7, o8, o9, o10, o11, o12, o13, o14, o15, o16, o17, o18] #[true, true, true, true, true, true, true, true, true, true, true, true, true, false, true, false, false, false, false] = [13])
    (qs_11_13_14 : Region.ready .any #[o0, o1, o2, o3, o4, o5, o6, o7, o8, o9, o10, o11, o12, o13, o14, o15, o16, o17, o18] #[true, true, true, true, true, true, true, true, true, true, true, true, false, true, true, false, false, false, false] = [12])
    (qs_12_13_14 : Region.ready .any #[o0, o1, o2, o3, o4, o5, o6, o7, o8, o9, o10, o11, o12, o13, o14, o15, o16, o17, o18] #[true, true, true, true, true, true, true, true, true, true, true, false, true, true, true, false, false, false, false] = [11])
    (r15 : Region.ready .any #[o0, o1, o2, o3, o4, o5, o6, o7, o8, o9, o10, o11, o12, o13, o14, o15, o16, o17, o18] #[true, true, true, true, true, true, true, true, true, true, true, true, true, true, true, false, false, false, false] = [15])
    (r16 : Region.ready .any #[o0, o1, o2, o3, o4, o5, o6, o7, o8, o9, o10, o11, o12, o13, o14, o15, o16, o17, o18] #[true, true, true, true, true, true, true, true, true, true, true, true, true, true, true, true, false, false, false] = [16])
    (r17 : Region.ready .any #[o0, o1, o2, o3, o4, o5, o6, o7, o8, o9, o10, o11, o12, o13, o14, o15, o16, o17, o18] #[true, true, true, true, true, true, true, true, true, true, true, true, true, true, true, true, true, false, false] = [17])
    (r18 : Region.ready .any #[o0, o1, o2, o3, o4, o5, o6, o7, o8, o9, o10, o11, o12, o13, o14, o15, o16, o17, o18] #[true, true, true, true, true, true, true, true, true, true, true, true, true, true, true, true, true, true, false] = [18])
    (rr : Region.ready .any #[o0, o1, o2, o3, o4, o5, o6, o7, o8, o9, o10, o11, o12, o13, o14, o15, o16, o17, o18] #[true, true, true, true, true, true, true, true, true, true, true, true, true, true, true, true, true, true, true] = [])
    (g11 : o11.guard = none) (g12 : o12.guard = none) (g13 : o13.guard = none) (g14 : o14.guard = none) (g15 : o15.guard = none) (g16 : o16.guard = none) (g17 : o17.guard = none) (g18 : o18.guard = none) (hS : S w.drew) (v0 v1 v2 v3 v4 v5 v6 v7 v8 v9 v10 : Value) (A0 A1 A2 A3 A4 A5 A6 A7 A8 A9 A10 : Act)
    (p0 : a.put o0.dst v0 = A0) (p1 : A0.put o1.dst v1 = A1) (p2 : A1.put o2.dst v2 = A2) (p3 : A2.put o3.dst v3 = A3) (p4 : A3.put o4.dst v4 = A4) (p5 : A4.put o5.dst v5 = A5) (p6 : A5.put o6.dst v6 = A6) (p7 : A6.put o7.dst v7 = A7) (p8 : A7.put o8.dst v8 = A8) (p9 : A8.put o9.dst v9 = A9) (p10 : A9.put o10.dst v10 = A10) 
    (hy0 : YieldsIf P #[o0, o1, o2, o3, o4, o5, o6, o7, o8, o9, o10, o11, o12, o13, o14, o15, o16, o17, o18] S o0 v0 a) (hy1 : YieldsIf P #[o0, o1, o2, o3, o4, o5, o6, o7, o8, o9, o10, o11, o12, o13, o14, o15, o16, o17, o18] S o1 v1 A0) (hy2 : YieldsIf P #[o0, o1, o2, o3, o4, o5, o6, o7, o8, o9, o10, o11, o12, o13, o14, o15, o16, o17, o18] S o2 v2 A1) (hy3 : YieldsIf P #[o0, o1, o2, o3, o4, o5, o6, o7, o8, o9, o10, o11, o12, o13, o14, o15, o16, o17, o18] S o3 v3 A2) (hy4 : YieldsIf P #[o0, o1, o2, o3, o4, o5, o6, o7, o8, o9, o10, o11, o12, o13, o14, o15, o16, o17, o18] S o4 v4 A3) (hy5 : YieldsIf P #[o0, o1, o2, o3, o4, o5, o6, o7, o8, o9, o10, o11, o12, o13, o14, o15, o16, o17, o18] S o5 v5 A4) (hy6 : YieldsIf P #[o0, o1, o2, o3, o4, o5, o6, o7, o8, o9, o10, o11, o12, o13, o14, o15, o16, o17, o18] S o6 v6 A5) (hy7 : YieldsIf P #[o0, o1, o2, o3, o4, o5, o6, o7, o8, o9, o10, o11, o12, o13, o14, o15, o16, o17, o18] S o7 v7 A6) (hy8 : YieldsIf P #[o0, o1, o2, o3, o4, o5, o6, o7, o8, o9, o10, o11, o12, o13, o14, o15, o16, o17, o18] S o8 v8 A7) (hy9 : YieldsIf P #[o0, o1, o2, o3, o4, o5, o6, o7, o8, o9, o10, o11, o12, o13, o14, o15, o16, o17, o18] S o9 v9 A8) (hy10 : YieldsIf P #[o0, o1, o2, o3, o4, o5, o6, o7, o8, o9, o10, o11, o12, o13, o14, o15, o16, o17, o18] S o10 v10 A9) 
    (ty : TypeId) (Z : Array Value)
    (al11 : ∀ (a' : Act) (w' : World) (K : Act → World → Prop), K (a'.put o11.dst (.pointer (some ⟨w'.heap.size, 0, none⟩))) (w'.alloc (.cells Z ty)) → o11.wp P a' w' K (NoPanic Q))
    (al12 : ∀ (a' : Act) (w' : World) (K : Act → World → Prop), K (a'.put o12.dst (.pointer (some ⟨w'.heap.size, 0, none⟩))) (w'.alloc (.cells Z ty)) → o12.wp P a' w' K (NoPanic Q))
    (al13 : ∀ (a' : Act) (w' : World) (K : Act → World → Prop), K (a'.put o13.dst (.pointer (some ⟨w'.heap.size, 0, none⟩))) (w'.alloc (.cells Z ty)) → o13.wp P a' w' K (NoPanic Q))
    (al14 : ∀ (a' : Act) (w' : World) (K : Act → World → Prop), K (a'.put o14.dst (.pointer (some ⟨w'.heap.size, 0, none⟩))) (w'.alloc (.cells Z ty)) → o14.wp P a' w' K (NoPanic Q))
    (ne12_11 : ∀ d, o12.dst = some d → o11.dst ≠ some d)
    (ne13_11 : ∀ d, o13.dst = some d → o11.dst ≠ some d)
    (ne14_11 : ∀ d, o14.dst = some d → o11.dst ≠ some d)
    (ne13_12 : ∀ d, o13.dst = some d → o12.dst ≠ some d)
    (ne14_12 : ∀ d, o14.dst = some d → o12.dst ≠ some d)
    (ne14_13 : ∀ d, o14.dst = some d → o13.dst ≠ some d)
    (hKS : ∀ w', Kept [] w.drew w' → S w')
    (c15 c16 c17 c18 : Array Value)
    (st15 : ∀ h11 h12 h13 h14 w' (K : Act → World → Prop), w'.heap[h11]? = some (.cells Z ty (0, 0)) → K ((((A10.put o11.dst (.pointer (some ⟨h11, 0, none⟩))).put o12.dst (.pointer (some ⟨h12, 0, none⟩))).put o13.dst (.pointer (some ⟨h13, 0, none⟩))).put o14.dst (.pointer (some ⟨h14, 0, none⟩))) (w'.setRow h11 c15) → o15.wp P ((((A10.put o11.dst (.pointer (some ⟨h11, 0, none⟩))).put o12.dst (.pointer (some ⟨h12, 0, none⟩))).put o13.dst (.pointer (some ⟨h13, 0, none⟩))).put o14.dst (.pointer (some ⟨h14, 0, none⟩))) w' K (NoPanic Q))
    (st16 : ∀ h11 h12 h13 h14 w' (K : Act → World → Prop), w'.heap[h12]? = some (.cells Z ty (0, 0)) → K ((((A10.put o11.dst (.pointer (some ⟨h11, 0, none⟩))).put o12.dst (.pointer (some ⟨h12, 0, none⟩))).put o13.dst (.pointer (some ⟨h13, 0, none⟩))).put o14.dst (.pointer (some ⟨h14, 0, none⟩))) (w'.setRow h12 c16) → o16.wp P ((((A10.put o11.dst (.pointer (some ⟨h11, 0, none⟩))).put o12.dst (.pointer (some ⟨h12, 0, none⟩))).put o13.dst (.pointer (some ⟨h13, 0, none⟩))).put o14.dst (.pointer (some ⟨h14, 0, none⟩))) w' K (NoPanic Q))
    (st17 : ∀ h11 h12 h13 h14 w' (K : Act → World → Prop), w'.heap[h13]? = some (.cells Z ty (0, 0)) → K ((((A10.put o11.dst (.pointer (some ⟨h11, 0, none⟩))).put o12.dst (.pointer (some ⟨h12, 0, none⟩))).put o13.dst (.pointer (some ⟨h13, 0, none⟩))).put o14.dst (.pointer (some ⟨h14, 0, none⟩))) (w'.setRow h13 c17) → o17.wp P ((((A10.put o11.dst (.pointer (some ⟨h11, 0, none⟩))).put o12.dst (.pointer (some ⟨h12, 0, none⟩))).put o13.dst (.pointer (some ⟨h13, 0, none⟩))).put o14.dst (.pointer (some ⟨h14, 0, none⟩))) w' K (NoPanic Q))
    (st18 : ∀ h11 h12 h13 h14 w' (K : Act → World → Prop), w'.heap[h14]? = some (.cells Z ty (0, 0)) → K ((((A10.put o11.dst (.pointer (some ⟨h11, 0, none⟩))).put o12.dst (.pointer (some ⟨h12, 0, none⟩))).put o13.dst (.pointer (some ⟨h13, 0, none⟩))).put o14.dst (.pointer (some ⟨h14, 0, none⟩))) (w'.setRow h14 c18) → o18.wp P ((((A10.put o11.dst (.pointer (some ⟨h11, 0, none⟩))).put o12.dst (.pointer (some ⟨h12, 0, none⟩))).put o13.dst (.pointer (some ⟨h13, 0, none⟩))).put o14.dst (.pointer (some ⟨h14, 0, none⟩))) w' K (NoPanic Q))
    (h : ∀ h11 h12 h13 h14 w', Rw w.drew w' ty [(h11, c15), (h12, c16), (h13, c17), (h14, c18)] → Q .normal ((((A10.put o11.dst (.pointer (some ⟨h11, 0, none⟩))).put o12.dst (.pointer (some ⟨h12, 0, none⟩))).put o13.dst (.pointer (some ⟨h13, 0, none⟩))).put o14.dst (.pointer (some ⟨h14, 0, none⟩))) w') :
    (Code.region id #[o0, o1, o2, o3, o4, o5, o6, o7, o8, o9, o10, o11, o12, o13, o14, o15, o16, o17, o18] true).wp P Q a w := by
  subst p0 p1 p2 p3 p4 p5 p6 p7 p8 p9 p10
  refine wp_region_noPanic ?_
  refine wp_region_held_drew (S := S) hm hS (fun hH => ?_)
  show wpAnyH P .any #[o0, o1, o2, o3, o4, o5, o6, o7, o8, o9, o10, o11, o12, o13, o14, o15, o16, o17, o18] (NoPanic Q) S 19 #[false, false, false, false, false, false, false, false, false, false, false, false, false, false, false, false, false, false, false] a w.drew
  refine wpAnyH_take (i := 0) (oi := o0) rfl hs f0 r0 (fun _ _ _ h => h) hy0 hS ?_
  refine wpAnyH_take (i := 1) (oi := o1) rfl hs f1 r1 (fun _ _ _ h => h) hy1 hS ?_
  refine wpAnyH_take (i := 2) (oi := o2) rfl hs f2 r2 (fun _ _ _ h => h) hy2 hS ?_
  refine wpAnyH_take (i := 3) (oi := o3) rfl hs f3 r3 (fun _ _ _ h => h) hy3 hS ?_
  refine wpAnyH_take (i := 4) (oi := o4) rfl hs f4 r4 (fun _ _ _ h => h) hy4 hS ?_
  refine wpAnyH_take (i := 5) (oi := o5) rfl hs f5 r5 (fun _ _ _ h => h) hy5 hS ?_
  refine wpAnyH_take (i := 6) (oi := o6) rfl hs f6 r6 (fun _ _ _ h => h) hy6 hS ?_
  refine wpAnyH_take (i := 7) (oi := o7) rfl hs f7 r7 (fun _ _ _ h => h) hy7 hS ?_
  refine wpAnyH_take (i := 8) (oi := o8) rfl hs f8 r8 (fun _ _ _ h => h) hy8 hS ?_
  refine wpAnyH_take (i := 9) (oi := o9) rfl hs f9 r9 (fun _ _ _ h => h) hy9 hS ?_
  refine wpAnyH_take (i := 10) (oi := o10) rfl hs f10 r10 (fun _ _ _ h => h) hy10 hS ?_
  generalize (((((((((((a.put o0.dst v0).put o1.dst v1).put o2.dst v2).put o3.dst v3).put o4.dst v4).put o5.dst v5).put o6.dst v6).put o7.dst v7).put o8.dst v8).put o9.dst v9).put o10.dst v10) = B at *
  have wa11 : ∀ y, Region.wanted o11 y = true := fun y => by unfold Region.wanted; rw [g11]
  have wa12 : ∀ y, Region.wanted o12 y = true := fun y => by unfold Region.wanted; rw [g12]
  have wa13 : ∀ y, Region.wanted o13 y = true := fun y => by unfold Region.wanted; rw [g13]
  have wa14 : ∀ y, Region.wanted o14 y = true := fun y => by unfold Region.wanted; rw [g14]
  have wa15 : ∀ y, Region.wanted o15 y = true := fun y => by unfold Region.wanted; rw [g15]
  have wa16 : ∀ y, Region.wanted o16 y = true := fun y => by unfold Region.wanted; rw [g16]
  have wa17 : ∀ y, Region.wanted o17 y = true := fun y => by unfold Region.wanted; rw [g17]
  have wa18 : ∀ y, Region.wanted o18 y = true := fun y => by unfold Region.wanted; rw [g18]
  have s_11_12_13_14 : ∀ h11 h12 h13 h14 w', Rw w.drew w' ty [(h11, Z), (h12, Z), (h13, Z), (h14, Z)] → wpAnyH P .any #[o0, o1, o2, o3, o4, o5, o6, o7, o8, o9, o10, o11, o12, o13, o14, o15, o16, o17, o18] (NoPanic Q) S 4 #[true, true, true, true, true, true, true, true, true, true, true, true, true, true, true, false, false, false, false] ((((B.put o11.dst (.pointer (some ⟨h11, 0, none⟩))).put o12.dst (.pointer (some ⟨h12, 0, none⟩))).put o13.dst (.pointer (some ⟨h13, 0, none⟩))).put o14.dst (.pointer (some ⟨h14, 0, none⟩))) w' := by
    intro h11 h12 h13 h14 w0 R0
    refine wpAnyH_ready (rs := [15]) r15 (by simp) (AllReadyH.cons (o := o15) rfl (fun K hK => ?_) AllReadyH.nil)
    rw [if_pos (wa15 _)]
    have R1 := Rw.store (pre := []) (post := [(h12, Z), (h13, Z), (h14, Z)]) (g := h11) (c := c15) R0
    refine st15 h11 h12 h13 h14 w0 K (R0.2.2 (h11, Z) (by simp)).2 (hK.out _ _ (hKS _ R1.1) (fun _ => ?_))
    clear hK
    refine wpAnyH_ready (rs := [16]) r16 (by simp) (AllReadyH.cons (o := o16) rfl (fun K hK => ?_) AllReadyH.nil)
    rw [if_pos (wa16 _)]
    have R2 := Rw.store (pre := [(h11, c15)]) (post := [(h13, Z), (h14, Z)]) (g := h12) (c := c16) R1
    refine st16 h11 h12 h13 h14 (w0.setRow h11 c15) K (R1.2.2 (h12, Z) (by simp)).2 (hK.out _ _ (hKS _ R2.1) (fun _ => ?_))
    clear hK
    refine wpAnyH_ready (rs := [17]) r17 (by simp) (AllReadyH.cons (o := o17) rfl (fun K hK => ?_) AllReadyH.nil)
    rw [if_pos (wa17 _)]
    have R3 := Rw.store (pre := [(h11, c15), (h12, c16)]) (post := [(h14, Z)]) (g := h13) (c := c17) R2
    refine st17 h11 h12 h13 h14 ((w0.setRow h11 c15).setRow h12 c16) K (R2.2.2 (h13, Z) (by simp)).2 (hK.out _ _ (hKS _ R3.1) (fun _ => ?_))
    clear hK
    refine wpAnyH_ready (rs := [18]) r18 (by simp) (AllReadyH.cons (o := o18) rfl (fun K hK => ?_) AllReadyH.nil)
    rw [if_pos (wa18 _)]
    have R4 := Rw.store (pre := [(h11, c15), (h12, c16), (h13, c17)]) (post := []) (g := h14) (c := c18) R3
    refine st18 h11 h12 h13 h14 (((w0.setRow h11 c15).setRow h12 c16).setRow h13 c17) K (R3.2.2 (h14, Z) (by simp)).2 (hK.out _ _ (hKS _ R4.1) (fun _ => ?_))
    clear hK
    exact ⟨rr, NoPanic.normal (h h11 h12 h13 h14 _ R4)⟩
  have s_12_13_14 : ∀ h12 h13 h14 w', Rw w.drew w' ty [(h12, Z), (h13, Z), (h14, Z)] → wpAnyH P .any #[o0, o1, o2, o3, o4, o5, o6, o7, o8, o9, o10, o11, o12, o13, o14, o15, o16, o17, o18] (NoPanic Q) S 5 #[true, true, true, true, true, true, true, true, true, true, true, false, true, true, true, false, false, false, false] (((B.put o12.dst (.pointer (some ⟨h12, 0, none⟩))).put o13.dst (.pointer (some ⟨h13, 0, none⟩))).put o14.dst (.pointer (some ⟨h14, 0, none⟩))) w' := by
    intro h12 h13 h14 w0 R0
    refine wpAnyH_ready (rs := [11]) qs_12_13_14 (by simp) (AllReadyH.cons (o := o11) rfl (fun K hK => ?_) AllReadyH.nil)
    · rw [if_pos (wa11 _)]
      refine al11 _ _ K (hK.out _ _ (hKS _ (R0.1.alloc _)) (fun _ => ?_))
      rw [Act.put_comm _ _ _ ne14_11]; rw [Act.put_comm _ _ _ ne13_11]; rw [Act.put_comm _ _ _ ne12_11]; exact s_11_12_13_14 w0.heap.size h12 h13 h14 _ ((R0.more Z).perm (List.perm_middle (l₁ := []) (l₂ := [(h12, Z), (h13, Z), (h14, Z)]) (a := (w0.heap.size, Z))).symm)
  have s_11_13_14 : ∀ h11 h13 h14 w', Rw w.drew w' ty [(h11, Z), (h13, Z), (h14, Z)] → wpAnyH P .any #[o0, o1, o2, o3, o4, o5, o6, o7, o8, o9, o10, o11, o12, o13, o14, o15, o16, o17, o18] (NoPanic Q) S 5 #[true, true, true, true, true, true, true, true, true, true, true, true, false, true, true, false, false, false, false] (((B.put o11.dst (.pointer (some ⟨h11, 0, none⟩))).put o13.dst (.pointer (some ⟨h13, 0, none⟩))).put o14.dst (.pointer (some ⟨h14, 0, none⟩))) w' := by
    intro h11 h13 h14 w0 R0
    refine wpAnyH_ready (rs := [12]) qs_11_13_14 (by simp) (AllReadyH.cons (o := o12) rfl (fun K hK => ?_) AllReadyH.nil)
    · rw [if_pos (wa12 _)]
      refine al12 _ _ K (hK.out _ _ (hKS _ (R0.1.alloc _)) (fun _ => ?_))
      rw [Act.put_comm _ _ _ ne14_12]; rw [Act.put_comm _ _ _ ne13_12]; exact s_11_12_13_14 h11 w0.heap.size h13 h14 _ ((R0.more Z).perm (List.perm_middle (l₁ := [(h11, Z)]) (l₂ := [(h13, Z), (h14, Z)]) (a := (w0.heap.size, Z))).symm)
  have s_11_12_14 : ∀ h11 h12 h14 w', Rw w.drew w' ty [(h11, Z), (h12, Z), (h14, Z)] → wpAnyH P .any #[o0, o1, o2, o3, o4, o5, o6, o7, o8, o9, o10, o11, o12, o13, o14, o15, o16, o17, o18] (NoPanic Q) S 5 #[true, true, true, true, true, true, true, true, true, true, true, true, true, false, true, false, false, false, false] (((B.put o11.dst (.pointer (some ⟨h11, 0, none⟩))).put o12.dst (.pointer (some ⟨h12, 0, none⟩))).put o14.dst (.pointer (some ⟨h14, 0, none⟩))) w' := by
    intro h11 h12 h14 w0 R0
    refine wpAnyH_ready (rs := [13]) qs_11_12_14 (by simp) (AllReadyH.cons (o := o13) rfl (fun K hK => ?_) AllReadyH.nil)
    · rw [if_pos (wa13 _)]
      refine al13 _ _ K (hK.out _ _ (hKS _ (R0.1.alloc _)) (fun _ => ?_))
      rw [Act.put_comm _ _ _ ne14_13]; exact s_11_12_13_14 h11 h12 w0.heap.size h14 _ ((R0.more Z).perm (List.perm_middle (l₁ := [(h11, Z), (h12, Z)]) (l₂ := [(h14, Z)]) (a := (w0.heap.size, Z))).symm)
  have s_11_12_13 : ∀ h11 h12 h13 w', Rw w.drew w' ty [(h11, Z), (h12, Z), (h13, Z)] → wpAnyH P .any #[o0, o1, o2, o3, o4, o5, o6, o7, o8, o9, o10, o11, o12, o13, o14, o15, o16, o17, o18] (NoPanic Q) S 5 #[true, true, true, true, true, true, true, true, true, true, true, true, true, true, false, false, false, false, false] (((B.put o11.dst (.pointer (some ⟨h11, 0, none⟩))).put o12.dst (.pointer (some ⟨h12, 0, none⟩))).put o13.dst (.pointer (some ⟨h13, 0, none⟩))) w' := by
    intro h11 h12 h13 w0 R0
    refine wpAnyH_ready (rs := [14]) qs_11_12_13 (by simp) (AllReadyH.cons (o := o14) rfl (fun K hK => ?_) AllReadyH.nil)
    · rw [if_pos (wa14 _)]
      refine al14 _ _ K (hK.out _ _ (hKS _ (R0.1.alloc _)) (fun _ => ?_))
      exact s_11_12_13_14 h11 h12 h13 w0.heap.size _ ((R0.more Z).perm (List.perm_middle (l₁ := [(h11, Z), (h12, Z), (h13, Z)]) (l₂ := []) (a := (w0.heap.size, Z))).symm)
  have s_13_14 : ∀ h13 h14 w', Rw w.drew w' ty [(h13, Z), (h14, Z)] → wpAnyH P .any #[o0, o1, o2, o3, o4, o5, o6, o7, o8, o9, o10, o11, o12, o13, o14, o15, o16, o17, o18] (NoPanic Q) S 6 #[true, true, true, true, true, true, true, true, true, true, true, false, false, true, true, false, false, false, false] ((B.put o13.dst (.pointer (some ⟨h13, 0, none⟩))).put o14.dst (.pointer (some ⟨h14, 0, none⟩))) w' := by
    intro h13 h14 w0 R0
    refine wpAnyH_ready (rs := [11, 12]) qs_13_14 (by simp) (AllReadyH.cons (o := o11) rfl (fun K hK => ?_) (AllReadyH.cons (o := o12) rfl (fun K hK => ?_) AllReadyH.nil))
    · rw [if_pos (wa11 _)]
      refine al11 _ _ K (hK.out _ _ (hKS _ (R0.1.alloc _)) (fun _ => ?_))
      rw [Act.put_comm _ _ _ ne14_11]; rw [Act.put_comm _ _ _ ne13_11]; exact s_11_13_14 w0.heap.size h13 h14 _ ((R0.more Z).perm (List.perm_middle (l₁ := []) (l₂ := [(h13, Z), (h14, Z)]) (a := (w0.heap.size, Z))).symm)
    · rw [if_pos (wa12 _)]
      refine al12 _ _ K (hK.out _ _ (hKS _ (R0.1.alloc _)) (fun _ => ?_))
      rw [Act.put_comm _ _ _ ne14_12]; rw [Act.put_comm _ _ _ ne13_12]; exact s_12_13_14 w0.heap.size h13 h14 _ ((R0.more Z).perm (List.perm_middle (l₁ := []) (l₂ := [(h13, Z), (h14, Z)]) (a := (w0.heap.size, Z))).symm)
  have s_12_14 : ∀ h12 h14 w', Rw w.drew w' ty [(h12, Z), (h14, Z)] → wpAnyH P .any #[o0, o1, o2, o3, o4, o5, o6, o7, o8, o9, o10, o11, o12, o13, o14, o15, o16, o17, o18] (NoPanic Q) S 6 #[true, true, true, true, true, true, true, true, true, true, true, false, true, false, true, false, false, false, false] ((B.put o12.dst (.pointer (some ⟨h12, 0, none⟩))).put o14.dst (.pointer (some ⟨h14, 0, none⟩))) w' := by
    intro h12 h14 w0 R0
    refine wpAnyH_ready (rs := [11, 13]) qs_12_14 (by simp) (AllReadyH.cons (o := o11) rfl (fun K hK => ?_) (AllReadyH.cons (o := o13) rfl (fun K hK => ?_) AllReadyH.nil))
    · rw [if_pos (wa11 _)]
      refine al11 _ _ K (hK.out _ _ (hKS _ (R0.1.alloc _)) (fun _ => ?_))
      rw [Act.put_comm _ _ _ ne14_11]; rw [Act.put_comm _ _ _ ne12_11]; exact s_11_12_14 w0.heap.size h12 h14 _ ((R0.more Z).perm (List.perm_middle (l₁ := []) (l₂ := [(h12, Z), (h14, Z)]) (a := (w0.heap.size, Z))).symm)
    · rw [if_pos (wa13 _)]
      refine al13 _ _ K (hK.out _ _ (hKS _ (R0.1.alloc _)) (fun _ => ?_))
      rw [Act.put_comm _ _ _ ne14_13]; exact s_12_13_14 h12 w0.heap.size h14 _ ((R0.more Z).perm (List.perm_middle (l₁ := [(h12, Z)]) (l₂ := [(h14, Z)]) (a := (w0.heap.size, Z))).symm)
  have s_12_13 : ∀ h12 h13 w', Rw w.drew w' ty [(h12, Z), (h13, Z)] → wpAnyH P .any #[o0, o1, o2, o3, o4, o5, o6, o7, o8, o9, o10, o11, o12, o13, o14, o15, o16, o17, o18] (NoPanic Q) S 6 #[true, true, true, true, true, true, true, true, true, true, true, false, true, true, false, false, false, false, false] ((B.put o12.dst (.pointer (some ⟨h12, 0, none⟩))).put o13.dst (.pointer (some ⟨h13, 0, none⟩))) w' := by
    intro h12 h13 w0 R0
    refine wpAnyH_ready (rs := [11, 14]) qs_12_13 (by simp) (AllReadyH.cons (o := o11) rfl (fun K hK => ?_) (AllReadyH.cons (o := o14) rfl (fun K hK => ?_) AllReadyH.nil))
    · rw [if_pos (wa11 _)]
      refine al11 _ _ K (hK.out _ _ (hKS _ (R0.1.alloc _)) (fun _ => ?_))
      rw [Act.put_comm _ _ _ ne13_11]; rw [Act.put_comm _ _ _ ne12_11]; exact s_11_12_13 w0.heap.size h12 h13 _ ((R0.more Z).perm (List.perm_middle (l₁ := []) (l₂ := [(h12, Z), (h13, Z)]) (a := (w0.heap.size, Z))).symm)
    · rw [if_pos (wa14 _)]
      refine al14 _ _ K (hK.out _ _ (hKS _ (R0.1.alloc _)) (fun _ => ?_))
      exact s_12_13_14 h12 h13 w0.heap.size _ ((R0.more Z).perm (List.perm_middle (l₁ := [(h12, Z), (h13, Z)]) (l₂ := []) (a := (w0.heap.size, Z))).symm)
  have s_11_14 : ∀ h11 h14 w', Rw w.drew w' ty [(h11, Z), (h14, Z)] → wpAnyH P .any #[o0, o1, o2, o3, o4, o5, o6, o7, o8, o9, o10, o11, o12, o13, o14, o15, o16, o17, o18] (NoPanic Q) S 6 #[true, true, true, true, true, true, true, true, true, true, true, true, false, false, true, false, false, false, false] ((B.put o11.dst (.pointer (some ⟨h11, 0, none⟩))).put o14.dst (.pointer (some ⟨h14, 0, none⟩))) w' := by
    intro h11 h14 w0 R0
    refine wpAnyH_ready (rs := [12, 13]) qs_11_14 (by simp) (AllReadyH.cons (o := o12) rfl (fun K hK => ?_) (AllReadyH.cons (o := o13) rfl (fun K hK => ?_) AllReadyH.nil))
    · rw [if_pos (wa12 _)]
      refine al12 _ _ K (hK.out _ _ (hKS _ (R0.1.alloc _)) (fun _ => ?_))
      rw [Act.put_comm _ _ _ ne14_12]; exact s_11_12_14 h11 w0.heap.size h14 _ ((R0.more Z).perm (List.perm_middle (l₁ := [(h11, Z)]) (l₂ := [(h14, Z)]) (a := (w0.heap.size, Z))).symm)
    · rw [if_pos (wa13 _)]
      refine al13 _ _ K (hK.out _ _ (hKS _ (R0.1.alloc _)) (fun _ => ?_))
      rw [Act.put_comm _ _ _ ne14_13]; exact s_11_13_14 h11 w0.heap.size h14 _ ((R0.more Z).perm (List.perm_middle (l₁ := [(h11, Z)]) (l₂ := [(h14, Z)]) (a := (w0.heap.size, Z))).symm)
  have s_11_13 : ∀ h11 h13 w', Rw w.drew w' ty [(h11, Z), (h13, Z)] → wpAnyH P .any #[o0, o1, o2, o3, o4, o5, o6, o7, o8, o9, o10, o11, o12, o13, o14, o15, o16, o17, o18] (NoPanic Q) S 6 #[true, true, true, true, true, true, true, true, true, true, true, true, false, true, false, false, false, false, false] ((B.put o11.dst (.pointer (some ⟨h11, 0, none⟩))).put o13.dst (.pointer (some ⟨h13, 0, none⟩))) w' := by
    intro h11 h13 w0 R0
    refine wpAnyH_ready (rs := [12, 14]) qs_11_13 (by simp) (AllReadyH.cons (o := o12) rfl (fun K hK => ?_) (AllReadyH.cons (o := o14) rfl (fun K hK => ?_) AllReadyH.nil))
    · rw [if_pos (wa12 _)]
      refine al12 _ _ K (hK.out _ _ (hKS _ (R0.1.alloc _)) (fun _ => ?_))
      rw [Act.put_comm _ _ _ ne13_12]; exact s_11_12_13 h11 w0.heap.size h13 _ ((R0.more Z).perm (List.perm_middle (l₁ := [(h11, Z)]) (l₂ := [(h13, Z)]) (a := (w0.heap.size, Z))).symm)
    · rw [if_pos (wa14 _)]
      refine al14 _ _ K (hK.out _ _ (hKS _ (R0.1.alloc _)) (fun _ => ?_))
      exact s_11_13_14 h11 h13 w0.heap.size _ ((R0.more Z).perm (List.perm_middle (l₁ := [(h11, Z), (h13, Z)]) (l₂ := []) (a := (w0.heap.size, Z))).symm)
  have s_11_12 : ∀ h11 h12 w', Rw w.drew w' ty [(h11, Z), (h12, Z)] → wpAnyH P .any #[o0, o1, o2, o3, o4, o5, o6, o7, o8, o9, o10, o11, o12, o13, o14, o15, o16, o17, o18] (NoPanic Q) S 6 #[true, true, true, true, true, true, true, true, true, true, true, true, true, false, false, false, false, false, false] ((B.put o11.dst (.pointer (some ⟨h11, 0, none⟩))).put o12.dst (.pointer (some ⟨h12, 0, none⟩))) w' := by
    intro h11 h12 w0 R0
    refine wpAnyH_ready (rs := [13, 14]) qs_11_12 (by simp) (AllReadyH.cons (o := o13) rfl (fun K hK => ?_) (AllReadyH.cons (o := o14) rfl (fun K hK => ?_) AllReadyH.nil))
    · rw [if_pos (wa13 _)]
      refine al13 _ _ K (hK.out _ _ (hKS _ (R0.1.alloc _)) (fun _ => ?_))
      exact s_11_12_13 h11 h12 w0.heap.size _ ((R0.more Z).perm (List.perm_middle (l₁ := [(h11, Z), (h12, Z)]) (l₂ := []) (a := (w0.heap.size, Z))).symm)
    · rw [if_pos (wa14 _)]
      refine al14 _ _ K (hK.out _ _ (hKS _ (R0.1.alloc _)) (fun _ => ?_))
      exact s_11_12_14 h11 h12 w0.heap.size _ ((R0.more Z).perm (List.perm_middle (l₁ := [(h11, Z), (h12, Z)]) (l₂ := []) (a := (w0.heap.size, Z))).symm)
  have s_14 : ∀ h14 w', Rw w.drew w' ty [(h14, Z)] → wpAnyH P .any #[o0, o1, o2, o3, o4, o5, o6, o7, o8, o9, o10, o11, o12, o13, o14, o15, o16, o17, o18] (NoPanic Q) S 7 #[true, true, true, true, true, true, true, true, true, true, true, false, false, false, true, false, false, false, false] (B.put o14.dst (.pointer (some ⟨h14, 0, none⟩))) w' := by
    intro h14 w0 R0
    refine wpAnyH_ready (rs := [11, 12, 13]) qs_14 (by simp) (AllReadyH.cons (o := o11) rfl (fun K hK => ?_) (AllReadyH.cons (o := o12) rfl (fun K hK => ?_) (AllReadyH.cons (o := o13) rfl (fun K hK => ?_) AllReadyH.nil)))
    · rw [if_pos (wa11 _)]
      refine al11 _ _ K (hK.out _ _ (hKS _ (R0.1.alloc _)) (fun _ => ?_))
      rw [Act.put_comm _ _ _ ne14_11]; exact s_11_14 w0.heap.size h14 _ ((R0.more Z).perm (List.perm_middle (l₁ := []) (l₂ := [(h14, Z)]) (a := (w0.heap.size, Z))).symm)
    · rw [if_pos (wa12 _)]
      refine al12 _ _ K (hK.out _ _ (hKS _ (R0.1.alloc _)) (fun _ => ?_))
      rw [Act.put_comm _ _ _ ne14_12]; exact s_12_14 w0.heap.size h14 _ ((R0.more Z).perm (List.perm_middle (l₁ := []) (l₂ := [(h14, Z)]) (a := (w0.heap.size, Z))).symm)
    · rw [if_pos (wa13 _)]
      refine al13 _ _ K (hK.out _ _ (hKS _ (R0.1.alloc _)) (fun _ => ?_))
      rw [Act.put_comm _ _ _ ne14_13]; exact s_13_14 w0.heap.size h14 _ ((R0.more Z).perm (List.perm_middle (l₁ := []) (l₂ := [(h14, Z)]) (a := (w0.heap.size, Z))).symm)
  have s_13 : ∀ h13 w', Rw w.drew w' ty [(h13, Z)] → wpAnyH P .any #[o0, o1, o2, o3, o4, o5, o6, o7, o8, o9, o10, o11, o12, o13, o14, o15, o16, o17, o18] (NoPanic Q) S 7 #[true, true, true, true, true, true, true, true, true, true, true, false, false, true, false, false, false, false, false] (B.put o13.dst (.pointer (some ⟨h13, 0, none⟩))) w' := by
    intro h13 w0 R0
    refine wpAnyH_ready (rs := [11, 12, 14]) qs_13 (by simp) (AllReadyH.cons (o := o11) rfl (fun K hK => ?_) (AllReadyH.cons (o := o12) rfl (fun K hK => ?_) (AllReadyH.cons (o := o14) rfl (fun K hK => ?_) AllReadyH.nil)))
    · rw [if_pos (wa11 _)]
      refine al11 _ _ K (hK.out _ _ (hKS _ (R0.1.alloc _)) (fun _ => ?_))
      rw [Act.put_comm _ _ _ ne13_11]; exact s_11_13 w0.heap.size h13 _ ((R0.more Z).perm (List.perm_middle (l₁ := []) (l₂ := [(h13, Z)]) (a := (w0.heap.size, Z))).symm)
    · rw [if_pos (wa12 _)]
      refine al12 _ _ K (hK.out _ _ (hKS _ (R0.1.alloc _)) (fun _ => ?_))
      rw [Act.put_comm _ _ _ ne13_12]; exact s_12_13 w0.heap.size h13 _ ((R0.more Z).perm (List.perm_middle (l₁ := []) (l₂ := [(h13, Z)]) (a := (w0.heap.size, Z))).symm)
    · rw [if_pos (wa14 _)]
      refine al14 _ _ K (hK.out _ _ (hKS _ (R0.1.alloc _)) (fun _ => ?_))
      exact s_13_14 h13 w0.heap.size _ ((R0.more Z).perm (List.perm_middle (l₁ := [(h13, Z)]) (l₂ := []) (a := (w0.heap.size, Z))).symm)
  have s_12 : ∀ h12 w', Rw w.drew w' ty [(h12, Z)] → wpAnyH P .any #[o0, o1, o2, o3, o4, o5, o6, o7, o8, o9, o10, o11, o12, o13, o14, o15, o16, o17, o18] (NoPanic Q) S 7 #[true, true, true, true, true, true, true, true, true, true, true, false, true, false, false, false, false, false, false] (B.put o12.dst (.pointer (some ⟨h12, 0, none⟩))) w' := by
    intro h12 w0 R0
    refine wpAnyH_ready (rs := [11, 13, 14]) qs_12 (by simp) (AllReadyH.cons (o := o11) rfl (fun K hK => ?_) (AllReadyH.cons (o := o13) rfl (fun K hK => ?_) (AllReadyH.cons (o := o14) rfl (fun K hK => ?_) AllReadyH.nil)))
    · rw [if_pos (wa11 _)]
      refine al11 _ _ K (hK.out _ _ (hKS _ (R0.1.alloc _)) (fun _ => ?_))
      rw [Act.put_comm _ _ _ ne12_11]; exact s_11_12 w0.heap.size h12 _ ((R0.more Z).perm (List.perm_middle (l₁ := []) (l₂ := [(h12, Z)]) (a := (w0.heap.size, Z))).symm)
    · rw [if_pos (wa13 _)]
      refine al13 _ _ K (hK.out _ _ (hKS _ (R0.1.alloc _)) (fun _ => ?_))
      exact s_12_13 h12 w0.heap.size _ ((R0.more Z).perm (List.perm_middle (l₁ := [(h12, Z)]) (l₂ := []) (a := (w0.heap.size, Z))).symm)
    · rw [if_pos (wa14 _)]
      refine al14 _ _ K (hK.out _ _ (hKS _ (R0.1.alloc _)) (fun _ => ?_))
      exact s_12_14 h12 w0.heap.size _ ((R0.more Z).perm (List.perm_middle (l₁ := [(h12, Z)]) (l₂ := []) (a := (w0.heap.size, Z))).symm)
  have s_11 : ∀ h11 w', Rw w.drew w' ty [(h11, Z)] → wpAnyH P .any #[o0, o1, o2, o3, o4, o5, o6, o7, o8, o9, o10, o11, o12, o13, o14, o15, o16, o17, o18] (NoPanic Q) S 7 #[true, true, true, true, true, true, true, true, true, true, true, true, false, false, false, false, false, false, false] (B.put o11.dst (.pointer (some ⟨h11, 0, none⟩))) w' := by
    intro h11 w0 R0
    refine wpAnyH_ready (rs := [12, 13, 14]) qs_11 (by simp) (AllReadyH.cons (o := o12) rfl (fun K hK => ?_) (AllReadyH.cons (o := o13) rfl (fun K hK => ?_) (AllReadyH.cons (o := o14) rfl (fun K hK => ?_) AllReadyH.nil)))
    · rw [if_pos (wa12 _)]
      refine al12 _ _ K (hK.out _ _ (hKS _ (R0.1.alloc _)) (fun _ => ?_))
      exact s_11_12 h11 w0.heap.size _ ((R0.more Z).perm (List.perm_middle (l₁ := [(h11, Z)]) (l₂ := []) (a := (w0.heap.size, Z))).symm)
    · rw [if_pos (wa13 _)]
      refine al13 _ _ K (hK.out _ _ (hKS _ (R0.1.alloc _)) (fun _ => ?_))
      exact s_11_13 h11 w0.heap.size _ ((R0.more Z).perm (List.perm_middle (l₁ := [(h11, Z)]) (l₂ := []) (a := (w0.heap.size, Z))).symm)
    · rw [if_pos (wa14 _)]
      refine al14 _ _ K (hK.out _ _ (hKS _ (R0.1.alloc _)) (fun _ => ?_))
      exact s_11_14 h11 w0.heap.size _ ((R0.more Z).perm (List.perm_middle (l₁ := [(h11, Z)]) (l₂ := []) (a := (w0.heap.size, Z))).symm)
  have s : ∀ w', Rw w.drew w' ty [] → wpAnyH P .any #[o0, o1, o2, o3, o4, o5, o6, o7, o8, o9, o10, o11, o12, o13, o14, o15, o16, o17, o18] (NoPanic Q) S 8 #[true, true, true, true, true, true, true, true, true, true, true, false, false, false, false, false, false, false, false] B w' := by
    intro w0 R0
    refine wpAnyH_ready (rs := [11, 12, 13, 14]) qs (by simp) (AllReadyH.cons (o := o11) rfl (fun K hK => ?_) (AllReadyH.cons (o := o12) rfl (fun K hK => ?_) (AllReadyH.cons (o := o13) rfl (fun K hK => ?_) (AllReadyH.cons (o := o14) rfl (fun K hK => ?_) AllReadyH.nil))))
    · rw [if_pos (wa11 _)]
      refine al11 _ _ K (hK.out _ _ (hKS _ (R0.1.alloc _)) (fun _ => ?_))
      exact s_11 w0.heap.size _ ((R0.more Z).perm (List.perm_middle (l₁ := []) (l₂ := []) (a := (w0.heap.size, Z))).symm)
    · rw [if_pos (wa12 _)]
      refine al12 _ _ K (hK.out _ _ (hKS _ (R0.1.alloc _)) (fun _ => ?_))
      exact s_12 w0.heap.size _ ((R0.more Z).perm (List.perm_middle (l₁ := []) (l₂ := []) (a := (w0.heap.size, Z))).symm)
    · rw [if_pos (wa13 _)]
      refine al13 _ _ K (hK.out _ _ (hKS _ (R0.1.alloc _)) (fun _ => ?_))
      exact s_13 w0.heap.size _ ((R0.more Z).perm (List.perm_middle (l₁ := []) (l₂ := []) (a := (w0.heap.size, Z))).symm)
    · rw [if_pos (wa14 _)]
      refine al14 _ _ K (hK.out _ _ (hKS _ (R0.1.alloc _)) (fun _ => ?_))
      exact s_14 w0.heap.size _ ((R0.more Z).perm (List.perm_middle (l₁ := []) (l₂ := []) (a := (w0.heap.size, Z))).symm)
  exact s w.drew (Rw.nil _ ty)

end
end Go.Proofs.YtmgjdcpfeihioaaDoor
/-
  A region that draws its order, with loads that must come ahead of SOME of its stores only ('a, b = b, a' of whole rows): what holds of the world hangs on what has been carried out. No program.
-/
namespace Go.Proofs.YtmgjdcpfeihioaaDoor
open Go
set_option linter.unusedVariables false
set_option linter.unusedSimpArgs false
section
variable {P : Program} {ops : Array Oper} {Q : Exit → Act → World → Prop} {md : Region.Mode} {S : Array Bool → World → Prop}

/-- Whatever comes up, S holds of what has come up and of the world behind it. -/
def AnyL (P : Program) (md : Region.Mode) (ops : Array Oper) (Q : Exit → Act → World → Prop) (S : Array Bool → World → Prop) : Nat → Array Bool → Act → World → Prop
  | 0, d, a, w => Region.ready md ops d = [] ∧ Q .normal a w
  | g + 1, d, a, w => (Region.ready md ops d = [] → Q .normal a w) ∧ ∀ i ∈ Region.ready md ops d, wpOp P ops Q i (fun a' w' => S (d.setIfInBounds i true) w' ∧ AnyL P md ops Q S g (d.setIfInBounds i true) a' w') a w

theorem AnyL.any : ∀ (g : Nat) (d : Array Bool) (a : Act) (w : World), AnyL P md ops Q S g d a w → wpAny P md ops Q g d a w
  | 0, _, _, _, h => h
  | g + 1, _, _, _, h => ⟨h.1, fun i hi => wpOp_mono (fun a' w' h' => AnyL.any g _ a' w' h'.2) (h.2 i hi)⟩

/-- Number i may be taken first, if it yields its value in every world that meets T, S says T as long as number t has not come up, and t waits for i. -/
theorem AnyL.first {i t : Nat} {oi ot : Oper} {v : Value} {T : World → Prop} (hi : ops[i]? = some oi) (ht : ops[t]? = some ot) (hit : t ≠ i) (hb : ∃ e ∈ ot.after, Region.binds md e = true ∧ e.on = i)
    (hsel : ∀ (j : Nat) (o : Oper) cs b, ops[j]? = some o → o.op ≠ .select cs b) (hQ : ∀ c a w, Q (.panic c) (a.put oi.dst v) w → Q (.panic c) a w)
    (hST : ∀ d w, S d w → d.getD t true = false → T w) (hSi : ∀ d w, S (d.setIfInBounds i true) w ↔ S d w) :
    ∀ (g : Nat) (d : Array Bool) (a : Act) (w : World),
      (∀ j oj, ops[j]? = some oj → j ≠ i → d.getD j true = false → (∀ e ∈ oj.after, Region.binds md e = true → e.on ≠ i) → oi.apart ops oj = true) →
      i ∈ Region.ready md ops d → YieldsIf P ops T oi v a → d.getD t true = false → S d w →
      AnyL P md ops Q S g (d.setIfInBounds i true) (a.put oi.dst v) w → AnyL P md ops Q S (g + 1) d a w := by
  intro g
  induction g with
  | zero =>
    intro d a w _ hr hy hdt hS H
    refine ⟨fun h => (by rw [h] at hr; cases hr), fun j hj => ?_⟩
    by_cases hji : j = i
    · subst hji; exact hy.wpOp hi (hST d w hS hdt) ⟨(hSi d w).2 hS, H⟩
    · have := ready_mono hj hji
      rw [H.1] at this
      cases this
  | succ g ih =>
    intro d a w hfree hr hy hdt hS H
    refine ⟨fun h => (by rw [h] at hr; cases hr), fun j hj => ?_⟩
    by_cases hji : j = i
    · subst hji; exact hy.wpOp hi (hST d w hS hdt) ⟨(hSi d w).2 hS, H⟩
    · have h1 := H.2 j (ready_mono hj hji)
      obtain ⟨hjun, oj, hoj, hall⟩ := mem_ready.1 hj
      have hnot : ∀ e ∈ oj.after, Region.binds md e = true → e.on ≠ i := fun e he hb heq => by
        have h1 := hall e he hb
        have h0 := (mem_ready.1 hr).1
        rw [heq] at h1
        rcases Nat.lt_or_ge i d.size with h' | h'
        · simp [h'] at h0 h1; rw [h0] at h1; cases h1
        · simp [Array.getElem?_eq_none h'] at h1
      have hjt : j ≠ t := fun e9 => by
        subst e9
        rw [ht] at hoj
        injection hoj with hoj
        obtain ⟨e, he, hb1, hb2⟩ := hb
        exact hnot e (by rw [← hoj]; exact he) hb1 hb2
      have h2 := wpOp_putIf hoj (hfree j oj hoj hji hjun hnot) (fun cs b => hsel i oi cs b hi) (fun cs b => hsel j oj cs b hoj) hQ hy h1
      refine wpOp_mono (fun a' w' h3 => ?_) h2
      have hc := Array.setIfInBounds_comm (xs := d) true true hji
      have hS' : S (d.setIfInBounds j true) w' := (hSi _ w').1 (by rw [hc]; exact h3.2.1)
      refine ⟨hS', ih (d.setIfInBounds j true) a' w' (fun k ok hk hki hun hno => ?_) (ready_mono hr (Ne.symm hji)) h3.1 ?_ hS' ?_⟩
      · refine hfree k ok hk hki ?_ hno
        by_cases hjk : j = k
        · subst hjk; exact hjun
        · rw [getD_set_ne true hjk] at hun; exact hun
      · rw [getD_set_ne true hjt]; exact hdt
      · rw [hc]; exact h3.2.2
theorem AnyL.take {i t : Nat} {oi ot : Oper} {v : Value} {T : World → Prop} {g : Nat} {d : Array Bool} {a : Act} {w : World} (hi : ops[i]? = some oi) (ht : ops[t]? = some ot) (hit : t ≠ i) (hs : Region.noSelect ops = true) (hf : Region.free md ops d i = true)
    (hr : (Region.ready md ops d).contains i = true) (hb : ot.after.any (fun e => Region.binds md e && e.on == i) = true) (hQ : ∀ c a w, Q (.panic c) (a.put oi.dst v) w → Q (.panic c) a w)
    (hST : ∀ d w, S d w → d.getD t true = false → T w) (hSi : ∀ d w, S (d.setIfInBounds i true) w ↔ S d w) (hy : YieldsIf P ops T oi v a) (hd : d.getD t true = false) (hS : S d w)
    (h : AnyL P md ops Q S g (d.setIfInBounds i true) (a.put oi.dst v) w) : AnyL P md ops Q S (g + 1) d a w := by
  refine AnyL.first hi ht hit ?_ (Region.noSelect_spec hs) hQ hST hSi g d a w (Region.free_spec hi hf) (by simpa using hr) hy hd hS h
  obtain ⟨e, he, h9⟩ := Array.any_eq_true'.1 hb
  simp only [Bool.and_eq_true, beq_iff_eq] at h9
  exact ⟨e, he, h9⟩
theorem AnyL.forced {i : Nat} {o : Oper} {g : Nat} {d : Array Bool} {a : Act} {w : World} (hr : Region.ready md ops d = [i]) (ho : ops[i]? = some o) (hg : o.guard = none)
    (h : ∀ K : Act → World → Prop, (∀ a' w', S (d.setIfInBounds i true) w' → AnyL P md ops Q S g (d.setIfInBounds i true) a' w' → K a' w') → o.wp P a w K Q) : AnyL P md ops Q S (g + 1) d a w := by
  refine ⟨fun h0 => (by rw [hr] at h0; cases h0), fun j hj => ?_⟩
  rw [hr] at hj
  obtain rfl : j = i := by simpa using hj
  refine wpOp_step ho (fun K' hK => ?_)
  rw [if_pos (by unfold Region.wanted; rw [hg])]
  exact h K' (fun a' w' h1 h2 => hK a' w' ⟨h1, h2⟩)
end

section
variable {P : Program} {Q : Exit → Act → World → Prop}
theorem wp_swap8 {id : Nat} {o0 o1 o2 o3 o4 o5 o6 o7 : Oper} {a : Act} {w : World} (T4 T6 : World → Prop) (hm : P.follows .mixedOrders = true) (hs : Region.noSelect #[o0, o1, o2, o3, o4, o5, o6, o7] = true)
    (f0 : Region.free .any #[o0, o1, o2, o3, o4, o5, o6, o7] #[false, false, false, false, false, false, false, false] 0 = true) (r0 : (Region.ready .any #[o0, o1, o2, o3, o4, o5, o6, o7] #[false, false, false, false, false, false, false, false]).contains 0 = true) (e0 : o4.after.any (fun e => Region.binds .any e && e.on == 0) = true)
    (f1 : Region.free .any #[o0, o1, o2, o3, o4, o5, o6, o7] #[true, false, false, false, false, false, false, false] 1 = true) (r1 : (Region.ready .any #[o0, o1, o2, o3, o4, o5, o6, o7] #[true, false, false, false, false, false, false, false]).contains 1 = true) (e1 : o4.after.any (fun e => Region.binds .any e && e.on == 1) = true)
    (f2 : Region.free .any #[o0, o1, o2, o3, o4, o5, o6, o7] #[true, true, false, false, false, false, false, false] 2 = true) (r2 : (Region.ready .any #[o0, o1, o2, o3, o4, o5, o6, o7] #[true, true, false, false, false, false, false, false]).contains 2 = true) (e2 : o6.after.any (fun e => Region.binds .any e && e.on == 2) = true)
    (f3 : Region.free .any #[o0, o1, o2, o3, o4, o5, o6, o7] #[true, true, true, false, false, false, false, false] 3 = true) (r3 : (Region.ready .any #[o0, o1, o2, o3, o4, o5, o6, o7] #[true, true, true, false, false, false, false, false]).contains 3 = true) (e3 : o4.after.any (fun e => Region.binds .any e && e.on == 3) = true)
    (r4 : Region.ready .any #[o0, o1, o2, o3, o4, o5, o6, o7] #[true, true, true, true, false, false, false, false] = [4]) (g4 : o4.guard = none)
    (r5 : Region.ready .any #[o0, o1, o2, o3, o4, o5, o6, o7] #[true, true, true, true, true, false, false, false] = [5]) (g5 : o5.guard = none)
    (r6 : Region.ready .any #[o0, o1, o2, o3, o4, o5, o6, o7] #[true, true, true, true, true, true, false, false] = [6]) (g6 : o6.guard = none)
    (r7 : Region.ready .any #[o0, o1, o2, o3, o4, o5, o6, o7] #[true, true, true, true, true, true, true, false] = [7]) (g7 : o7.guard = none)
    (rr : Region.ready .any #[o0, o1, o2, o3, o4, o5, o6, o7] #[true, true, true, true, true, true, true, true] = []) (hT4 : T4 w.drew) (hT6 : T6 w.drew) (v0 v1 v2 v3 : Value) (A0 A1 A2 A3 : Act)
    (p0 : a.put o0.dst v0 = A0) (p1 : A0.put o1.dst v1 = A1) (p2 : A1.put o2.dst v2 = A2) (p3 : A2.put o3.dst v3 = A3)
    (hy0 : YieldsIf P #[o0, o1, o2, o3, o4, o5, o6, o7] T4 o0 v0 a) (hy1 : YieldsIf P #[o0, o1, o2, o3, o4, o5, o6, o7] T4 o1 v1 A0) (hy2 : YieldsIf P #[o0, o1, o2, o3, o4, o5, o6, o7] T6 o2 v2 A1) (hy3 : YieldsIf P #[o0, o1, o2, o3, o4, o5, o6, o7] T4 o3 v3 A2)
    (W1 W2 W3 W4 : World) (s4 : ∀ K : Act → World → Prop, K A3 W1 → o4.wp P A3 w.drew K (NoPanic Q)) (k4 : T6 W1) (s5 : ∀ K : Act → World → Prop, K A3 W2 → o5.wp P A3 W1 K (NoPanic Q)) (k5 : T6 W2)
    (s6 : ∀ K : Act → World → Prop, K A3 W3 → o6.wp P A3 W2 K (NoPanic Q)) (s7 : ∀ K : Act → World → Prop, K A3 W4 → o7.wp P A3 W3 K (NoPanic Q)) (h : Q .normal A3 W4) :
    (Code.region id #[o0, o1, o2, o3, o4, o5, o6, o7] true).wp P Q a w := by
  subst p0 p1 p2 p3
  refine wp_region_noPanic ?_
  refine wp_region_any hm ?_
  refine AnyL.any (S := fun d w' => (d.getD 4 true = false → T4 w') ∧ (d.getD 6 true = false → T6 w')) _ _ _ _ ?_
  show AnyL P .any #[o0, o1, o2, o3, o4, o5, o6, o7] (NoPanic Q) _ 8 #[false, false, false, false, false, false, false, false] a w.drew
  have hSi : ∀ i, i ≠ 4 → i ≠ 6 → ∀ (d : Array Bool) (w' : World), (((d.setIfInBounds i true).getD 4 true = false → T4 w') ∧ ((d.setIfInBounds i true).getD 6 true = false → T6 w')) ↔ ((d.getD 4 true = false → T4 w') ∧ (d.getD 6 true = false → T6 w')) := by
    intro i h4 h6 d w'
    rw [getD_set_ne true h4, getD_set_ne true h6]
  have hS0 : ∀ d : Array Bool, (d.getD 4 true = false → T4 w.drew) ∧ (d.getD 6 true = false → T6 w.drew) := fun d => ⟨fun _ => hT4, fun _ => hT6⟩
  refine AnyL.take (i := 0) (t := 4) (oi := o0) (ot := o4) (T := T4) rfl rfl (by decide) hs f0 r0 e0 (fun _ _ _ h => h) (fun d w' h9 hd => h9.1 hd) (hSi 0 (by decide) (by decide)) hy0 rfl (hS0 _) ?_
  refine AnyL.take (i := 1) (t := 4) (oi := o1) (ot := o4) (T := T4) rfl rfl (by decide) hs f1 r1 e1 (fun _ _ _ h => h) (fun d w' h9 hd => h9.1 hd) (hSi 1 (by decide) (by decide)) hy1 rfl (hS0 _) ?_
  refine AnyL.take (i := 2) (t := 6) (oi := o2) (ot := o6) (T := T6) rfl rfl (by decide) hs f2 r2 e2 (fun _ _ _ h => h) (fun d w' h9 hd => h9.2 hd) (hSi 2 (by decide) (by decide)) hy2 rfl (hS0 _) ?_
  refine AnyL.take (i := 3) (t := 4) (oi := o3) (ot := o4) (T := T4) rfl rfl (by decide) hs f3 r3 e3 (fun _ _ _ h => h) (fun d w' h9 hd => h9.1 hd) (hSi 3 (by decide) (by decide)) hy3 rfl (hS0 _) ?_
  refine AnyL.forced r4 rfl g4 (fun K hK => s4 K (hK _ _ ⟨fun h9 => (by cases h9), fun _ => k4⟩ ?_))
  refine AnyL.forced r5 rfl g5 (fun K hK => s5 K (hK _ _ ⟨fun h9 => (by cases h9), fun _ => k5⟩ ?_))
  refine AnyL.forced r6 rfl g6 (fun K hK => s6 K (hK _ _ ⟨fun h9 => (by cases h9), fun h9 => (by cases h9)⟩ ?_))
  refine AnyL.forced r7 rfl g7 (fun K hK => s7 K (hK _ _ ⟨fun h9 => (by cases h9), fun h9 => (by cases h9)⟩ ?_))
  exact ⟨rr, NoPanic.normal h⟩
theorem wp_asg4 {id : Nat} {o0 o1 o2 o3 : Oper} {a : Act} {w : World} (S : World → Prop) (hm : P.follows .mixedOrders = true) (hs : Region.noSelect #[o0, o1, o2, o3] = true)
    (f0 : Region.free .any #[o0, o1, o2, o3] #[false, false, false, false] 0 = true) (r0 : (Region.ready .any #[o0, o1, o2, o3] #[false, false, false, false]).contains 0 = true) (f1 : Region.free .any #[o0, o1, o2, o3] #[true, false, false, false] 1 = true) (r1 : (Region.ready .any #[o0, o1, o2, o3] #[true, false, false, false]).contains 1 = true)
    (r2 : Region.ready .any #[o0, o1, o2, o3] #[true, true, false, false] = [2]) (r3 : Region.ready .any #[o0, o1, o2, o3] #[true, true, true, false] = [3]) (rr : Region.ready .any #[o0, o1, o2, o3] #[true, true, true, true] = []) (g2 : o2.guard = none) (g3 : o3.guard = none)
    (hS : S w.drew) (v0 v1 : Value) (A0 A1 : Act) (p0 : a.put o0.dst v0 = A0) (p1 : A0.put o1.dst v1 = A1) (hy0 : YieldsIf P #[o0, o1, o2, o3] S o0 v0 a) (hy1 : YieldsIf P #[o0, o1, o2, o3] S o1 v1 A0)
    (W1 W2 : World) (s2 : ∀ K : Act → World → Prop, K A1 W1 → o2.wp P A1 w.drew K (NoPanic Q)) (k2 : S W1) (s3 : ∀ K : Act → World → Prop, K A1 W2 → o3.wp P A1 W1 K (NoPanic Q)) (k3 : S W2) (h : Q .normal A1 W2) :
    (Code.region id #[o0, o1, o2, o3] true).wp P Q a w := by
  subst p0 p1
  refine wp_region_noPanic ?_
  refine wp_region_held_drew (S := S) hm hS (fun hH => ?_)
  show wpAnyH P .any #[o0, o1, o2, o3] (NoPanic Q) S 4 #[false, false, false, false] a w.drew
  refine wpAnyH_take (i := 0) (oi := o0) rfl hs f0 r0 (fun _ _ _ h => h) hy0 hS ?_
  refine wpAnyH_take (i := 1) (oi := o1) rfl hs f1 r1 (fun _ _ _ h => h) hy1 hS ?_
  refine wpAnyH_ready (rs := [2]) r2 (by simp) (AllReadyH.cons (o := o2) rfl (fun K hK => ?_) AllReadyH.nil)
  have wa : ∀ y, Region.wanted o2 y = true := fun y => by unfold Region.wanted; rw [g2]
  rw [if_pos (wa _)]
  refine s2 K (hK.out _ _ k2 (fun _ => ?_))
  refine wpAnyH_ready (rs := [3]) r3 (by simp) (AllReadyH.cons (o := o3) rfl (fun K hK => ?_) AllReadyH.nil)
  have wb : ∀ y, Region.wanted o3 y = true := fun y => by unfold Region.wanted; rw [g3]
  rw [if_pos (wb _)]
  refine s3 K (hK.out _ _ k3 (fun _ => ?_))
  exact ⟨rr, NoPanic.normal h⟩
end
end Go.Proofs.YtmgjdcpfeihioaaDoor
