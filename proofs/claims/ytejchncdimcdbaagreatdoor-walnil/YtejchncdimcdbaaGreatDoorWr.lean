import Derived.Test.YtejchncdimcdbaaGreatDoorCloned
namespace Go.Proofs.YtejchncdimcdbaaGreatDoor
open Go.RowKit
set_option maxRecDepth 100000

/-- A Writer at the block b: its field holds v, which owns the bytes bs. -/
structure WrAt (w : World) (b : Nat) (v : Value) (bs : List Nat) : Prop where
  at_ : w.heap[b]? = some (.cells #[v] 236 (0, 0))
  own : w.ownsRow 0 5 1 v bs.length (bs.map u8)
  byte : ∀ x ∈ bs, x < 256
/-- What a Writer's call may turn: its own block and its row. -/
structure Grew (b : Nat) (v v' : Value) (w w' : World) : Prop where
  kept : Kept (b :: v.ownBlock.toList) w w'
  own : v'.ownBlock = v.ownBlock ∨ ∃ g, v'.ownBlock = some g ∧ w.heap.size ≤ g
theorem Grew.refl (b : Nat) (v : Value) (w : World) : Grew b v v w w := ⟨Kept.refl _ _, .inl rfl⟩
theorem Grew.trans {b : Nat} {v1 v2 v3 : Value} {w1 w2 w3 : World} (h : Grew b v1 v2 w1 w2) (k : Grew b v2 v3 w2 w3) : Grew b v1 v3 w1 w3 := by
  refine ⟨h.kept.trans k.kept ?_, ?_⟩
  · intro x hx
    simp only [List.mem_cons, Option.mem_toList] at hx
    rcases hx with rfl | hx
    · left; simp
    · rcases h.own with h1 | ⟨g, h1, h2⟩
      · left; rw [h1] at hx; simp [hx]
      · right; rw [h1] at hx; cases hx; exact h2
  · rcases k.own with k1 | ⟨g, k1, k2⟩
    · rw [k1]; rcases h.own with h1 | h1
      · exact .inl h1
      · exact .inr h1
    · exact .inr ⟨g, k1, Nat.le_trans h.kept.size k2⟩
theorem WrAt.ne {w : World} {b : Nat} {v : Value} {bs : List Nat} (h : WrAt w b v bs) : v.ownBlock ≠ some b := by
  intro e
  rcases h.own.2 with ⟨rfl, _⟩ | ⟨g, cap, cur, rfl, _, hg, _⟩
  · simp [Value.ownBlock] at e
  · simp [Value.ownBlock] at e
    subst e
    rw [h.at_] at hg; simp at hg
theorem WrAt.lt {w : World} {b : Nat} {v : Value} {bs : List Nat} (h : WrAt w b v bs) : b < w.heap.size := lt_of_block h.at_
theorem WrAt.ownlt {w : World} {b : Nat} {v : Value} {bs : List Nat} (h : WrAt w b v bs) {g : Nat} (hg : v.ownBlock = some g) : g < w.heap.size := (h.own.lt g hg).2
theorem WrAt.kept {L : List Nat} {w w' : World} {b : Nat} {v : Value} {bs : List Nat} (h : WrAt w b v bs) (k : Kept L w w') (hb : b ∉ L) (hv : ∀ g, v.ownBlock = some g → g ∉ L) : WrAt w' b v bs :=
  ⟨k.heap h.at_ hb, k.owns h.own hv, h.byte⟩
/-- What the writer's field reads as. -/
theorem WrAt.rd {w : World} {b : Nat} {v : Value} {bs : List Nat} (h : WrAt w b v bs) (hl : bs.length ≤ 140737488355328) : Rd w v bs := by
  rcases h.own.2 with ⟨rfl, h0⟩ | ⟨g, cap, cur, rfl, _, hg, hc, hm, hs, ht⟩
  · have : bs = [] := List.eq_nil_of_length_eq_zero h0
    subst this
    exact Rd.nil w
  · refine ⟨_, _, _, rfl, rfl, hc, ⟨by unfold maxLen at hm; omega, hl⟩, by simp, h.byte, fun _ => ⟨g, 0, rfl, fun i hi => ?_⟩⟩
    have := h.own.cells (g := g) rfl i (u8 (bs.getD i 0)) (by rw [List.getElem?_map, List.getD_eq_getElem?_getD, List.getElem?_eq_getElem hi]; rfl)
    rw [Addr.add_mid] at this; exact this
theorem WrAt.alloc {w : World} {b : Nat} {v : Value} {bs : List Nat} (h : WrAt w b v bs) (o : Obj) : WrAt (w.alloc o) b v bs :=
  h.kept ((Kept.refl [] w).alloc o) (by simp) (by simp)
theorem WrAt.drew {w : World} {b : Nat} {v : Value} {bs : List Nat} (h : WrAt w b v bs) : WrAt w.drew b v bs := ⟨h.at_, h.own, h.byte⟩
theorem WrAt.drewN {w : World} {b : Nat} {v : Value} {bs : List Nat} (h : WrAt w b v bs) (n : Nat) : WrAt (w.drewN n) b v bs := ⟨h.at_, h.own, h.byte⟩
theorem Grew.alloc {a w : World} {b : Nat} {v v' : Value} (h : Grew b v v' a w) (o : Obj) : Grew b v v' a (w.alloc o) := ⟨h.kept.alloc o, h.own⟩
theorem Grew.drew {a w : World} {b : Nat} {v v' : Value} (h : Grew b v v' a w) : Grew b v v' a w.drew := ⟨h.kept.drew, h.own⟩
/-- What a Writer owns that was made behind B lies behind B. -/
theorem Grew.fresh {b B : Nat} {v v' : Value} {w w' : World} (h : Grew b v v' w w') (hv : ∀ g, v.ownBlock = some g → B ≤ g) (hB : B ≤ w.heap.size) : ∀ g, v'.ownBlock = some g → B ≤ g := by
  intro g hg
  rcases h.own with h1 | ⟨k, h1, h2⟩
  · exact hv g (by rw [← h1]; exact hg)
  · rw [h1] at hg; cases hg; omega
/-- .. and nothing that was there at B has turned. -/
theorem Grew.keptNil {b : Nat} {v v' : Value} {a w w' : World} (h : Grew b v v' w w') (k : Kept [] a w) (hb : a.heap.size ≤ b) (hv : ∀ g, v.ownBlock = some g → a.heap.size ≤ g) : Kept [] a w' :=
  k.trans h.kept (by intro x hx; right; simp only [List.mem_cons, Option.mem_toList] at hx; rcases hx with rfl | hx; exact hb; exact hv x hx)
/-- One byte more: the byte lies in a block of its own, H. -/
theorem push (w : World) (b : Nat) (v : Value) (bs : List Nat) (z : Int) (H : Nat) (h : WrAt w b v bs) (hnew : w.heap[H]? = some (.cells #[.int .u8 z] 5 (0, 0))) (z0 : 0 ≤ z) (z1 : z < 256) (hl : bs.length + 1 ≤ 140737488355328) :
    ∃ g cap w1, (Builtin.append_ #[72, 72] 72 #[v, .slice (some ⟨H, 0, none⟩) 1 1]).run Tryz.prog w = .ok (.slice (some ⟨g, 0, none⟩) (bs.length + 1) cap) w1 ∧
      w1.heap[b]? = some (.cells #[v] 236 (0, 0)) ∧
      WrAt (w1.setCell ⟨b, 0, none⟩ (.slice (some ⟨g, 0, none⟩) (bs.length + 1) cap)) b (.slice (some ⟨g, 0, none⟩) (bs.length + 1) cap) (bs ++ [z.toNat]) ∧
      Grew b v (.slice (some ⟨g, 0, none⟩) (bs.length + 1) cap) w (w1.setCell ⟨b, 0, none⟩ (.slice (some ⟨g, 0, none⟩) (bs.length + 1) cap)) := by
  obtain ⟨i0, hi, hz0, hz1, hz2⟩ := info_parts Tryz.info5
  obtain ⟨g, cap, w1, hr, hown, hgrow, hat, hlt⟩ := run_append_lies (P := Tryz.prog) w 72 72 0 5 i0 (.int .u8 0) 1 1 Tryz.underlying72 hi hz0 hz1 hz2 rfl (by decide)
    v bs.length (bs.map u8) h.own ⟨H, 0, none⟩ 1 1 [.int .u8 z] rfl (World.news_of_block hnew) (by simp [Value.oneCell']) (by decide) (by unfold maxLen; omega) (by omega) (Nat.zero_le _) _ rfl
  have hb1 : w1.heap[b]? = some (.cells #[v] 236 (0, 0)) := by
    rw [hgrow.block b h.lt (Ne.symm h.ne)]; exact h.at_
  refine ⟨g, cap, w1, hr, hb1, ⟨one_setCell hb1, ?_, ?_⟩, ⟨?_, ?_⟩⟩
  · have e : (bs ++ [z.toNat]).length = bs.length + 1 := by simp
    have e2 : (bs ++ [z.toNat]).map u8 = bs.map u8 ++ [.int .u8 z] := by
      rw [List.map_append]; congr 1; simp [u8]; omega
    rw [e, e2]
    refine ownsRow_setCell_other hown ?_ _
    intro e3
    simp [Value.ownBlock] at e3
    subst e3
    rcases hown.2 with ⟨h1, _⟩ | ⟨g', cap', cur, h1, _, h2, _⟩
    · cases h1
    · cases h1; rw [hb1] at h2; simp at h2
  · intro x hx; simp at hx; rcases hx with hx | rfl; exact h.byte x hx; omega
  · have k1 : Kept (b :: v.ownBlock.toList) w w1 := (Kept.refl (b :: v.ownBlock.toList) w).grown hgrow (by intro k hk; left; simp [hk])
    exact k1.setCell (by simp) _
  · rcases hat with hat | hat
    · left; rw [hat]; rfl
    · right; exact ⟨g, rfl, by rw [hat]; exact Nat.le_refl _⟩
/-- The same at an append, behind its operation. -/
theorem wp_push {o : Oper} {a : Act} {K : Act → World → Prop} {Q : Exit → Act → World → Prop} (s x : Operand)
    (ho : o.op = .call { callee := .builtin .append, args := #[s, x], argTypes := #[72, 72] }) (hty : o.type = 72)
    (w : World) (b : Nat) (v : Value) (bs : List Nat) (z : Int) (H : Nat) (h : WrAt w b v bs) (hnew : w.heap[H]? = some (.cells #[.int .u8 z] 5 (0, 0))) (z0 : 0 ≤ z) (z1 : z < 256) (hl : bs.length + 1 ≤ 140737488355328)
    (hs : a.eval s = v) (hx : a.eval x = .slice (some ⟨H, 0, none⟩) 1 1)
    (hK : ∀ g cap w1, w1.cell? ⟨b, 0, none⟩ = some v → w1.frozen? ⟨b, 0, none⟩ = false →
      Hid (WrAt (w1.setCell ⟨b, 0, none⟩ (.slice (some ⟨g, 0, none⟩) (bs.length + 1) cap)) b (.slice (some ⟨g, 0, none⟩) (bs.length + 1) cap) (bs ++ [z.toNat])) →
      Hid (Grew b v (.slice (some ⟨g, 0, none⟩) (bs.length + 1) cap) w (w1.setCell ⟨b, 0, none⟩ (.slice (some ⟨g, 0, none⟩) (bs.length + 1) cap))) →
      K (a.put o.dst (.slice (some ⟨g, 0, none⟩) (bs.length + 1) cap)) w1) : o.wp Tryz.prog a w K Q := by
  obtain ⟨g, cap, w1, hr, hb1, h2, h3⟩ := push w b v bs z H h hnew z0 z1 hl
  unfold Oper.wp execOp
  simp only [ho, hty, resolve, invoke, builtin, Sem.run_bind, Sem.run_pure, Result.andThen_ok, List.map_toArray, List.map_cons, List.map_nil, hs, hx, hr]
  exact hK g cap w1 (cell_of_one hb1) (free_of_one hb1) h2 h3
theorem wpList_push {ops : Array Oper} {rest : List Oper} {o : Oper} {a : Act} {Q : Exit → Act → World → Prop} (hgd : o.guard = none) (s x : Operand)
    (ho : o.op = .call { callee := .builtin .append, args := #[s, x], argTypes := #[72, 72] }) (hty : o.type = 72)
    (w : World) (b : Nat) (v : Value) (bs : List Nat) (z : Int) (H : Nat) (h : WrAt w b v bs) (hnew : w.heap[H]? = some (.cells #[.int .u8 z] 5 (0, 0))) (z0 : 0 ≤ z) (z1 : z < 256) (hl : bs.length + 1 ≤ 140737488355328)
    (hs : a.eval s = v) (hx : a.eval x = .slice (some ⟨H, 0, none⟩) 1 1)
    (hK : ∀ g cap w1, w1.cell? ⟨b, 0, none⟩ = some v → w1.frozen? ⟨b, 0, none⟩ = false →
      Hid (WrAt (w1.setCell ⟨b, 0, none⟩ (.slice (some ⟨g, 0, none⟩) (bs.length + 1) cap)) b (.slice (some ⟨g, 0, none⟩) (bs.length + 1) cap) (bs ++ [z.toNat])) →
      Hid (Grew b v (.slice (some ⟨g, 0, none⟩) (bs.length + 1) cap) w (w1.setCell ⟨b, 0, none⟩ (.slice (some ⟨g, 0, none⟩) (bs.length + 1) cap))) →
      wpList Tryz.prog ops Q rest (a.put o.dst (.slice (some ⟨g, 0, none⟩) (bs.length + 1) cap)) w1) :
    wpList Tryz.prog ops Q (o :: rest) a w :=
  wpList_plain hgd fun _ hK' => wp_push s x ho hty w b v bs z H h hnew z0 z1 hl hs hx fun g cap w1 h1 h2 h3 h4 => hK' _ _ (hK g cap w1 h1 h2 h3 h4)
theorem step_push {ops : Array Oper} {o : Oper} {a : Act} {K : Act → World → Prop} {Q : Exit → Act → World → Prop} {E : Prop} (hgd : o.guard = none) (s x : Operand)
    (ho : o.op = .call { callee := .builtin .append, args := #[s, x], argTypes := #[72, 72] }) (hty : o.type = 72)
    (w : World) (b : Nat) (v : Value) (bs : List Nat) (z : Int) (H : Nat) (h : WrAt w b v bs) (hnew : w.heap[H]? = some (.cells #[.int .u8 z] 5 (0, 0))) (z0 : 0 ≤ z) (z1 : z < 256) (hl : bs.length + 1 ≤ 140737488355328)
    (hs : a.eval s = v) (hx : a.eval x = .slice (some ⟨H, 0, none⟩) 1 1)
    (hK : ∀ g cap w1, w1.cell? ⟨b, 0, none⟩ = some v → w1.frozen? ⟨b, 0, none⟩ = false →
      Hid (WrAt (w1.setCell ⟨b, 0, none⟩ (.slice (some ⟨g, 0, none⟩) (bs.length + 1) cap)) b (.slice (some ⟨g, 0, none⟩) (bs.length + 1) cap) (bs ++ [z.toNat])) →
      Hid (Grew b v (.slice (some ⟨g, 0, none⟩) (bs.length + 1) cap) w (w1.setCell ⟨b, 0, none⟩ (.slice (some ⟨g, 0, none⟩) (bs.length + 1) cap))) →
      K (a.put o.dst (.slice (some ⟨g, 0, none⟩) (bs.length + 1) cap)) w1) :
    if Region.wanted o (yielded ops a.tmps) = true then Oper.wp Tryz.prog o a w K Q else E := by
  have hw : Region.wanted o (yielded ops a.tmps) = true := by simp [Region.wanted, hgd]
  rw [if_pos hw]
  exact wp_push s x ho hty w b v bs z H h hnew z0 z1 hl hs hx hK
end Go.Proofs.YtejchncdimcdbaaGreatDoor
