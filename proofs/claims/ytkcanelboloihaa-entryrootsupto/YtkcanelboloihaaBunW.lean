import Derived.Test.YtkcanelboloihaaBunA
import Derived.Deep.RegionLaw
import Derived.Laws.ShiftsVarLaws
import Derived.Test.YtkcanelboloihaaBunR
namespace Go.Proofs.Ytkcanelboloihaa
open Go.RowKit
set_option maxRecDepth 100000

/-- A Writer at the block b: its field holds v, which owns the bytes bs. -/
structure WrAt (w : World) (b : Nat) (v : Value) (bs : List Nat) : Prop where
  at_ : w.heap[b]? = some (.cells #[v] 93 (0, 0))
  own : w.ownsRow 0 5 1 v bs.length (bs.map u8)
  byte : ∀ x ∈ bs, x < 256

/-- What a Writer's call may turn: its own block and its row. -/
structure Grew (b : Nat) (v v' : Value) (w w' : World) : Prop where
  kept : Kept (b :: v.ownBlock.toList) w w'
  own : v'.ownBlock = v.ownBlock ∨ ∃ g, v'.ownBlock = some g ∧ w.heap.size ≤ g

theorem Grew.refl (b : Nat) (v : Value) (w : World) : Grew b v v w w := ⟨Kept.refl _ _, .inl rfl⟩
theorem Grew.trans {b : Nat} {v1 v2 v3 : Value} {w1 w2 w3 : World} (h : Grew b v1 v2 w1 w2) (k : Grew b v2 v3 w2 w3) : Grew b v1 v3 w1 w3 := by
  refine ⟨h.kept.trans k.kept ?_, ?_⟩
  · intro x hx
    simp only [List.mem_cons, Option.mem_toList] at hx
    rcases hx with rfl | hx
    · left; simp
    · rcases h.own with h1 | ⟨g, h1, h2⟩
      · left; rw [h1] at hx; simp [hx]
      · right; rw [h1] at hx; cases hx; exact h2
  · rcases k.own with k1 | ⟨g, k1, k2⟩
    · rw [k1]; rcases h.own with h1 | h1
      · exact .inl h1
      · exact .inr h1
    · exact .inr ⟨g, k1, Nat.le_trans h.kept.size k2⟩

theorem WrAt.ne {w : World} {b : Nat} {v : Value} {bs : List Nat} (h : WrAt w b v bs) : v.ownBlock ≠ some b := by
  intro e
  rcases h.own.2 with ⟨rfl, _⟩ | ⟨g, cap, cur, rfl, _, hg, _⟩
  · simp [Value.ownBlock] at e
  · simp [Value.ownBlock] at e
    subst e
    rw [h.at_] at hg; simp at hg

theorem WrAt.lt {w : World} {b : Nat} {v : Value} {bs : List Nat} (h : WrAt w b v bs) : b < w.heap.size := lt_of_block h.at_
theorem WrAt.ownlt {w : World} {b : Nat} {v : Value} {bs : List Nat} (h : WrAt w b v bs) {g : Nat} (hg : v.ownBlock = some g) : g < w.heap.size := (h.own.lt g hg).2

theorem WrAt.kept {L : List Nat} {w w' : World} {b : Nat} {v : Value} {bs : List Nat} (h : WrAt w b v bs) (k : Kept L w w') (hb : b ∉ L) (hv : ∀ g, v.ownBlock = some g → g ∉ L) : WrAt w' b v bs :=
  ⟨k.heap h.at_ hb, k.owns h.own hv, h.byte⟩

/-- What the writer's field reads as. -/
theorem WrAt.rd {w : World} {b : Nat} {v : Value} {bs : List Nat} (h : WrAt w b v bs) (hl : bs.length ≤ 140737488355328) : Rd w v bs := by
  rcases h.own.2 with ⟨rfl, h0⟩ | ⟨g, cap, cur, rfl, _, hg, hc, hm, hs, ht⟩
  · have : bs = [] := List.eq_nil_of_length_eq_zero h0
    subst this
    exact Rd.nil w
  · refine ⟨_, _, _, rfl, rfl, hc, ⟨by unfold maxLen at hm; omega, hl⟩, by simp, h.byte, fun _ => ⟨g, 0, rfl, fun i hi => ?_⟩⟩
    have := h.own.cells (g := g) rfl i (u8 (bs.getD i 0)) (by rw [List.getElem?_map, List.getD_eq_getElem?_getD, List.getElem?_eq_getElem hi]; rfl)
    rw [Addr.add_mid] at this; exact this

theorem WrAt.alloc {w : World} {b : Nat} {v : Value} {bs : List Nat} (h : WrAt w b v bs) (o : Obj) : WrAt (w.alloc o) b v bs :=
  h.kept ((Kept.refl [] w).alloc o) (by simp) (by simp)
theorem WrAt.drew {w : World} {b : Nat} {v : Value} {bs : List Nat} (h : WrAt w b v bs) : WrAt w.drew b v bs := ⟨h.at_, h.own, h.byte⟩
theorem WrAt.drewN {w : World} {b : Nat} {v : Value} {bs : List Nat} (h : WrAt w b v bs) (n : Nat) : WrAt (w.drewN n) b v bs := ⟨h.at_, h.own, h.byte⟩
theorem Grew.alloc {a w : World} {b : Nat} {v v' : Value} (h : Grew b v v' a w) (o : Obj) : Grew b v v' a (w.alloc o) := ⟨h.kept.alloc o, h.own⟩
theorem Grew.drew {a w : World} {b : Nat} {v v' : Value} (h : Grew b v v' a w) : Grew b v v' a w.drew := ⟨h.kept.drew, h.own⟩

/-- What a Writer owns that was made behind B lies behind B. -/
theorem Grew.fresh {b B : Nat} {v v' : Value} {w w' : World} (h : Grew b v v' w w') (hv : ∀ g, v.ownBlock = some g → B ≤ g) (hB : B ≤ w.heap.size) : ∀ g, v'.ownBlock = some g → B ≤ g := by
  intro g hg
  rcases h.own with h1 | ⟨k, h1, h2⟩
  · exact hv g (by rw [← h1]; exact hg)
  · rw [h1] at hg; cases hg; omega
/-- .. and nothing that was there at B has turned. -/
theorem Grew.keptNil {b : Nat} {v v' : Value} {a w w' : World} (h : Grew b v v' w w') (k : Kept [] a w) (hb : a.heap.size ≤ b) (hv : ∀ g, v.ownBlock = some g → a.heap.size ≤ g) : Kept [] a w' :=
  k.trans h.kept (by intro x hx; right; simp only [List.mem_cons, Option.mem_toList] at hx; rcases hx with rfl | hx; exact hb; exact hv x hx)

/-- One byte more: the byte lies in a block of its own, H. -/
theorem push (w : World) (b : Nat) (v : Value) (bs : List Nat) (z : Int) (H : Nat) (h : WrAt w b v bs) (hnew : w.heap[H]? = some (.cells #[.int .u8 z] 5 (0, 0))) (z0 : 0 ≤ z) (z1 : z < 256) (hl : bs.length + 1 ≤ 140737488355328) :
    ∃ g cap w1, (Builtin.append_ #[24, 24] 24 #[v, .slice (some ⟨H, 0, none⟩) 1 1]).run Try.prog w = .ok (.slice (some ⟨g, 0, none⟩) (bs.length + 1) cap) w1 ∧
      w1.heap[b]? = some (.cells #[v] 93 (0, 0)) ∧
      WrAt (w1.setCell ⟨b, 0, none⟩ (.slice (some ⟨g, 0, none⟩) (bs.length + 1) cap)) b (.slice (some ⟨g, 0, none⟩) (bs.length + 1) cap) (bs ++ [z.toNat]) ∧
      Grew b v (.slice (some ⟨g, 0, none⟩) (bs.length + 1) cap) w (w1.setCell ⟨b, 0, none⟩ (.slice (some ⟨g, 0, none⟩) (bs.length + 1) cap)) := by
  obtain ⟨i0, hi, hz0, hz1, hz2⟩ := info_parts Try.info5
  obtain ⟨g, cap, w1, hr, hown, hgrow, hat, hlt⟩ := run_append_lies (P := Try.prog) w 24 24 0 5 i0 (.int .u8 0) 1 1 Try.underlying24 hi hz0 hz1 hz2 rfl (by decide)
    v bs.length (bs.map u8) h.own ⟨H, 0, none⟩ 1 1 [.int .u8 z] rfl (World.news_of_block hnew) (by simp [Value.oneCell']) (by decide) (by unfold maxLen; omega) (by omega) (Nat.zero_le _) _ rfl
  have hb1 : w1.heap[b]? = some (.cells #[v] 93 (0, 0)) := by
    rw [hgrow.block b h.lt (Ne.symm h.ne)]; exact h.at_
  refine ⟨g, cap, w1, hr, hb1, ⟨one_setCell hb1, ?_, ?_⟩, ⟨?_, ?_⟩⟩
  · have e : (bs ++ [z.toNat]).length = bs.length + 1 := by simp
    have e2 : (bs ++ [z.toNat]).map u8 = bs.map u8 ++ [.int .u8 z] := by
      rw [List.map_append]; congr 1; simp [u8]; omega
    rw [e, e2]
    refine ownsRow_setCell_other hown ?_ _
    intro e3
    simp [Value.ownBlock] at e3
    subst e3
    rcases hown.2 with ⟨h1, _⟩ | ⟨g', cap', cur, h1, _, h2, _⟩
    · cases h1
    · cases h1; rw [hb1] at h2; simp at h2
  · intro x hx; simp at hx; rcases hx with hx | rfl; exact h.byte x hx; omega
  · have k1 : Kept (b :: v.ownBlock.toList) w w1 := (Kept.refl (b :: v.ownBlock.toList) w).grown hgrow (by intro k hk; left; simp [hk])
    exact k1.setCell (by simp) _
  · rcases hat with hat | hat
    · left; rw [hat]; rfl
    · right; exact ⟨g, rfl, by rw [hat]; exact Nat.le_refl _⟩

/-- The same at an append, behind its operation. -/
theorem wp_push {o : Oper} {a : Act} {K : Act → World → Prop} {Q : Exit → Act → World → Prop} (s x : Operand)
    (ho : o.op = .call { callee := .builtin .append, args := #[s, x], argTypes := #[24, 24] }) (hty : o.type = 24)
    (w : World) (b : Nat) (v : Value) (bs : List Nat) (z : Int) (H : Nat) (h : WrAt w b v bs) (hnew : w.heap[H]? = some (.cells #[.int .u8 z] 5 (0, 0))) (z0 : 0 ≤ z) (z1 : z < 256) (hl : bs.length + 1 ≤ 140737488355328)
    (hs : a.eval s = v) (hx : a.eval x = .slice (some ⟨H, 0, none⟩) 1 1)
    (hK : ∀ g cap w1, w1.cell? ⟨b, 0, none⟩ = some v → w1.frozen? ⟨b, 0, none⟩ = false →
      Hid (WrAt (w1.setCell ⟨b, 0, none⟩ (.slice (some ⟨g, 0, none⟩) (bs.length + 1) cap)) b (.slice (some ⟨g, 0, none⟩) (bs.length + 1) cap) (bs ++ [z.toNat])) →
      Hid (Grew b v (.slice (some ⟨g, 0, none⟩) (bs.length + 1) cap) w (w1.setCell ⟨b, 0, none⟩ (.slice (some ⟨g, 0, none⟩) (bs.length + 1) cap))) →
      K (a.put o.dst (.slice (some ⟨g, 0, none⟩) (bs.length + 1) cap)) w1) : o.wp Try.prog a w K Q := by
  obtain ⟨g, cap, w1, hr, hb1, h2, h3⟩ := push w b v bs z H h hnew z0 z1 hl
  unfold Oper.wp execOp
  simp only [ho, hty, resolve, invoke, builtin, Sem.run_bind, Sem.run_pure, Result.andThen_ok, List.map_toArray, List.map_cons, List.map_nil, hs, hx, hr]
  exact hK g cap w1 (cell_of_one hb1) (free_of_one hb1) h2 h3

theorem wpList_push {ops : Array Oper} {rest : List Oper} {o : Oper} {a : Act} {Q : Exit → Act → World → Prop} (hgd : o.guard = none) (s x : Operand)
    (ho : o.op = .call { callee := .builtin .append, args := #[s, x], argTypes := #[24, 24] }) (hty : o.type = 24)
    (w : World) (b : Nat) (v : Value) (bs : List Nat) (z : Int) (H : Nat) (h : WrAt w b v bs) (hnew : w.heap[H]? = some (.cells #[.int .u8 z] 5 (0, 0))) (z0 : 0 ≤ z) (z1 : z < 256) (hl : bs.length + 1 ≤ 140737488355328)
    (hs : a.eval s = v) (hx : a.eval x = .slice (some ⟨H, 0, none⟩) 1 1)
    (hK : ∀ g cap w1, w1.cell? ⟨b, 0, none⟩ = some v → w1.frozen? ⟨b, 0, none⟩ = false →
      Hid (WrAt (w1.setCell ⟨b, 0, none⟩ (.slice (some ⟨g, 0, none⟩) (bs.length + 1) cap)) b (.slice (some ⟨g, 0, none⟩) (bs.length + 1) cap) (bs ++ [z.toNat])) →
      Hid (Grew b v (.slice (some ⟨g, 0, none⟩) (bs.length + 1) cap) w (w1.setCell ⟨b, 0, none⟩ (.slice (some ⟨g, 0, none⟩) (bs.length + 1) cap))) →
      wpList Try.prog ops Q rest (a.put o.dst (.slice (some ⟨g, 0, none⟩) (bs.length + 1) cap)) w1) :
    wpList Try.prog ops Q (o :: rest) a w :=
  wpList_plain hgd fun _ hK' => wp_push s x ho hty w b v bs z H h hnew z0 z1 hl hs hx fun g cap w1 h1 h2 h3 h4 => hK' _ _ (hK g cap w1 h1 h2 h3 h4)

theorem step_push {ops : Array Oper} {o : Oper} {a : Act} {K : Act → World → Prop} {Q : Exit → Act → World → Prop} {E : Prop} (hgd : o.guard = none) (s x : Operand)
    (ho : o.op = .call { callee := .builtin .append, args := #[s, x], argTypes := #[24, 24] }) (hty : o.type = 24)
    (w : World) (b : Nat) (v : Value) (bs : List Nat) (z : Int) (H : Nat) (h : WrAt w b v bs) (hnew : w.heap[H]? = some (.cells #[.int .u8 z] 5 (0, 0))) (z0 : 0 ≤ z) (z1 : z < 256) (hl : bs.length + 1 ≤ 140737488355328)
    (hs : a.eval s = v) (hx : a.eval x = .slice (some ⟨H, 0, none⟩) 1 1)
    (hK : ∀ g cap w1, w1.cell? ⟨b, 0, none⟩ = some v → w1.frozen? ⟨b, 0, none⟩ = false →
      Hid (WrAt (w1.setCell ⟨b, 0, none⟩ (.slice (some ⟨g, 0, none⟩) (bs.length + 1) cap)) b (.slice (some ⟨g, 0, none⟩) (bs.length + 1) cap) (bs ++ [z.toNat])) →
      Hid (Grew b v (.slice (some ⟨g, 0, none⟩) (bs.length + 1) cap) w (w1.setCell ⟨b, 0, none⟩ (.slice (some ⟨g, 0, none⟩) (bs.length + 1) cap))) →
      K (a.put o.dst (.slice (some ⟨g, 0, none⟩) (bs.length + 1) cap)) w1) :
    if Region.wanted o (yielded ops a.tmps) = true then Oper.wp Try.prog o a w K Q else E := by
  have hw : Region.wanted o (yielded ops a.tmps) = true := by simp [Region.wanted, hgd]
  rw [if_pos hw]
  exact wp_push s x ho hty w b v bs z H h hnew z0 z1 hl hs hx hK
end Go.Proofs.Ytkcanelboloihaa
namespace Go.Proofs.Ytkcanelboloihaa
set_option linter.unusedVariables false
set_option maxRecDepth 100000
set_option linter.unusedSimpArgs false
open Go.RowKit
attribute [local go_sem ↓] Go.wp_at_zero Go.wp_at_succ

theorem shr8 (x j : Nat) (hj : j ≤ 7) : Op.shift .shr .u64 (x : Int) .i64 (IntKind.i64.wrap (8 * (j : Int))) = pure (.int .u64 ((x / 256 ^ j : Nat) : Int)) := by
  have e : IntKind.i64.wrap (8 * (j : Int)) = ((8 * j : Nat) : Int) := by simp [IntKind.wrap, IntKind.bits, IntKind.signed]; omega
  rw [e, shift_shr .u64 .i64 _ _ (by omega) (by simp [IntKind.bits]; omega), Int.toNat_natCast, Int.pow_mul]
  simp

set_option maxRecDepth 100000 in
set_option maxHeartbeats 1000000 in
theorem wnumber_any (b : Nat) (v : Value) (bs : List Nat) (x n : Nat) (w : World) (hw : WrAt w b v bs) (hn : n ≤ 8) (hl : bs.length + 8 ≤ 140737488355328) :
    Calls Try.prog 97 #[.pointer (some ⟨b, 0, none⟩), .int .u64 x, .int .i64 n] w fun e w' => e = .returned (.tuple #[]) ∧ ∃ v', WrAt w' b v' (bs ++ wide x n) ∧ Grew b v v' w w' := by
  go_enter Try.func97, Try.ntmps97
  go_wp2_with fail
  go_loopw [6] (fun t wr => ∃ (k : Nat) (cur : List Nat) (v' : Value), t = .int .i64 ((k : Int) - 1) ∧ k ≤ n ∧ Hid (cur ++ wide x k = bs ++ wide x n) ∧ Hid (WrAt wr b v' cur) ∧ Hid (Grew b v v' w wr)) (fun t _ => (intOf t + 1).toNat)
  case atStart => exact ⟨n, bs, v, rfl, Nat.le_refl _, rfl, hw, Grew.refl _ _ _⟩
  case round =>
    obtain ⟨k, cur, v', rfl, hk, Hp, HW, HG⟩ := hrel
    have hlen : cur.length + k ≤ 140737488355328 := by have h1 := congrArg List.length (unhide Hp); simp [wide_len] at h1; omega
    have hc0 := cell_of_one (unhide HW).at_
    by_cases h0 : k = 0
    · subst h0
      go_wp2_with fail
      go_end0
      refine ⟨rfl, _, ?_, unhide HG⟩
      have h1 := unhide Hp
      simp only [wide, List.append_nil] at h1
      rw [← h1]; exact unhide HW
    · obtain ⟨j, rfl⟩ : ∃ j, k = j + 1 := ⟨k - 1, by omega⟩
      have e1 : (((j + 1 : Nat) : Int) - 1) = (j : Int) := by omega
      rw [e1]
      have hj0 : (0 : Int) ≤ (j : Int) := by omega
      have hj8 : (j : Int) ≤ 7 := by omega
      obtain ⟨q, hq⟩ : ∃ q, q = x / 256 ^ j := ⟨_, rfl⟩
      have hsh := shr8 x j (by omega)
      rw [← hq] at hsh
      have Hq := hide hq
      clear hq
      have hz0 : 0 ≤ IntKind.u8.wrap (q : Int) := by rw [IntKind.wrap_u8']; omega
      have hz1 : IntKind.u8.wrap (q : Int) < 256 := by rw [IntKind.wrap_u8']; omega
      have hca : ∀ o, (wr.alloc o).cell? ⟨b, 0, none⟩ = some v' := fun o => cell_of_one ((unhide HW).alloc o).at_
      have hlen1 : cur.length + 1 ≤ 140737488355328 := by omega
      go_wp2_with fail
      go_region_law ((refine step_push (by rfl) (.tmp 19) (.tmp 25) (by rfl) (by rfl) _ b v' cur (IntKind.u8.wrap (q : Int)) wr.heap.size (by first | exact (unhide HW).drew.alloc _ | exact ((unhide HW).alloc _).drew) (by exact heap_alloc_new wr _) hz0 hz1 hlen1 (by simp [Act.eval]) (by simp [Act.eval]) ?_; intro g cap w1 hc1 hf1 HW1 HG1))
      all_goals
        go_wp2
        go_roundw
        case rel =>
          refine ⟨j, cur ++ [q % 256], _, rfl, by omega, ?_, ?_, (((unhide HG).alloc _).drew).trans (unhide HG1)⟩
          · rw [← unhide Hp, unhide Hq]; show _ = _; simp [wide]
          · have h1 := unhide HW1
            rw [show (IntKind.u8.wrap (q : Int)).toNat = q % 256 from by rw [IntKind.wrap_u8']; omega] at h1; exact h1
        case measure => simp [intOf]
end Go.Proofs.Ytkcanelboloihaa
namespace Go.Proofs.Ytkcanelboloihaa
set_option linter.unusedVariables false
set_option maxRecDepth 100000
set_option linter.unusedSimpArgs false
open Go.RowKit

set_option maxRecDepth 100000 in
set_option maxHeartbeats 1000000 in
theorem wuvar_any (b : Nat) (v : Value) (bs : List Nat) (x : Nat) (w : World) (hw : WrAt w b v bs) (hx : x < 18446744073709551616) (hl : bs.length + 10 ≤ 140737488355328) :
    Calls Try.prog 58 #[.pointer (some ⟨b, 0, none⟩), .int .u64 x] w fun e w' => e = .returned (.tuple #[]) ∧ ∃ v', WrAt w' b v' (bs ++ uv x) ∧ Grew b v v' w w' := by
  go_enter Try.func58, Try.ntmps58
  go_wp2_with fail
  go_loopw [1] (fun t wr => ∃ (y : Nat) (cur : List Nat) (v' : Value), t = .int .u64 y ∧ y ≤ x ∧ Hid (cur ++ uv y = bs ++ uv x) ∧ Hid (WrAt wr b v' cur) ∧ Hid (Grew b v v' w wr)) (fun t _ => (intOf t).toNat)
  case atStart => exact ⟨x, bs, v, rfl, Nat.le_refl _, rfl, hw, Grew.refl _ _ _⟩
  case round =>
    obtain ⟨y, cur, v', rfl, hy, Hp, HW, HG⟩ := hrel
    have hlen : cur.length + 1 ≤ 140737488355328 := by have h1 := congrArg List.length (unhide Hp); have h2 := uv_len x hx; have h3 := uv_pos y; simp at h1; omega
    have hc0 := cell_of_one (unhide HW).at_
    by_cases hlt : y < 128
    · have hlt' : (y : Int) < 128 := by omega
      go_wp2_with (at_builtin; go_must (refine wpList_push rfl (.tmp 26) (.tmp 29) rfl rfl _ b v' cur _ wr.heap.size (by exact (unhide HW).alloc _) (by exact heap_alloc_new wr _) ?_ ?_ hlen rfl rfl ?_; rotate_right; intro g cap w1 hc1 hf1 HW1 HG1))
      · go_end0
        refine ⟨rfl, _, ?_, ((unhide HG).alloc _).trans (unhide HG1)⟩
        have h1 := unhide HW1
        rw [Int.toNat_natCast] at h1
        rw [← unhide Hp, uv_lt hlt]; exact h1
      · omega
      · omega
    · have hor := or128 ((y : Int) % 256) (by omega) (by omega)
      have hge : 128 ≤ (y : Int) := by omega
      go_wp2_with (at_builtin; go_must (refine wpList_push rfl (.tmp 14) (.tmp 18) rfl rfl _ b v' cur _ wr.heap.size (by exact (unhide HW).alloc _) (by exact heap_alloc_new wr _) ?_ ?_ hlen rfl rfl ?_; rotate_right; intro g cap w1 hc1 hf1 HW1 HG1))
      · go_roundw
        case rel =>
          refine ⟨y / 128, cur ++ [y % 128 + 128], _, by simp, by omega, ?_, ?_, ((unhide HG).alloc _).trans (unhide HG1)⟩
          · rw [← unhide Hp, uv_ge (v := y) (by omega)]; show _ = _; simp
          · have h1 := unhide HW1
            rw [show ((y : Int) % 128 + 128).toNat = y % 128 + 128 from by omega] at h1; exact h1
        case measure => simp [intOf]; omega
      · omega
      · omega
end Go.Proofs.Ytkcanelboloihaa
namespace Go.Proofs.Ytkcanelboloihaa
open Go.RowKit
set_option linter.unusedVariables false
set_option maxRecDepth 100000
set_option linter.unusedSimpArgs false

set_option maxRecDepth 100000 in
set_option maxHeartbeats 400000 in
theorem wbytes_any (b : Nat) (v : Value) (bs : List Nat) (w : World) (hw : WrAt w b v bs) (hl : bs.length ≤ 140737488355328) :
    Calls Try.prog 46 #[.pointer (some ⟨b, 0, none⟩)] w fun e w' => e = .returned (.slice (some ⟨w.heap.size, 0, none⟩) bs.length bs.length) ∧ Kept [] w w' ∧
      w'.heap[w.heap.size]? = some (.cells (bs.map u8).toArray 5 (0, 0)) := by
  have hc0 := cell_of_one hw.at_
  have HR := hide (hw.rd hl)
  go_enter Try.func46, Try.ntmps46
  go_wp2_with (go_at_call 98; go_must (refine (cloned_any v bs _ (unhide HR)).mono ?_; rintro e w1 ⟨rfl, hk, hg⟩; have HK := hide hk; have HG := hide hg; clear hk hg))
  go_ret
  exact ⟨rfl, unhide HK, unhide HG⟩

end Go.Proofs.Ytkcanelboloihaa

namespace Go.Proofs.Ytkcanelboloihaa
open Go.RowKit
set_option linter.unusedVariables false
set_option maxRecDepth 100000
set_option linter.unusedSimpArgs false

theorem Rd.byte {w : World} {v : Value} {p : List Nat} (h : Rd w v p) : ∀ x ∈ p, x < 256 := by obtain ⟨_, _, _, _, _, _, _, _, h5, _⟩ := h; exact h5
theorem Rd.len {w : World} {v : Value} {p : List Nat} (h : Rd w v p) : p.length ≤ 140737488355328 := by obtain ⟨_, _, _, _, rfl, _, ⟨_, h3⟩, _⟩ := h; exact h3

/-- All of a slice behind what a Writer has. -/
theorem pushAll (w : World) (b : Nat) (v : Value) (bs p : List Nat) (ao : Option Addr) (n c : Nat) (h : WrAt w b v bs) (hr : Rd w (.slice ao n c) p) (hl : bs.length + p.length ≤ 140737488355328) :
    ∃ ao' n' cap' w1, (Builtin.append_ #[24, 24] 24 #[v, .slice ao n c]).run Try.prog w = .ok (.slice ao' n' cap') w1 ∧
      w1.heap[b]? = some (.cells #[v] 93 (0, 0)) ∧
      WrAt (w1.setCell ⟨b, 0, none⟩ (.slice ao' n' cap')) b (.slice ao' n' cap') (bs ++ p) ∧
      Grew b v (.slice ao' n' cap') w (w1.setCell ⟨b, 0, none⟩ (.slice ao' n' cap')) := by
  obtain ⟨i0, hi, hz0, hz1, hz2⟩ := info_parts Try.info5
  have fin : ∀ v' w1, w1.ownsRow 0 5 1 v' (bs.length + p.length) (bs.map u8 ++ p.map u8) → w.grownBy w1 v.ownBlock → (v'.ownBlock = v.ownBlock ∨ v'.ownBlock = some w.heap.size) →
      w1.heap[b]? = some (.cells #[v] 93 (0, 0)) ∧ WrAt (w1.setCell ⟨b, 0, none⟩ v') b v' (bs ++ p) ∧ Grew b v v' w (w1.setCell ⟨b, 0, none⟩ v') := by
    intro v' w1 hown hgrow hat
    have hb1 : w1.heap[b]? = some (.cells #[v] 93 (0, 0)) := by
      rw [hgrow.block b h.lt (Ne.symm h.ne)]; exact h.at_
    refine ⟨hb1, ⟨one_setCell hb1, ?_, ?_⟩, ⟨?_, ?_⟩⟩
    · rw [List.length_append, List.map_append]
      refine ownsRow_setCell_other hown ?_ _
      intro e3
      rcases hown.2 with ⟨rfl, _⟩ | ⟨g', cap', cur, rfl, _, h2, _⟩
      · simp [Value.ownBlock] at e3
      · simp [Value.ownBlock] at e3; subst e3; rw [hb1] at h2; simp at h2
    · intro x hx; simp at hx; rcases hx with hx | hx; exact h.byte x hx; exact hr.byte x hx
    · have k1 : Kept (b :: v.ownBlock.toList) w w1 := (Kept.refl (b :: v.ownBlock.toList) w).grown hgrow (by intro k hk; left; simp [hk])
      exact k1.setCell (by simp) _
    · rcases hat with hat | hat
      · exact .inl hat
      · exact .inr ⟨_, hat, Nat.le_refl _⟩
  have shape : ∀ (v' : Value) (w1 : World) (n : Nat) (xs : List Value), w1.ownsRow 0 5 1 v' n xs → ∃ ao' n' cap', v' = .slice ao' n' cap' := by
    intro v' w1 n xs hown
    rcases hown.2 with ⟨rfl, _⟩ | ⟨g, cap, cur, rfl, _⟩
    · exact ⟨_, _, _, rfl⟩
    · exact ⟨_, _, _, rfl⟩
  obtain ⟨ao1, n1, c1, he, hn, h2, ⟨h3, h3'⟩, h4, h5, h6⟩ := id hr
  cases he
  subst hn
  cases ao with
  | none =>
    have hc0 := h4 rfl
    have hp : p = [] := List.eq_nil_of_length_eq_zero (by omega)
    subst hp
    subst hc0
    have hrun := run_append_owned_none (P := Try.prog) (w := w) 0 24 24 5 i0 1 Try.underlying24 hi v bs.length (bs.map u8) h.own
    obtain ⟨ao', n', cap', rfl⟩ := shape v w _ _ h.own
    exact ⟨ao', n', cap', w, hrun, fin _ _ (by simpa using h.own) (World.grownBy.refl _ _) (.inl rfl)⟩
  | some ad =>
    have hnews : ∀ j u, (p.map u8)[j]? = some u → w.cell? (ad.add j) = some u := by
      intro j u hj
      by_cases h0 : 0 < (p.map u8).length
      · obtain ⟨ad', e, hc⟩ := hr.src h0
        cases e
        exact hc j u hj
      · have : p.map u8 = [] := List.eq_nil_of_length_eq_zero (by omega)
        rw [this] at hj; simp at hj
    obtain ⟨v', w1, hrun, hown, hgrow, _, hat⟩ := run_append_own_at (P := Try.prog) w 0 24 24 5 i0 (.int .u8 0) 1 1 Try.underlying24 hi hz0 hz1 hz2 rfl (by decide)
      v bs.length (bs.map u8) h.own ad p.length c (p.map u8) (by simp) hnews (u8_oneCell p) (by unfold maxLen; omega) (by omega) (Nat.zero_le _)
    obtain ⟨ao', n', cap', rfl⟩ := shape v' w1 _ _ hown
    exact ⟨ao', n', cap', w1, hrun, fin _ _ hown hgrow hat⟩

theorem wpList_pushAll {ops : Array Oper} {rest : List Oper} {o : Oper} {a : Act} {Q : Exit → Act → World → Prop} (hgd : o.guard = none) (s x : Operand)
    (ho : o.op = .call { callee := .builtin .append, args := #[s, x], argTypes := #[24, 24] }) (hty : o.type = 24)
    (w : World) (b : Nat) (v : Value) (bs p : List Nat) (ao : Option Addr) (n c : Nat) (h : WrAt w b v bs) (hr : Rd w (.slice ao n c) p) (hl : bs.length + p.length ≤ 140737488355328)
    (hs : a.eval s = v) (hx : a.eval x = .slice ao n c)
    (hK : ∀ ao' n' cap' w1, w1.cell? ⟨b, 0, none⟩ = some v → w1.frozen? ⟨b, 0, none⟩ = false →
      Hid (WrAt (w1.setCell ⟨b, 0, none⟩ (.slice ao' n' cap')) b (.slice ao' n' cap') (bs ++ p)) →
      Hid (Grew b v (.slice ao' n' cap') w (w1.setCell ⟨b, 0, none⟩ (.slice ao' n' cap'))) →
      wpList Try.prog ops Q rest (a.put o.dst (.slice ao' n' cap')) w1) :
    wpList Try.prog ops Q (o :: rest) a w := by
  obtain ⟨ao', n', cap', w1, hrun, hb1, h2, h3⟩ := pushAll w b v bs p ao n c h hr hl
  refine wpList_plain hgd fun K hK' => ?_
  unfold Oper.wp execOp
  simp only [ho, hty, resolve, invoke, builtin, Sem.run_bind, Sem.run_pure, Result.andThen_ok, List.map_toArray, List.map_cons, List.map_nil, hs, hx, hrun]
  exact hK' _ _ (hK ao' n' cap' w1 (cell_of_one hb1) (free_of_one hb1) h2 h3)

set_option maxRecDepth 100000 in
theorem wraw_any (b : Nat) (v pv : Value) (bs p : List Nat) (w : World) (hw : WrAt w b v bs) (hr : Rd w pv p) (hl : bs.length + p.length ≤ 140737488355328) :
    Calls Try.prog 45 #[.pointer (some ⟨b, 0, none⟩), pv] w fun e w' => e = .returned (.tuple #[]) ∧ ∃ v', WrAt w' b v' (bs ++ p) ∧ Grew b v v' w w' := by
  obtain ⟨ao, n, c, rfl⟩ : ∃ ao n c, pv = .slice ao n c := by obtain ⟨ao, n, c, rfl, _⟩ := hr; exact ⟨ao, n, c, rfl⟩
  have HW := hide hw
  have HR := hide hr
  have hc0 := cell_of_one hw.at_
  clear hw hr
  go_enter Try.func45, Try.ntmps45
  go_wp2_with (at_builtin; go_must (refine wpList_pushAll rfl (.tmp 10) (.tmp 11) rfl rfl _ b v bs p ao n c (unhide HW) (unhide HR) hl rfl rfl ?_; intro ao' n' cap' w1 hc1 hf1 HW1 HG1))
  go_end0
  exact ⟨rfl, _, unhide HW1, unhide HG1⟩

set_option maxRecDepth 100000 in
theorem wblob_any (b : Nat) (v pv : Value) (bs p : List Nat) (w : World) (hw : WrAt w b v bs) (hr : ∀ w', Kept (b :: v.ownBlock.toList) w w' → Rd w' pv p) (hl : bs.length + 10 + p.length ≤ 140737488355328) :
    Calls Try.prog 107 #[.pointer (some ⟨b, 0, none⟩), pv] w fun e w' => e = .returned (.tuple #[]) ∧ ∃ v', WrAt w' b v' (bs ++ (uv p.length ++ p)) ∧ Grew b v v' w w' := by
  have hr0 := hr w (Kept.refl _ _)
  have hpl : p.length ≤ 140737488355328 := hr0.len
  have HR := hide hr
  clear hr
  obtain ⟨ao, n, c, rfl, rfl, _⟩ := hr0
  have HW := hide hw
  have hul := uv_len p.length (by omega)
  clear hw
  go_enter Try.func107, Try.ntmps107
  go_wp2_with fail
  refine (wuvar_any b v bs p.length _ (unhide HW) (by omega) (by omega)).mono ?_
  rintro e w1 ⟨rfl, v1, h1, k1⟩
  have HR1 := hide (unhide HR _ k1.kept)
  have HW1 := hide h1
  have HG1 := hide k1
  clear h1 k1
  go_wp2_with fail
  refine (wraw_any b v1 _ _ p _ (unhide HW1) (unhide HR1) (by simp only [List.length_append]; omega)).mono ?_
  rintro e w2 ⟨rfl, v2, h2, k2⟩
  rw [List.append_assoc] at h2
  have HW2 := hide h2
  have HG2 := hide ((unhide HG1).trans k2)
  clear h2 k2
  go_wp2
  go_end0
  exact ⟨rfl, v2, unhide HW2, unhide HG2⟩
end Go.Proofs.Ytkcanelboloihaa
namespace Go.Proofs.Ytkcanelboloihaa
open Go.RowKit
set_option linter.unusedVariables false
set_option maxRecDepth 100000
set_option linter.unusedSimpArgs false

theorem owns_shape {w : World} {base : Nat} {v : Value} {n : Nat} {xs : List Value} (h : w.ownsRow base 5 1 v n xs) : ∃ ao cap, v = .slice ao n cap := by
  rcases h.2 with ⟨rfl, rfl⟩ | ⟨g, cap, cur, rfl, _⟩
  · exact ⟨_, _, rfl⟩
  · exact ⟨_, _, rfl⟩

/-- What owns bytes reads as them. -/
theorem rd_owns {w : World} {base : Nat} {v : Value} {bs : List Nat} (h : w.ownsRow base 5 1 v bs.length (bs.map u8)) (hb : ∀ x ∈ bs, x < 256) (hl : bs.length ≤ 140737488355328) : Rd w v bs := by
  rcases h.2 with ⟨rfl, h0⟩ | ⟨g, cap, cur, rfl, _, hg, hc, hm, hs, ht⟩
  · have : bs = [] := List.eq_nil_of_length_eq_zero h0
    subst this
    exact Rd.nil w
  · refine ⟨_, _, _, rfl, rfl, hc, ⟨by unfold maxLen at hm; omega, hl⟩, by simp, hb, fun _ => ⟨g, 0, rfl, fun i hi => ?_⟩⟩
    have := h.cells (g := g) rfl i (u8 (bs.getD i 0)) (by rw [List.getElem?_map, List.getD_eq_getElem?_getD, List.getElem?_eq_getElem hi]; rfl)
    rw [Addr.add_mid] at this; exact this

/-- All of a slice behind a row that is owned. -/
theorem appendAll (w : World) (base : Nat) (v : Value) (bs p : List Nat) (ao : Option Addr) (n c : Nat) (h : w.ownsRow base 5 1 v bs.length (bs.map u8)) (hr : Rd w (.slice ao n c) p) (hl : bs.length + p.length ≤ 140737488355328) (hb : base ≤ w.heap.size) :
    ∃ ao' cap' w1, (Builtin.append_ #[24, 24] 24 #[v, .slice ao n c]).run Try.prog w = .ok (.slice ao' (bs.length + p.length) cap') w1 ∧
      w1.ownsRow base 5 1 (.slice ao' (bs.length + p.length) cap') (bs ++ p).length ((bs ++ p).map u8) ∧ w.grownBy w1 v.ownBlock ∧
      ((Value.slice ao' (bs.length + p.length) cap').ownBlock = v.ownBlock ∨ (Value.slice ao' (bs.length + p.length) cap').ownBlock = some w.heap.size) := by
  obtain ⟨i0, hi, hz0, hz1, hz2⟩ := info_parts Try.info5
  obtain ⟨ao1, n1, c1, he, hn, h2, ⟨h3, h3'⟩, h4, h5, h6⟩ := id hr
  cases he
  subst hn
  cases ao with
  | none =>
    have hc0 := h4 rfl
    have hp : p = [] := List.eq_nil_of_length_eq_zero (by omega)
    subst hp
    subst hc0
    have hrun := run_append_owned_none (P := Try.prog) (w := w) base 24 24 5 i0 1 Try.underlying24 hi v bs.length (bs.map u8) h
    obtain ⟨ao', cap', rfl⟩ := owns_shape h
    exact ⟨ao', cap', w, hrun, by simpa using h, World.grownBy.refl _ _, .inl rfl⟩
  | some ad =>
    have hnews : ∀ j u, (p.map u8)[j]? = some u → w.cell? (ad.add j) = some u := by
      intro j u hj
      by_cases h0 : 0 < (p.map u8).length
      · obtain ⟨ad', e, hc⟩ := hr.src h0
        cases e
        exact hc j u hj
      · have : p.map u8 = [] := List.eq_nil_of_length_eq_zero (by omega)
        rw [this] at hj; simp at hj
    obtain ⟨v', w1, hrun, hown, hgrow, _, hat⟩ := run_append_own_at (P := Try.prog) w base 24 24 5 i0 (.int .u8 0) 1 1 Try.underlying24 hi hz0 hz1 hz2 rfl (by decide)
      v bs.length (bs.map u8) h ad p.length c (p.map u8) (by simp) hnews (u8_oneCell p) (by unfold maxLen; omega) (by omega) hb
    obtain ⟨ao', cap', rfl⟩ := owns_shape hown
    exact ⟨ao', cap', w1, hrun, by rw [List.length_append, List.map_append]; exact hown, hgrow, hat⟩

theorem wpList_appendAll {ops : Array Oper} {rest : List Oper} {o : Oper} {a : Act} {Q : Exit → Act → World → Prop} (hgd : o.guard = none) (s x : Operand)
    (ho : o.op = .call { callee := .builtin .append, args := #[s, x], argTypes := #[24, 24] }) (hty : o.type = 24)
    (w : World) (base : Nat) (v : Value) (bs p : List Nat) (ao : Option Addr) (n c : Nat) (h : w.ownsRow base 5 1 v bs.length (bs.map u8)) (hr : Rd w (.slice ao n c) p) (hl : bs.length + p.length ≤ 140737488355328) (hb : base ≤ w.heap.size)
    (hs : a.eval s = v) (hx : a.eval x = .slice ao n c)
    (hK : ∀ ao' cap' w1, Hid (w1.ownsRow base 5 1 (.slice ao' (bs.length + p.length) cap') (bs ++ p).length ((bs ++ p).map u8)) → Hid (w.grownBy w1 v.ownBlock) →
      Hid ((Value.slice ao' (bs.length + p.length) cap').ownBlock = v.ownBlock ∨ (Value.slice ao' (bs.length + p.length) cap').ownBlock = some w.heap.size) →
      wpList Try.prog ops Q rest (a.put o.dst (.slice ao' (bs.length + p.length) cap')) w1) :
    wpList Try.prog ops Q (o :: rest) a w := by
  obtain ⟨ao', cap', w1, hrun, h2, h3, h4⟩ := appendAll w base v bs p ao n c h hr hl hb
  refine wpList_plain hgd fun K hK' => ?_
  unfold Oper.wp execOp
  simp only [ho, hty, resolve, invoke, builtin, Sem.run_bind, Sem.run_pure, Result.andThen_ok, List.map_toArray, List.map_cons, List.map_nil, hs, hx, hrun]
  exact hK' _ _ (hK ao' cap' w1 h2 h3 h4)

set_option maxRecDepth 100000 in
set_option maxHeartbeats 1000000 in
theorem join_any (u v : Value) (p q : List Nat) (w : World) (hu : Rd w u p) (hv : Rd w v q) (hl : p.length + q.length ≤ 140737488355328) :
    Calls Try.prog 49 #[u, v] w fun e w' => ∃ lv, e = .returned lv ∧ Rd w' lv (p ++ q) ∧ Kept [] w w' ∧ ∀ x ∈ blk lv, w.heap.size ≤ x := by
  have HU := hide hu
  have HV := hide hv
  obtain ⟨a1, n1, c1, rfl, hn1, _⟩ := hu
  obtain ⟨a2, n2, c2, rfl, hn2, _⟩ := hv
  subst hn1
  subst hn2
  obtain ⟨i0, hi, hz0, hz1, hz2⟩ := info_parts Try.info5
  have hmk : ∀ W : World, (Instr.makeSlice 24 (.int .i64 0) (.int .i64 ((p.length : Int) + q.length))).run Try.prog W =
      .ok (.slice (some ⟨W.heap.size, 0, none⟩) 0 (p.length + q.length)) (W.alloc (.cells (zeros (p.length + q.length)).toArray 5)) := fun W => by
    have h := run_make (P := Try.prog) W 24 5 i0 (.int .u8 0) Try.underlying24 hi hz0 .i64 .i64 0 ((p.length : Int) + q.length) (by omega) (by omega) (by rw [hz2]; omega) (by omega)
    have e : ((p.length : Int) + q.length).toNat = p.length + q.length := by omega
    rw [e] at h
    simpa [hz1, Value.cells, madeZeros] using h
  clear hi hz0 hz1 hz2
  have HO := hide (World.ownsRow_made (base := w.heap.size) (e := 5) (size := 1) w (zeros (p.length + q.length)).toArray (p.length + q.length) (Nat.le_refl _) (by unfold maxLen; omega) (by simp [zeros]))
  have HU1 := hide ((unhide HU).old ((Kept.refl [] w).alloc (.cells (zeros (p.length + q.length)).toArray 5)) (by simp))
  go_enter Try.func49, Try.ntmps49
  go_wp2_with (at_builtin; first
    | (refine wpList_appendAll rfl (.tmp 12) (.tmp 13) rfl rfl _ w.heap.size (.slice (some ⟨w.heap.size, 0, none⟩) 0 (p.length + q.length)) [] p a1 p.length c1 (by exact unhide HO) (by exact unhide HU1) (by simp; omega) (by simp) rfl rfl ?_; intro ao1 cap1 w1 HO1 HG1 HA1; simp only [List.nil_append, List.length_nil, Nat.zero_add] at HO1 HA1; have HK1 := hide (((Kept.refl [] w).alloc _).grown (unhide HG1) (by intro k hk; right; simp [Value.ownBlock] at hk; omega)); have HA1' := hide (show ∀ g, (Value.slice ao1 p.length cap1).ownBlock = some g → w.heap.size ≤ g from fun g hg => ((unhide HO1).lt g hg).1); clear HG1 HA1)
    | (refine wpList_appendAll rfl (.tmp 15) (.tmp 16) rfl rfl _ w.heap.size (.slice ao1 p.length cap1) p q a2 q.length c2 (by exact unhide HO1) (by exact (unhide HV).old (unhide HK1) (by simp)) hl (by have := (unhide HK1).size; omega) (by simp [Act.eval]) (by simp [Act.eval]) ?_; intro ao2 cap2 w2 HO2 HG2 HA2; have HK2 := hide ((unhide HK1).grown (unhide HG2) (by intro k hk; right; exact unhide HA1' k hk)); clear HG2 HA2))
  go_ret
  refine ⟨_, rfl, rd_owns (unhide HO2) (by intro x hx; simp at hx; rcases hx with hx | hx; exact (unhide HU).byte x hx; exact (unhide HV).byte x hx) (by simp; omega), unhide HK2, ?_⟩
  intro x hx
  cases ao2 with
  | none => simp [blk] at hx
  | some a => simp [blk] at hx; subst hx; exact ((unhide HO2).lt a.block rfl).1

set_option maxHeartbeats 400000 in
theorem twin_any (v : Value) (bs : List Nat) (w : World) (h : Rd w v bs) :
    Calls Try.prog 15 #[v] w fun e w' => e = .returned (.slice (some ⟨w.heap.size, 0, none⟩) bs.length bs.length) ∧ Kept [] w w' ∧
      w'.heap[w.heap.size]? = some (.cells (bs.map u8).toArray 5 (0, 0)) := by
  have hk : Rd (w.alloc (.cells (zeros bs.length).toArray 5)) v bs := h.kept ((Kept.refl [] w).alloc _) (by simp)
  obtain ⟨ao, len, cap, rfl, rfl, h2, ⟨h3, h3'⟩, h4, h5, h6⟩ := h
  have hmk := run_make_row' (P := Try.prog) 24 5 (.int .u8 0) 1 Try.underlying24 Try.info5 rfl .i64 .i64 bs.length (by omega) (by omega)
  simp only [madeZeros] at hmk
  obtain ⟨w2, hrun, hg, hw⟩ := run_copy_head 24 24 3 5 Try.underlying24 Try.size5 _ w.heap.size bs.length bs.length cap ao bs (zeros bs.length) 5 (heap_alloc_new w _) hk (Nat.le_refl _) (by simp [zeros])
  have HG := hide hg
  have HW := hide hw
  clear hg hw hk h6
  go_enter Try.func15, Try.ntmps15
  go_wp2
  go_ret
  refine ⟨rfl, ((Kept.refl [] w).alloc _).trans (unhide HW) (by simp), ?_⟩
  rw [unhide HG]; simp [zeros]
end Go.Proofs.Ytkcanelboloihaa
namespace Go.Proofs.Ytkcanelboloihaa
open Go.RowKit
theorem rd_lit {w : World} {g : Nat} {bs : List Nat} {cs : Array Value} (h : w.heap[g]? = some (.cells cs 5 (0, 0))) (hc : cs = (bs.map u8).toArray) (hb : ∀ x ∈ bs, x < 256) (n : Nat) (hn : bs.length = n) (hl : n ≤ 140737488355328) :
    Rd w (.slice (some ⟨g, 0, none⟩) n n) bs := by
  subst hc; subst hn; exact rd_fresh h hb hl
end Go.Proofs.Ytkcanelboloihaa
namespace Go.Proofs.Ytkcanelboloihaa
open Go.RowKit
set_option linter.unusedVariables false
set_option linter.unusedSimpArgs false

theorem WrAt.new (w : World) : WrAt (w.alloc (.cells #[.slice none 0 0] 93)) w.heap.size (.slice none 0 0) [] :=
  ⟨heap_alloc_new w _, World.ownsRow_nil _ _ _ _, by simp⟩

set_option maxRecDepth 100000 in
theorem wu8_any (b : Nat) (v : Value) (bs : List Nat) (x : Nat) (w : World) (hw : WrAt w b v bs) (hx : x < 256) (hl : bs.length + 8 ≤ 140737488355328) :
    Calls Try.prog 106 #[.pointer (some ⟨b, 0, none⟩), .int .u8 x] w fun e w' => e = .returned (.tuple #[]) ∧ ∃ v', WrAt w' b v' (bs ++ wide x 1) ∧ Grew b v v' w w' := by
  have HW := hide hw
  clear hw
  go_enter Try.func106, Try.ntmps106
  go_wp2_with (go_at_call 97; go_must (refine (wnumber_any b v bs x 1 _ (unhide HW) (by omega) hl).mono ?_; rintro e w1 ⟨rfl, hk⟩; have HK := hide hk; clear hk))
  go_end0
  exact ⟨rfl, unhide HK⟩

set_option maxRecDepth 100000 in
theorem wu64_any (b : Nat) (v : Value) (bs : List Nat) (x : Nat) (w : World) (hw : WrAt w b v bs) (hl : bs.length + 8 ≤ 140737488355328) :
    Calls Try.prog 44 #[.pointer (some ⟨b, 0, none⟩), .int .u64 x] w fun e w' => e = .returned (.tuple #[]) ∧ ∃ v', WrAt w' b v' (bs ++ wide x 8) ∧ Grew b v v' w w' := by
  have HW := hide hw
  clear hw
  go_enter Try.func44, Try.ntmps44
  go_wp2_with (go_at_call 97; go_must (refine (wnumber_any b v bs x 8 _ (unhide HW) (by omega) hl).mono ?_; rintro e w1 ⟨rfl, hk⟩; have HK := hide hk; clear hk))
  go_end0
  exact ⟨rfl, unhide HK⟩

/-- The value v is the list bs, in memory that was not there in w. -/
def NewB (w w' : World) (v : Value) (bs : List Nat) : Prop :=
  Rd w' v bs ∧ ((bs = [] ∧ v = .slice none 0 0) ∨ ∃ g, v = .slice (some ⟨g, 0, none⟩) bs.length bs.length ∧ w.heap.size ≤ g ∧ w'.heap[g]? = some (.cells (bs.map u8).toArray 5 (0, 0)))
theorem NewB.weak {w0 w w' : World} {v : Value} {bs : List Nat} (h : NewB w w' v bs) (k : w0.heap.size ≤ w.heap.size) : NewB w0 w' v bs :=
  ⟨h.1, h.2.imp id fun ⟨g, h1, h2, h3⟩ => ⟨g, h1, Nat.le_trans k h2, h3⟩⟩
theorem NewB.nil (w w' : World) : NewB w w' (.slice none 0 0) [] := ⟨Rd.nil _, Or.inl ⟨rfl, rfl⟩⟩
theorem NewB.mk {w w' : World} {g : Nat} {bs : List Nat} (hg : w.heap.size ≤ g) (h : w'.heap[g]? = some (.cells (bs.map u8).toArray 5 (0, 0))) (hb : ∀ x ∈ bs, x < 256) (hl : bs.length ≤ 140737488355328) : NewB w w' (.slice (some ⟨g, 0, none⟩) bs.length bs.length) bs :=
  ⟨rd_fresh h hb hl, Or.inr ⟨g, rfl, hg, h⟩⟩
theorem take_byte {l : List Nat} {k : Nat} (h : ∀ x ∈ l, x < 256) : ∀ x ∈ l.take k, x < 256 := fun x hx => h x (List.mem_of_mem_take hx)

/-- A Writer that is new since w0. -/
structure Wn (w0 w : World) (b : Nat) (v : Value) (bs : List Nat) : Prop where
  at_ : WrAt w b v bs
  new : ∀ g, v.ownBlock = some g → w0.heap.size ≤ g
  hb : w0.heap.size ≤ b
  kept : Kept [] w0 w
theorem Wn.grew {w0 w w' : World} {b : Nat} {v v' : Value} {bs bs' : List Nat} (h : Wn w0 w b v bs) (hw : WrAt w' b v' bs') (g : Grew b v v' w w') : Wn w0 w' b v' bs' :=
  ⟨hw, g.fresh h.new h.kept.size, h.hb, g.keptNil h.kept h.hb h.new⟩
theorem Wn.start {w0 w : World} (k : Kept [] w0 w) : Wn w0 (w.alloc (.cells #[.slice none 0 0] 93)) w.heap.size (.slice none 0 0) [] :=
  ⟨WrAt.new w, by intro g hg; simp [Value.ownBlock] at hg, k.size, k.alloc _⟩
theorem Wn.rd {w0 w w' : World} {b : Nat} {v : Value} {bs : List Nat} (h : Wn w0 w b v bs) {pv : Value} {p : List Nat} (hr : Rd w0 pv p) (k : Kept (b :: v.ownBlock.toList) w w') : Rd w' pv p := by
  have k2 : Kept (b :: v.ownBlock.toList) w0 w' := (h.kept.mono (by simp)).trans k (fun x hx => Or.inl hx)
  refine hr.old k2 (fun x hx => ?_)
  rcases List.mem_cons.1 hx with rfl | hx
  · exact h.hb
  · exact h.new x (by simpa [Option.mem_toList] using hx)

theorem wn_u8 {w0 w : World} {b : Nat} {v : Value} {bs : List Nat} (x : Nat) (h : Wn w0 w b v bs) (hx : x < 256) (hl : bs.length + 8 ≤ 140737488355328) :
    Calls Try.prog 106 #[.pointer (some ⟨b, 0, none⟩), .int .u8 x] w fun e w' => e = .returned (.tuple #[]) ∧ ∃ v', Wn w0 w' b v' (bs ++ wide x 1) :=
  (wu8_any b v bs x w h.at_ hx hl).mono fun e w' ⟨he, v', h1, h2⟩ => ⟨he, v', h.grew h1 h2⟩

theorem wn_u64 {w0 w : World} {b : Nat} {v : Value} {bs : List Nat} (x : Nat) (h : Wn w0 w b v bs) (hl : bs.length + 8 ≤ 140737488355328) :
    Calls Try.prog 44 #[.pointer (some ⟨b, 0, none⟩), .int .u64 x] w fun e w' => e = .returned (.tuple #[]) ∧ ∃ v', Wn w0 w' b v' (bs ++ wide x 8) :=
  (wu64_any b v bs x w h.at_ hl).mono fun e w' ⟨he, v', h1, h2⟩ => ⟨he, v', h.grew h1 h2⟩

theorem wn_raw {w0 w : World} {b : Nat} {v pv : Value} {bs p : List Nat} (h : Wn w0 w b v bs) (hr : Rd w pv p) (hl : bs.length + p.length ≤ 140737488355328) :
    Calls Try.prog 45 #[.pointer (some ⟨b, 0, none⟩), pv] w fun e w' => e = .returned (.tuple #[]) ∧ ∃ v', Wn w0 w' b v' (bs ++ p) :=
  (wraw_any b v pv bs p w h.at_ hr hl).mono fun e w' ⟨he, v', h1, h2⟩ => ⟨he, v', h.grew h1 h2⟩

theorem wn_uvar {w0 w : World} {b : Nat} {v : Value} {bs : List Nat} (x : Nat) (h : Wn w0 w b v bs) (hx : x < 18446744073709551616) (hl : bs.length + 10 ≤ 140737488355328) :
    Calls Try.prog 58 #[.pointer (some ⟨b, 0, none⟩), .int .u64 x] w fun e w' => e = .returned (.tuple #[]) ∧ ∃ v', Wn w0 w' b v' (bs ++ uv x) :=
  (wuvar_any b v bs x w h.at_ hx hl).mono fun e w' ⟨he, v', h1, h2⟩ => ⟨he, v', h.grew h1 h2⟩

theorem wn_blob {w0 w : World} {b : Nat} {v pv : Value} {bs p : List Nat} (h : Wn w0 w b v bs) (hr : Rd w0 pv p) (hl : bs.length + 10 + p.length ≤ 140737488355328) :
    Calls Try.prog 107 #[.pointer (some ⟨b, 0, none⟩), pv] w fun e w' => e = .returned (.tuple #[]) ∧ ∃ v', Wn w0 w' b v' (bs ++ (uv p.length ++ p)) :=
  (wblob_any b v pv bs p w h.at_ (fun w' k => h.rd hr k) hl).mono fun e w' ⟨he, v', h1, h2⟩ => ⟨he, v', h.grew h1 h2⟩

theorem wn_bytes {w0 w : World} {b : Nat} {v : Value} {bs : List Nat} (h : Wn w0 w b v bs) (hl : bs.length ≤ 140737488355328) :
    Calls Try.prog 46 #[.pointer (some ⟨b, 0, none⟩)] w fun e w' => ∃ v', e = .returned v' ∧ NewB w0 w' v' bs ∧ Kept [] w0 w' :=
  (wbytes_any b v bs w h.at_ hl).mono fun e w' ⟨he, k, h1⟩ => ⟨_, he, NewB.mk h.kept.size h1 h.at_.byte hl, h.kept.trans k (by simp)⟩

end Go.Proofs.Ytkcanelboloihaa
