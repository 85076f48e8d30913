import Derived.Test.YtjafmnemobcipaaDoorNCom
import Derived.Lib.Bytealg
import Derived.Laws.Externs
import Derived.Test.YtjafmnemobcipaaDoorDSum
import Derived.Test.YtjafmnemobcipaaDoorJoin
import Derived.Test.YtjafmnemobcipaaDoorDDoc
import Derived.Test.YtjafmnemobcipaaDoorCat
import Derived.Lib.BitFns
import Derived.Test.YtjafmnemobcipaaDoorQKeep
import Derived.Deep.MidRow
import Derived.Test.YtjafmnemobcipaaDoorNTwo
import Derived.Test.YtjafmnemobcipaaDoorSame
namespace Go.Proofs.YtjafmnemobcipaaDoor
open Go.RowKit Go.BigFrame
set_option linter.unusedVariables false
set_option linter.unusedSimpArgs false

/-- Bytes held against one another. -/
def ordL : List Nat → List Nat → Int
  | [], [] => 0
  | [], _ :: _ => -1
  | _ :: _, [] => 1
  | x :: a, y :: b => if x < y then -1 else if y < x then 1 else ordL a b
def b8 (x : Nat) : UInt8 := ((x : Int)).toNat.toUInt8
theorem b8_lt {x y : Nat} (hx : x < 256) (hy : y < 256) : (b8 x < b8 y) ↔ x < y := by
  unfold b8
  rw [Int.toNat_natCast, Int.toNat_natCast, UInt8.lt_iff_toNat_lt, Nat.toUInt8_eq, Nat.toUInt8_eq, UInt8.toNat_ofNat', UInt8.toNat_ofNat']
  rw [Nat.mod_eq_of_lt (by omega), Nat.mod_eq_of_lt (by omega)]
theorem cmp_ord : ∀ (a b : List Nat), (∀ x ∈ a, x < 256) → (∀ x ∈ b, x < 256) → Lib.compareBytes (a.map b8) (b.map b8) = ordL a b
  | [], [], _, _ => rfl
  | [], _ :: _, _, _ => rfl
  | _ :: _, [], _, _ => rfl
  | x :: a, y :: b, ha, hb => by
    have h1 := b8_lt (ha x (by simp)) (hb y (by simp))
    have h2 := b8_lt (hb y (by simp)) (ha x (by simp))
    simp only [List.map_cons, Lib.compareBytes, ordL]
    rw [cmp_ord a b (fun z hz => ha z (by simp [hz])) (fun z hz => hb z (by simp [hz]))]
    by_cases g1 : x < y
    · rw [if_pos (h1.2 g1), if_pos g1]
    · rw [if_neg (fun h => g1 (h1.1 h)), if_neg g1]
      by_cases g2 : y < x
      · rw [if_pos (h2.2 g2), if_pos g2]
      · rw [if_neg (fun h => g2 (h2.1 h)), if_neg g2]
theorem run_loadBytes {P : Program} {w : World} {g : Nat} : ∀ (bs : List Nat) (off : Nat) (acc : ByteArray), (∀ i, i < bs.length → w.cell? ⟨g, off + i, none⟩ = some (u8 (bs.getD i 0))) →
    ∃ r : ByteArray, (Extern.Bytes.loadBytes ⟨g, off, none⟩ bs.length acc).run P w = .ok r w ∧ r.data.toList = acc.data.toList ++ bs.map b8
  | [], off, acc, _ => ⟨acc, rfl, by simp⟩
  | x :: bs, off, acc, h => by
    have h0 := h 0 (by simp)
    obtain ⟨r, hr, he⟩ := run_loadBytes (P := P) bs (off + 1) (acc.push (b8 x)) (fun i hi => by
      have := h (i + 1) (by simp; omega)
      rw [show off + 1 + i = off + (i + 1) by omega]
      exact this)
    refine ⟨r, ?_, ?_⟩
    · rw [List.length_cons, Extern.Bytes.loadBytes, Sem.run_bind, run_load]
      rw [Nat.add_zero] at h0
      rw [h0]
      exact hr
    · rw [he]; simp [ByteArray.push]
theorem run_cmp {P : Program} {w : World} {g g' : Nat} (a b : List Nat) (c c' n n' : Nat) (hn : a.length = n) (hn' : b.length = n') (ha : ∀ x ∈ a, x < 256) (hb : ∀ x ∈ b, x < 256) (h : ∀ i, i < a.length → w.cell? ⟨g, i, none⟩ = some (u8 (a.getD i 0))) (h' : ∀ i, i < b.length → w.cell? ⟨g', i, none⟩ = some (u8 (b.getD i 0))) :
    (Extern.BytealgCompare.compare #[.slice (some ⟨g, 0, none⟩) n c, .slice (some ⟨g', 0, none⟩) n' c']).run P w = .ok (.int .i64 (ordL a b)) w := by
  subst hn; subst hn'
  obtain ⟨r, hr, he⟩ := run_loadBytes (P := P) (w := w) (g := g) a 0 .empty (fun i hi => by rw [Nat.zero_add]; exact h i hi)
  obtain ⟨r', hr', he'⟩ := run_loadBytes (P := P) (w := w) (g := g') b 0 .empty (fun i hi => by rw [Nat.zero_add]; exact h' i hi)
  change Sem.run P (do pure (goInt (Extern.BytealgCompare.cmp (← Extern.Bytes.loadBytes ⟨g, 0, none⟩ a.length .empty) (← Extern.Bytes.loadBytes ⟨g', 0, none⟩ b.length .empty)))) w = _
  simp only [Sem.run_bind, hr, hr', Sem.run_pure, Result.andThen]
  rw [Lib.cmp_eq, he, he']
  show Result.ok (goInt (Lib.compareBytes (a.map b8) (b.map b8))) w = _
  rw [cmp_ord a b ha hb]
  rfl

set_option maxRecDepth 100000 in
set_option maxHeartbeats 1000000 in
theorem bcompare_any (a b : List Nat) (g g' c c' : Nat) (w : World) (ha : Dg a) (hb : Dg b) (h : ∀ i, i < a.length → w.cell? ⟨g, i, none⟩ = some (u8 (a.getD i 0))) (h' : ∀ i, i < b.length → w.cell? ⟨g', i, none⟩ = some (u8 (b.getD i 0))) :
    Calls Tryd.prog 63 #[.slice (some ⟨g, 0, none⟩) 32 c, .slice (some ⟨g', 0, none⟩) 32 c'] w fun e w' => e = .returned (.int .i64 (ordL a b)) ∧ w' = w := by
  have HC := hide (fun (P : Program) => run_cmp (P := P) a b c c' 32 32 ha.1 hb.1 ha.2 hb.2 h h')
  clear h h'
  go_enter Tryd.func63, Tryd.ntmps63
  go_wp2
  rw [run_callFunc_extern Tryd.func78 (by kernel_rfl) (by kernel_rfl) (by kernel_rfl) (e := Extern.BytealgCompare.compare) (by kernel_rfl), unhide HC]
  simp only [Result.andThen]
  rw [Oper.upon_value]
  go_wp2
  go_ret
  exact ⟨rfl, rfl⟩

/-- What Order answers. -/
def ordC (z : Int) (a b : List Nat) : Int := if formedE z [a, b] = 0 then ordL a b else 0

end Go.Proofs.YtjafmnemobcipaaDoor
namespace Go.Proofs.YtjafmnemobcipaaDoor
open Go.RowKit Go.BigFrame
set_option linter.unusedVariables false
set_option linter.unusedSimpArgs false

theorem Tryd.infoB : (Tryd.prog.info? 22).map (fun i => (i.zero, i.size, i.bytes)) = some (some (.slice none 0 0), 1, 24) := by kernel_rfl
/-- One value more behind a row of slices that is owned. -/
theorem pushV (w : World) (base : Nat) (v : Value) (xs : List Value) (x : Value) (H : Nat) (h : w.ownsRow base 22 1 v xs.length xs) (hnew : w.heap[H]? = some (.cells #[x] 22 (0, 0))) (hx : x.oneCell' = true) (hl : xs.length + 1 ≤ 1000000000000) (hb : base ≤ w.heap.size) :
    ∃ g cap w1, (Builtin.append_ #[35, 35] 35 #[v, .slice (some ⟨H, 0, none⟩) 1 1]).run Tryd.prog w = .ok (.slice (some ⟨g, 0, none⟩) (xs.length + 1) cap) w1 ∧
      w1.ownsRow base 22 1 (.slice (some ⟨g, 0, none⟩) (xs.length + 1) cap) (xs.length + 1) (xs ++ [x]) ∧ w.grownBy w1 v.ownBlock ∧ (v.ownBlock = some g ∨ g = w.heap.size) := by
  obtain ⟨i0, hi, hz0, hz1, hz2⟩ := info_parts Tryd.infoB
  obtain ⟨g, cap, w1, hr, hown, hgrow, hat, hlt⟩ := run_append_lies (P := Tryd.prog) w 35 35 base 22 i0 (.slice none 0 0) 1 24 Tryd.underlying35 hi hz0 hz1 hz2 rfl (by decide)
    v xs.length xs h ⟨H, 0, none⟩ 1 1 [x] rfl (World.news_of_block hnew) (by simpa using hx) (by decide) (by unfold maxLen; omega) (by omega) hb _ rfl
  exact ⟨g, cap, w1, hr, hown, hgrow, hat⟩
theorem wpList_pushV {ops : Array Oper} {rest : List Oper} {o : Oper} {a : Act} {Q : Exit → Act → World → Prop} (hgd : o.guard = none) (s x : Operand)
    (ho : o.op = .call { callee := .builtin .append, args := #[s, x], argTypes := #[35, 35] }) (hty : o.type = 35)
    (w : World) (base : Nat) (v : Value) (xs : List Value) (y : Value) (H : Nat) (h : w.ownsRow base 22 1 v xs.length xs) (hnew : w.heap[H]? = some (.cells #[y] 22 (0, 0))) (hy : y.oneCell' = true) (hl : xs.length + 1 ≤ 1000000000000) (hb : base ≤ w.heap.size)
    (hs : a.eval s = v) (hx : a.eval x = .slice (some ⟨H, 0, none⟩) 1 1)
    (hK : ∀ g cap w1, Hid (w1.ownsRow base 22 1 (.slice (some ⟨g, 0, none⟩) (xs.length + 1) cap) (xs.length + 1) (xs ++ [y])) → Hid (w.grownBy w1 v.ownBlock) → Hid (v.ownBlock = some g ∨ g = w.heap.size) →
      wpList Tryd.prog ops Q rest (a.put o.dst (.slice (some ⟨g, 0, none⟩) (xs.length + 1) cap)) w1) :
    wpList Tryd.prog ops Q (o :: rest) a w := by
  obtain ⟨g, cap, w1, hrun, h2, h3, h4⟩ := pushV w base v xs y H h hnew hy hl hb
  refine wpList_plain hgd fun K hK' => ?_
  unfold Oper.wp execOp
  simp only [ho, hty, resolve, invoke, builtin, Sem.run_bind, Sem.run_pure, Result.andThen_ok, List.map_toArray, List.map_cons, List.map_nil, hs, hx, hrun]
  exact hK' _ _ (hK g cap w1 h2 h3 h4)

/-- Rows of lists that are owned, each in memory of its own. -/
structure Own (w0 w : World) (v : Value) (ps : List (List Nat)) (i : Nat) (xs : List Value) : Prop where
  own : w.ownsRow w0.heap.size 22 1 v i xs
  len : xs.length = i
  le : i ≤ ps.length
  rd : ∀ j, j < i → Rd w (xs.getD j undef) (ps.getD j [])
  apart : ∀ j, j < i → ∀ b ∈ blk (xs.getD j undef), v.ownBlock ≠ some b
  lt : ∀ j, j < i → ∀ b ∈ blk (xs.getD j undef), w0.heap.size ≤ b ∧ b < w.heap.size
  kept : Kept [] w0 w
theorem Own.rdl {w0 w : World} {v : Value} {ps : List (List Nat)} {i : Nat} {xs : List Value} (h : Own w0 w v ps i xs) (hi : i = ps.length) (hm : ps.length ≤ 1000000000000) : RdL w v ps := by
  rcases h.own.2 with ⟨rfl, h0⟩ | ⟨g, cap, cur, rfl, _, hg, hc, hm', hs, ht⟩
  · have : ps = [] := List.eq_nil_of_length_eq_zero (by omega)
    subst this
    exact ⟨none, 0, 0, [], rfl, rfl, rfl, Nat.le_refl _, by omega, fun h => by omega, fun i h => by omega⟩
  · refine ⟨_, _, _, xs, rfl, h.len, hi.symm, hc, by unfold maxLen at hm'; omega, fun _ => ⟨g, 0, rfl, fun j hj => ?_⟩, h.rd⟩
    have hjx : j < xs.length := by rw [h.len]; exact hj
    have := h.own.cells (g := g) rfl j (xs.getD j undef) (by rw [List.getD_eq_getElem?_getD, List.getElem?_eq_getElem hjx]; rfl)
    rw [Addr.add_mid] at this; exact this

theorem Own.push {w0 wr w1 W : World} {v : Value} {ps : List (List Nat)} {i : Nat} {xs : List Value} (h : Own w0 wr v ps i xs) (hi : i < ps.length) (k1 : Kept [] wr w1)
    (hx : w1.heap[wr.heap.size]? = some (.cells ((ps.getD i []).map u8).toArray 5 (0, 0))) (hb : ∀ x ∈ ps.getD i [], x < 256) (hl : (ps.getD i []).length ≤ 140737488355328) {ob : Obj} {g cap n : Nat} (hn : n = (ps.getD i []).length)
    (o : W.ownsRow w0.heap.size 22 1 (.slice (some ⟨g, 0, none⟩) (xs.length + 1) cap) (xs.length + 1) (xs ++ [.slice (some ⟨wr.heap.size, 0, none⟩) n n])) (gr : (w1.alloc ob).grownBy W v.ownBlock) (hg : v.ownBlock = some g ∨ g = (w1.alloc ob).heap.size) :
    Own w0 W (.slice (some ⟨g, 0, none⟩) (xs.length + 1) cap) ps (i + 1) (xs ++ [.slice (some ⟨wr.heap.size, 0, none⟩) n n]) := by
  subst hn
  have hgr : ∀ b, b < (w1.alloc ob).heap.size → v.ownBlock ≠ some b → W.heap[b]? = (w1.alloc ob).heap[b]? := fun b hb1 hb2 => gr.block b hb1 (Ne.symm hb2)
  have hlt : wr.heap.size < w1.heap.size := lt_of_block hx
  have hsz : (w1.alloc ob).heap.size = w1.heap.size + 1 := by simp
  have hown : ∀ b, v.ownBlock = some b → w0.heap.size ≤ b ∧ b < wr.heap.size := fun b hb => h.own.lt b hb
  have kW : Kept v.ownBlock.toList wr W := ((k1.alloc ob).mono (by simp)).grown gr (by intro k hk; left; simp [hk])
  have kW0 : Kept [] w0 W := (h.kept.trans k1 (by simp)).alloc ob |>.grown gr (by intro k hk; right; exact (hown k hk).1)
  have hlen := h.len
  have gl : ∀ j, j < i → (xs ++ [Value.slice (some ⟨wr.heap.size, 0, none⟩) (ps.getD i []).length (ps.getD i []).length]).getD j undef = xs.getD j undef := fun j hj => by
    rw [List.getD_eq_getElem?_getD, List.getElem?_append_left (by omega), List.getD_eq_getElem?_getD]
  have gi : (xs ++ [Value.slice (some ⟨wr.heap.size, 0, none⟩) (ps.getD i []).length (ps.getD i []).length]).getD i undef = Value.slice (some ⟨wr.heap.size, 0, none⟩) (ps.getD i []).length (ps.getD i []).length := by
    rw [List.getD_eq_getElem?_getD, List.getElem?_append_right (by omega), hlen, Nat.sub_self]; rfl
  refine ⟨by have o2 := o; rw [hlen] at o2 ⊢; exact o2, by simp [hlen], hi, fun j hj => ?_, fun j hj => ?_, fun j hj => ?_, kW0⟩
  · rcases Nat.lt_or_ge j i with hj1 | hj1
    · rw [gl j hj1]
      exact (h.rd j hj1).kept kW (fun b hb2 hm => h.apart j hj1 b hb2 (by simpa using hm))
    · obtain rfl : j = i := by omega
      rw [gi]
      refine rd_fresh ?_ hb hl
      rw [hgr _ (by omega) (fun e => by have := (hown _ e).2; omega)]
      exact ((Kept.refl [] w1).alloc ob).heap hx (by simp)
  · rcases Nat.lt_or_ge j i with hj1 | hj1
    · rw [gl j hj1]
      intro b hb2 e
      simp only [Value.ownBlock, Option.some.injEq] at e
      subst e
      rcases hg with hg | hg
      · exact h.apart j hj1 _ hb2 hg
      · have := (h.lt j hj1 _ hb2).2; omega
    · obtain rfl : j = i := by omega
      rw [gi]
      intro b hb2 e
      simp only [Value.ownBlock, Option.some.injEq, blk, List.mem_singleton] at e hb2
      subst e
      rcases hg with hg | hg
      · have := (hown _ hg).2; omega
      · omega
  · rcases Nat.lt_or_ge j i with hj1 | hj1
    · rw [gl j hj1]
      intro b hb2
      have := h.lt j hj1 b hb2
      have := kW.size
      omega
    · obtain rfl : j = i := by omega
      rw [gi]
      intro b hb2
      simp only [blk, List.mem_singleton] at hb2
      subst hb2
      have h7 := h.kept.size
      have h8 := gr.size
      exact ⟨h7, by omega⟩

end Go.Proofs.YtjafmnemobcipaaDoor
namespace Go.Proofs.YtjafmnemobcipaaDoor
open Go.RowKit Go.BigFrame
set_option linter.unusedVariables false
set_option linter.unusedSimpArgs false

set_option maxRecDepth 100000 in
set_option maxHeartbeats 1000000 in
theorem refCut_any (k : Nat) (v : Value) (p : List Nat) (w : World) (h : Rd w v p) (hk : k ≤ 32) :
    Calls Tryd.prog 25 #[.int .i64 k, v] w fun e w' => e = .returned (.agg (brow (cutL k (hash p)))) ∧ Kept [] w w' := by
  have H := hide h
  clear h
  have hhl := hash_len p
  obtain ⟨hp, hhp⟩ : ∃ hp, hash p = hp := ⟨_, rfl⟩
  rw [hhp] at hhl ⊢
  have HHP := hide hhp
  obtain ⟨C, hC⟩ : ∃ C, cutL k hp = C := ⟨_, rfl⟩
  rw [hC]
  have HCC := hide hC
  clear hhp hC
  go_enter Tryd.func25, Tryd.ntmps25
  go_wp2_with fail
  rw [zb32]
  refine Calls.mono (refsum_any v p _ ((unhide H).old ((Kept.refl [] w).alloc _) (by simp))) ?_
  rintro e w1 ⟨rfl, k1⟩
  have HZ1 := hide (k1.heap (heap_alloc_new w (.cells (zb 32) 29)) (by simp))
  have HK1 := hide (((Kept.refl [] w).alloc (.cells (zb 32) 29)).trans k1 (by simp))
  clear k1
  rw [unhide HHP]
  have HS := hide (by rw [brow_size, hhl]; exact Tryd.size_a32b : (Tryd.prog.info? 28).map (·.size) = some (brow hp).size)
  go_wp2_with (rw [zb32]; refine wpList_store_row rfl 28 _ _ rfl w1.heap.size (brow hp) rfl rfl _ (zb 32) (heap_alloc_new _ _) (unhide HS) (by rw [zb_size, brow_size, hhl]) (brow_one _) ?_)
  have HD0 := hide (setRow_heap (w1.alloc (.cells (zb 32) 28)) w1.heap.size (zb 32) (brow hp) 28 (0, 0) (heap_alloc_new _ _))
  have hwlt : w.heap.size < w1.heap.size := lt_of_block (unhide HZ1)
  have HZ0 := hide ((setRow_other (w1.alloc (.cells (zb 32) 28)) w1.heap.size w.heap.size (brow hp) (by omega)).trans (((Kept.refl [] w1).alloc (.cells (zb 32) 28)).heap (unhide HZ1) (by simp)))
  have HK0 := hide (((unhide HK1).alloc (.cells (zb 32) 28)).setRow (g := w1.heap.size) (Or.inr (unhide HK1).size) (brow hp))
  obtain ⟨W, hW⟩ : ∃ W, (w1.alloc (.cells (zb 32) 28)).setRow w1.heap.size (brow hp) = W := ⟨_, rfl⟩
  rw [hW] at HD0 HZ0 HK0 ⊢
  obtain ⟨gd, hgd⟩ : ∃ gd, w1.heap.size = gd := ⟨_, rfl⟩
  rw [hgd] at HD0 hwlt ⊢
  have Hgd := hide (by have := (unhide HK1).size; omega : w.heap.size ≤ gd)
  clear hW hgd HZ1 HK1
  go_loopw [6] (fun t6 wq => ∃ (i : Nat) (ds : List Nat), k ≤ i ∧ i ≤ 32 ∧ t6 = .int .i64 i ∧ Hid (ds.length = 32 ∧ (∀ x, x < k → ds.getD x 0 = hp.getD x 0) ∧ ∀ x, k ≤ x → x < i → ds.getD x 0 = 0) ∧ Hid (wq.heap[gd]? = some (.cells (brow ds) 28 (0, 0))) ∧ Hid (wq.heap[w.heap.size]? = some (.cells (zb 32) 29 (0, 0))) ∧ Hid (Kept [] w wq)) (fun t _ => 32 - (intOf t).toNat)
  case atStart => exact ⟨k, hp, Nat.le_refl _, hk, rfl, hide ⟨hhl, fun x _ => rfl, fun x h1 h2 => by omega⟩, HD0, HZ0, HK0⟩
  case round =>
    clear HD0 HZ0 HK0
    obtain ⟨i, ds, hki, hi, rfl, HM, HD, HZ, HK⟩ := hrel
    by_cases hlt : i < 32
    · have hlt' : (i : Int) < 32 := by omega
      have cd := brow_cell (unhide HD) i (by rw [(unhide HM).1]; exact hlt)
      have fr : wr.frozen? ⟨gd, i, none⟩ = false := frozen_of_row _ _ _ _ _ (unhide HD)
      have HMN := hide (⟨by simpa using (unhide HM).1, fun x hx => by rw [getD_set_other _ _ _ _ (by omega)]; exact (unhide HM).2.1 x hx, fun x h1 h2 => by
        by_cases hx : x = i
        · subst hx; rw [getD_set_same _ _ _ (by rw [(unhide HM).1]; exact hlt)]
        · rw [getD_set_other _ _ _ _ hx]; exact (unhide HM).2.2 x h1 (by omega)⟩ : (ds.set i 0).length = 32 ∧ (∀ x, x < k → (ds.set i 0).getD x 0 = hp.getD x 0) ∧ ∀ x, k ≤ x → x < i + 1 → (ds.set i 0).getD x 0 = 0)
      have HND := hide (brow_setCell (unhide HD) i 0)
      have HNZ := hide ((heap_setCell_other wr ⟨gd, i, none⟩ w.heap.size (Go.Proofs.YtjafmnemobcipaaDoor.u8 0) (by simp only [ne_eq]; omega)).trans (unhide HZ))
      have HNK := hide ((unhide HK).setCell (p := ⟨gd, i, none⟩) (Or.inr (unhide Hgd)) (Go.Proofs.YtjafmnemobcipaaDoor.u8 0))
      go_wp2
      go_roundw
      case rel => exact ⟨i + 1, _, by omega, by omega, by go_num, HMN, HND, HNZ, HNK⟩
      case measure => simp [intOf]; omega
    · have hlt' : ¬ (i : Int) < 32 := by omega
      have hfin : ds = cutL k hp := by
        refine list_ext_getD (by rw [(unhide HM).1, cutL_len k hp hk hhl]) (fun x hx => ?_)
        rw [(unhide HM).1] at hx
        unfold cutL
        rcases Nat.lt_or_ge x k with g | g
        · rw [(unhide HM).2.1 x g, List.getD_eq_getElem?_getD, List.getD_eq_getElem?_getD, List.getElem?_append_left (by simp; omega), List.getElem?_take, if_pos g]
        · rw [(unhide HM).2.2 x g (by omega), List.getD_eq_getElem?_getD, List.getElem?_append_right (by simp; omega), List.getElem?_replicate]
          split <;> rfl
      have hcl := cutL_len k hp hk hhl
      rw [hfin, unhide HCC] at HD
      rw [unhide HCC] at hcl
      clear hfin HM
      have HS2 := hide (by rw [brow_size, hcl]; exact Tryd.size_dig : (Tryd.prog.info? 29).map (·.size) = some (brow C).size)
      go_wp2_with (first
        | (refine wpList_load_row rfl 28 _ rfl gd rfl _ (brow C) (0, 0) _ (unhide HD) Tryd.underlying28 rfl (by rw [brow_size, hcl]; exact Tryd.size_a32b) ?_)
        | (refine wpList_store_row rfl 29 _ _ rfl w.heap.size (brow C) rfl rfl _ (zb 32) (unhide HZ) (unhide HS2) (by rw [zb_size, brow_size, hcl]) (brow_one _) ?_))
      refine bodyPost_ret (v := .agg (brow C)) ?_ rfl ⟨rfl, (unhide HK).setRow (by simp) _⟩
      exact results_cell_row rfl _ _ w.heap.size _ (brow C) (0, 0) _ rfl (setRow_heap _ _ _ _ _ _ (unhide HZ)) Tryd.underlying29 rfl (unhide HS2)

end Go.Proofs.YtjafmnemobcipaaDoor
namespace Go.Proofs.YtjafmnemobcipaaDoor
open Go.RowKit Go.BigFrame
set_option linter.unusedVariables false
set_option linter.unusedSimpArgs false

set_option maxRecDepth 100000 in
set_option maxHeartbeats 1000000 in
theorem nomap_bad (z : Int) (w : World) (hz : -9223372036854775808 ≤ z ∧ z ≤ 9223372036854775807) (hw : widthB z = false) :
    Calls Tryd.prog 66 #[.int .i64 z] w fun e w' => e = .returned (.tuple #[.agg (zb 32), .int .i64 1]) ∧ Kept [] w w' := by
  go_enter Tryd.func66, Tryd.ntmps66
  go_wp2_with fail
  rw [zb32]
  refine Calls.mono (tagged_any 5 _ [] _ (by decide) (RdL.nil _) (by simp)) ?_
  rintro e w1 ⟨g, rfl, hg, h1, k1⟩
  have HZ1 := hide (k1.heap (heap_alloc_new w (.cells (zb 32) 29)) (by simp))
  have HK1 := hide (((Kept.refl [] w).alloc (.cells (zb 32) 29)).trans k1 (by simp))
  clear h1 k1
  go_wp2_with fail
  refine Calls.mono (dsum_bad z _ _ hz hw) ?_
  rintro e w2 ⟨rfl, k2⟩
  have HZ2 := hide (k2.heap ((Kept.refl [] w1).alloc (.cells #[.slice (some ⟨g, 0, none⟩) 1 1] 22) |>.heap (unhide HZ1) (by simp)) (by simp))
  have HK2 := hide (((unhide HK1).alloc _).trans k2 (by simp))
  clear k2
  go_wp2_with (refine wpList_store_row rfl 29 _ _ rfl w.heap.size (zb 32) rfl rfl _ (zb 32) (unhide HZ2) (by rw [zb_size]; exact Tryd.size_dig) rfl (brow_one _) ?_)
  refine bodyPost_ret (v := .tuple #[.agg (zb 32), .int .i64 1]) ?_ rfl ⟨rfl, (unhide HK2).setRow (by simp) _⟩
  exact results_cell_tmp rfl _ _ w.heap.size _ (zb 32) (0, 0) _ rfl (setRow_heap _ _ _ _ _ _ (unhide HZ2)) Tryd.underlying29 rfl (by rw [zb_size]; exact Tryd.size_dig) _ rfl

/-- What Sum answers. -/
def sumD (z : Int) (p : List Nat) : List Nat := if widthB z then cutL z.toNat (hash p) else List.replicate 32 0
def sumE (z : Int) : Nat := if widthB z then 0 else 1
theorem width_le {z : Int} (h : widthB z = true) : 1 ≤ z ∧ z ≤ 32 := by simpa [widthB] using h
theorem sumD_len (z : Int) (p : List Nat) : (sumD z p).length = 32 := by
  unfold sumD
  cases hw : widthB z with
  | false => simp
  | true => have := width_le hw; rw [if_pos rfl]; exact cutL_len _ _ (by omega) (hash_len _)

theorem dsum_all (z : Int) (v : Value) (ps : List (List Nat)) (w : World) (hz : -9223372036854775808 ≤ z ∧ z ≤ 9223372036854775807) (hv : RdL w v ps) (hl : ps.flatten.length ≤ 140737488355328) (hT : Tabs w) :
    Calls Tryd.prog 19 #[.int .i64 z, v] w fun e w' => e = .returned (.tuple #[.agg (brow (sumD z ps.flatten)), .int .i64 (sumE z)]) ∧ Kept [] w w' := by
  unfold sumD sumE
  cases hw : widthB z with
  | false => exact dsum_bad z v w hz hw
  | true => exact dsum_any z v ps w hz hv hl hT hw

theorem nomap_all (z : Int) (w : World) (hz : -9223372036854775808 ≤ z ∧ z ≤ 9223372036854775807) (hT : Tabs w) :
    Calls Tryd.prog 66 #[.int .i64 z] w fun e w' => e = .returned (.tuple #[.agg (brow (sumD z [5])), .int .i64 (sumE z)]) ∧ Kept [] w w' := by
  unfold sumD sumE
  cases hw : widthB z with
  | false => exact nomap_bad z w hz hw
  | true => exact nomap_any z w hz hw hT

theorem Tryd.szD {D : List Nat} (h : D.length = 32) : (Tryd.prog.info? 29).map (·.size) = some (brow D).size := by rw [brow_size, h]; exact Tryd.size_dig
theorem zbD {D : List Nat} (h : D.length = 32) : (brow D).size = (zb 32).size := by rw [zb_size, brow_size, h]
/-- A digest in a new cell. -/
theorem cell_new (w : World) (D : List Nat) : ((w.alloc (.cells (zb 32) 29)).setRow w.heap.size (brow D)).heap[w.heap.size]? = some (.cells (brow D) 29 (0, 0)) := setRow_heap _ _ _ _ _ _ (heap_alloc_new _ _)
theorem kept_new {w0 w : World} (k : Kept [] w0 w) (D : List Nat) : Kept [] w0 ((w.alloc (.cells (zb 32) 29)).setRow w.heap.size (brow D)) := (k.alloc _).setRow (Or.inr k.size) _
theorem kept_old (w : World) (D : List Nat) : Kept [] w ((w.alloc (.cells (zb 32) 29)).setRow w.heap.size (brow D)) := kept_new (Kept.refl [] w) D

theorem eq_zero (D : List Nat) (h : D = List.replicate 32 0) (W : World) : (Op.equalIn 10000 29 (.agg (brow D)) (.agg #[.int .u8 0, .int .u8 0, .int .u8 0, .int .u8 0, .int .u8 0, .int .u8 0, .int .u8 0, .int .u8 0, .int .u8 0, .int .u8 0, .int .u8 0, .int .u8 0, .int .u8 0, .int .u8 0, .int .u8 0, .int .u8 0, .int .u8 0, .int .u8 0, .int .u8 0, .int .u8 0, .int .u8 0, .int .u8 0, .int .u8 0, .int .u8 0, .int .u8 0, .int .u8 0, .int .u8 0, .int .u8 0, .int .u8 0, .int .u8 0, .int .u8 0, .int .u8 0])).run Tryd.prog W = .ok true W := by
  subst h
  have := dig_eq W (List.replicate 32 0) (List.replicate 32 0) (by simp) (by simp)
  rw [decide_eq_true rfl] at this
  rw [zb32]
  exact this
theorem dig_same (D : List Nat) (h : D.length = 32) (W : World) : (Op.equalIn 10000 29 (.agg (brow D)) (.agg (brow D))).run Tryd.prog W = .ok true W := by
  have := dig_eq W D D h h
  rw [decide_eq_true rfl] at this
  exact this

end Go.Proofs.YtjafmnemobcipaaDoor
namespace Go.Proofs.YtjafmnemobcipaaDoor
open Go.RowKit Go.BigFrame
set_option linter.unusedVariables false
set_option linter.unusedSimpArgs false

set_option maxRecDepth 100000 in
set_option maxHeartbeats 1000000 in
theorem keyInput_any (v : Value) (p : List Nat) (w : World) (h : Rd w v p) (hl : p.length ≤ 140737488351232) :
    Calls Tryd.prog 30 #[v] w fun e w' => ∃ v', e = .returned v' ∧ NewB w w' v' (2 :: p) ∧ Kept [] w w' := by
  have H := hide h
  obtain ⟨a0, m0, c0, hu0, hm0, _⟩ := id h
  subst hu0
  subst hm0
  clear h
  go_enter Tryd.func30, Tryd.ntmps30
  go_wp2_with fail
  refine Calls.mono (tagged_any 2 _ [p] _ (by decide) (RdL.one (heap_alloc_new _ _) ((unhide H).old ((Kept.refl [] w).alloc _) (by simp))) (by simpa using hl)) ?_
  rintro e w1 ⟨g, rfl, hg, h1, k1⟩
  have HG := hide (Nat.le_trans ((Kept.refl [] w).alloc _).size hg)
  have H1 := hide h1
  have HK := hide (((Kept.refl [] w).alloc _).trans k1 (by simp))
  clear hg h1 k1
  go_wp2
  go_ret
  refine ⟨_, rfl, ?_, unhide HK⟩
  have h9 := NewB.mk (w := w) (bs := 2 :: [p].flatten) (unhide HG) (unhide H1) (by simpa using (unhide H).byte) (by simp; omega)
  simpa using h9

/-- The slice value v reads as these pairs of a key and a value. -/
def RdK (w : World) (v : Value) (ps : List (List Nat × List Nat)) : Prop :=
  ∃ (ao : Option Addr) (len cap : Nat) (vs us : List Value), v = .slice ao len cap ∧ ps.length = len ∧ len ≤ cap ∧ cap ≤ 9223372036854775807 ∧ (∀ i, i < len → Rd w (vs.getD i undef) (ps.getD i ([], [])).1 ∧ Rd w (us.getD i undef) (ps.getD i ([], [])).2) ∧
    (0 < len → ∃ b off, ao = some ⟨b, off, none⟩ ∧ ∀ i, i < len → w.cell? ⟨b, off + i * 2, none⟩ = some (vs.getD i undef) ∧ w.cell? ⟨b, off + i * 2 + 1, none⟩ = some (us.getD i undef))
theorem RdK.old {w w' : World} {v : Value} {ps : List (List Nat × List Nat)} (h : RdK w v ps) (k : Kept [] w w') : RdK w' v ps := by
  obtain ⟨ao, len, cap, vs, us, h1, h2, h4, h5, h6, h7⟩ := h
  refine ⟨ao, len, cap, vs, us, h1, h2, h4, h5, fun i hi => ⟨(h6 i hi).1.old k (by simp), (h6 i hi).2.old k (by simp)⟩, fun hp => ?_⟩
  obtain ⟨b, off, e, hc⟩ := h7 hp
  exact ⟨b, off, e, fun i hi => ⟨k.cell (hc i hi).1 (by simp), k.cell (hc i hi).2 (by simp)⟩⟩
/-- The pairs laid, each with its lengths. -/
def pairB (ps : List (List Nat × List Nat)) : List Nat := (ps.map fun x => uv x.1.length ++ x.1 ++ (uv x.2.length ++ x.2)).flatten
def buckB (ps : List (List Nat × List Nat)) : List Nat := 3 :: (uv ps.length ++ pairB ps)
def kwt (ps : List (List Nat × List Nat)) : Nat := (ps.map fun x => x.1.length + x.2.length + 2).sum
theorem pairB_snoc (ps : List (List Nat × List Nat)) (i : Nat) (h : i < ps.length) : pairB (ps.take (i + 1)) = pairB (ps.take i) ++ (uv ps[i].1.length ++ ps[i].1 ++ (uv ps[i].2.length ++ ps[i].2)) := by
  unfold pairB
  rw [List.take_succ_eq_append_getElem h, List.map_append, List.flatten_append]
  simp
theorem pairB_le (ps : List (List Nat × List Nat)) (i : Nat) : (pairB (ps.take i)).length ≤ (pairB ps).length := by
  have e : pairB ps = pairB (ps.take i) ++ pairB (ps.drop i) := by
    unfold pairB
    rw [← List.flatten_append, ← List.map_append, List.take_append_drop]
  rw [e, List.length_append]; omega

end Go.Proofs.YtjafmnemobcipaaDoor
namespace Go.Proofs.YtjafmnemobcipaaDoor
open Go.RowKit
set_option linter.unusedVariables false
set_option linter.unusedSimpArgs false
attribute [local go_sem ↓] Go.wp_at_zero Go.wp_at_succ

/-- What 'Wide' has laid so far. -/
def wideCells (v n j : Nat) : Array Value := (zeros j ++ (wide v (n - j)).map u8).toArray
theorem wideCells_size (v n j : Nat) (h : j ≤ n) : (wideCells v n j).size = n := by simp [wideCells, zeros, wide_len]; omega
theorem wideCells_set (v n m : Nat) (h : m < n) : (wideCells v n (m + 1)).setIfInBounds m (u8 (v / 256 ^ (n - (m + 1)) % 256)) = wideCells v n m := by
  apply Array.toList_inj.1
  rw [Array.toList_setIfInBounds]
  simp only [wideCells]
  have e : n - m = (n - (m + 1)) + 1 := by omega
  rw [e]
  simp only [wide, List.map_cons]
  have hz : zeros (m + 1) = zeros m ++ [.int .u8 0] := by simp [zeros, List.replicate_succ']
  rw [hz]
  have hl : (zeros m).length = m := by simp [zeros]
  simp [List.set_append, hl]

end Go.Proofs.YtjafmnemobcipaaDoor
namespace Go.Proofs.YtjafmnemobcipaaDoor
open Go.RowKit
set_option linter.unusedVariables false
set_option linter.unusedSimpArgs false
attribute [local go_sem ↓] Go.wp_at_zero Go.wp_at_succ

set_option maxRecDepth 100000 in
set_option maxHeartbeats 1000000 in
theorem refUvar_any (x : Nat) (w : World) (hx : x < 18446744073709551616) :
    Calls Tryd.prog 58 #[.int .u64 x] w fun e w' => ∃ lv, e = .returned lv ∧ Rd w' lv (uv x) ∧ Kept [] w w' ∧ ∀ y ∈ blk lv, w.heap.size ≤ y := by
  go_enter Tryd.func58, Tryd.ntmps58
  go_wp2_with fail
  go_loopw [0, 3] (fun t0 t3 wr => ∃ (y : Nat) (cur : List Nat) (ao : Option Addr) (cap : Nat), t0 = .int .u64 y ∧ t3 = .slice ao cur.length cap ∧ y ≤ x ∧ Hid (cur ++ uv y = uv x) ∧ Hid (wr.ownsRow w.heap.size 5 1 (.slice ao cur.length cap) cur.length (cur.map u8)) ∧ Hid (Kept [] w wr)) (fun t _ _ => (intOf t).toNat)
  case atStart => exact ⟨x, [], none, 0, rfl, rfl, Nat.le_refl _, rfl, World.ownsRow_nil _ _ _ _, Kept.refl _ _⟩
  case round =>
    obtain ⟨y, cur, ao, cap, rfl, rfl, hy, Hp, HW, HK⟩ := hrel
    have hlen : cur.length + 1 ≤ 140737488355328 := by have h1 := congrArg List.length (unhide Hp); have h2 := uv_len x hx; have h3 := uv_pos y; simp at h1; omega
    have hcb : ∀ z ∈ cur, z < 256 := fun z hz => uv_byte x z (by rw [← unhide Hp]; simp [hz])
    have Hcb := hide hcb
    have hsz := (unhide HK).size
    clear hcb
    by_cases hlt : y < 128
    · have hlt' : (y : Int) < 128 := by omega
      have hrs : Rd (wr.alloc (.cells #[.int .u8 (y : Int)] 5)) (.slice (some ⟨wr.heap.size, 0, none⟩) 1 1) [y] := rd_lit (heap_alloc_new wr _) rfl (by simp; omega) 1 rfl (by omega)
      have HRs := hide hrs
      clear hrs
      go_wp2_with (at_builtin; go_must (refine wpList_appendAll rfl (.tmp 15) (.tmp 18) rfl rfl _ w.heap.size (.slice ao cur.length cap) cur [y] _ 1 1 (by exact (unhide HW).alloc _) (by exact unhide HRs) (by simpa using hlen) (by simp; omega) rfl rfl ?_; intro ao1 cap1 w1 HO1 HG1 HA1; simp only [List.length_cons, List.length_nil, Nat.zero_add] at HO1 HG1 HA1))
      go_ret
      have hk1 := ((unhide HK).alloc (.cells #[.int .u8 (y : Int)] 5)).grown (unhide HG1) (by intro k hk; right; exact ((unhide HW).lt k hk).1)
      refine ⟨_, rfl, ?_, hk1, ?_⟩
      · rw [← unhide Hp, uv_lt hlt]
        have h5 := unhide HO1
        rw [← List.length_singleton (a := y), ← List.length_append] at h5
        simpa using rd_owns h5 (by intro z hz; simp at hz; rcases hz with hz | rfl; exact unhide Hcb z hz; omega) (by simp; omega)
      · intro z hz
        cases ao1 with
        | none => simp [blk] at hz
        | some a => simp [blk] at hz; subst hz; exact ((unhide HO1).lt a.block rfl).1
    · have hge : 128 ≤ (y : Int) := by omega
      have hrs : Rd (wr.alloc (.cells #[.int .u8 ((y : Int) % 128 + 128)] 5)) (.slice (some ⟨wr.heap.size, 0, none⟩) 1 1) [y % 128 + 128] := rd_lit (heap_alloc_new wr _) (by simp) (by simp; omega) 1 rfl (by omega)
      have HRs := hide hrs
      clear hrs
      go_wp2_with (at_builtin; go_must (refine wpList_appendAll rfl (.tmp 6) (.tmp 11) rfl rfl _ w.heap.size (.slice ao cur.length cap) cur [y % 128 + 128] _ 1 1 (by exact (unhide HW).alloc _) (by exact unhide HRs) (by simpa using hlen) (by simp; omega) rfl rfl ?_; intro ao1 cap1 w1 HO1 HG1 HA1; simp only [List.length_cons, List.length_nil, Nat.zero_add] at HO1 HG1 HA1))
      have hk1 := ((unhide HK).alloc (.cells #[.int .u8 ((y : Int) % 128 + 128)] 5)).grown (unhide HG1) (by intro k hk; right; exact ((unhide HW).lt k hk).1)
      have HK1 := hide hk1
      clear hk1
      go_wp2
      go_roundw
      case rel => exact ⟨y / 128, cur ++ [y % 128 + 128], ao1, cap1, by simp, by simp, by omega, hide (by rw [← unhide Hp, uv_ge (v := y) (by omega)]; simp), hide (by have h5 := unhide HO1; simpa using h5), HK1⟩
      case measure => simp [intOf]; omega

set_option maxRecDepth 100000 in
set_option maxHeartbeats 1000000 in
theorem refBlob_any (v : Value) (p : List Nat) (w : World) (h : Rd w v p) (hp : p.length ≤ 70368744177664) :
    Calls Tryd.prog 59 #[v] w fun e w' => ∃ lv, e = .returned lv ∧ Rd w' lv (uv p.length ++ p) ∧ Kept [] w w' ∧ ∀ y ∈ blk lv, w.heap.size ≤ y := by
  have HR := hide h
  obtain ⟨ao, n, c, rfl, rfl, _⟩ := h
  have hul := uv_len p.length (by omega)
  go_enter Tryd.func59, Tryd.ntmps59
  go_wp2_with fail
  refine (refUvar_any p.length _ (by omega)).mono ?_
  rintro e w1 ⟨lv, rfl, hr1, k1, hb1⟩
  have HR1 := hide hr1
  have HK1 := hide k1
  clear hr1 k1 hb1
  go_wp2_with fail
  refine (join_any _ _ (uv p.length) p _ (unhide HR1) (by exact (unhide HR).old (unhide HK1) (by simp)) (by omega)).mono ?_
  rintro e w2 ⟨lv2, rfl, hr2, k2, hb2⟩
  have HR2 := hide hr2
  have HK2 := hide ((unhide HK1).trans k2 (by simp))
  have HB2 := hide (fun y (hy : y ∈ blk lv2) => (by have h1 := hb2 y hy; have h2 := (unhide HK1).size; omega : w.heap.size ≤ y))
  clear hr2 k2 hb2
  go_wp2
  go_ret
  exact ⟨_, rfl, unhide HR2, unhide HK2, unhide HB2⟩

set_option maxRecDepth 100000 in
set_option maxHeartbeats 1000000 in
/-- Join, and what it answers is new and owned. -/
theorem join_own (u v : Value) (p q : List Nat) (w : World) (hu : Rd w u p) (hv : Rd w v q) (hl : p.length + q.length ≤ 140737488355328) :
    Calls Tryd.prog 57 #[u, v] w fun e w' => ∃ lv, e = .returned lv ∧ w'.ownsRow w.heap.size 5 1 lv (p ++ q).length ((p ++ q).map u8) ∧ Kept [] w w' := by
  have HU := hide hu
  have HV := hide hv
  obtain ⟨a1, n1, c1, rfl, hn1, _⟩ := hu
  obtain ⟨a2, n2, c2, rfl, hn2, _⟩ := hv
  subst hn1
  subst hn2
  obtain ⟨i0, hi, hz0, hz1, hz2⟩ := info_parts Tryd.info5
  have hmk : ∀ W : World, (Instr.makeSlice 22 (.int .i64 0) (.int .i64 ((p.length : Int) + q.length))).run Tryd.prog W =
      .ok (.slice (some ⟨W.heap.size, 0, none⟩) 0 (p.length + q.length)) (W.alloc (.cells (zeros (p.length + q.length)).toArray 5)) := fun W => by
    have h := run_make (P := Tryd.prog) W 22 5 i0 (.int .u8 0) Tryd.underlying22 hi hz0 .i64 .i64 0 ((p.length : Int) + q.length) (by omega) (by omega) (by rw [hz2]; omega) (by omega)
    have e : ((p.length : Int) + q.length).toNat = p.length + q.length := by omega
    rw [e] at h
    simpa [hz1, Value.cells, madeZeros] using h
  clear hi hz0 hz1 hz2
  have HO := hide (World.ownsRow_made (base := w.heap.size) (e := 5) (size := 1) w (zeros (p.length + q.length)).toArray (p.length + q.length) (Nat.le_refl _) (by unfold maxLen; omega) (by simp [zeros]))
  have HU1 := hide ((unhide HU).old ((Kept.refl [] w).alloc (.cells (zeros (p.length + q.length)).toArray 5)) (by simp))
  go_enter Tryd.func57, Tryd.ntmps57
  go_wp2_with (at_builtin; first
    | (refine wpList_appendAll rfl (.tmp 12) (.tmp 13) rfl rfl _ w.heap.size (.slice (some ⟨w.heap.size, 0, none⟩) 0 (p.length + q.length)) [] p a1 p.length c1 (by exact unhide HO) (by exact unhide HU1) (by simp; omega) (by simp) rfl rfl ?_; intro ao1 cap1 w1 HO1 HG1 HA1; simp only [List.nil_append, List.length_nil, Nat.zero_add] at HO1 HA1; have HK1 := hide (((Kept.refl [] w).alloc _).grown (unhide HG1) (by intro k hk; right; simp [Value.ownBlock] at hk; omega)); have HA1' := hide (show ∀ g, (Value.slice ao1 p.length cap1).ownBlock = some g → w.heap.size ≤ g from fun g hg => ((unhide HO1).lt g hg).1); clear HG1 HA1)
    | (refine wpList_appendAll rfl (.tmp 15) (.tmp 16) rfl rfl _ w.heap.size (.slice ao1 p.length cap1) p q a2 q.length c2 (by exact unhide HO1) (by exact (unhide HV).old (unhide HK1) (by simp)) hl (by have := (unhide HK1).size; omega) (by simp [Act.eval]) (by simp [Act.eval]) ?_; intro ao2 cap2 w2 HO2 HG2 HA2; have HK2 := hide ((unhide HK1).grown (unhide HG2) (by intro k hk; right; exact unhide HA1' k hk)); clear HG2 HA2))
  go_ret
  refine ⟨_, rfl, ?_, unhide HK2⟩
  exact unhide HO2

end Go.Proofs.YtjafmnemobcipaaDoor
namespace Go.Proofs.YtjafmnemobcipaaDoor
open Go.RowKit Go.BigFrame
set_option linter.unusedVariables false
set_option linter.unusedSimpArgs false

theorem RdL.pair {w : World} {x y : Value} {p q : List Nat} {t : TypeId} (h : (w.alloc (.cells #[x, y] t)).heap[w.heap.size]? = some (.cells #[x, y] t)) (hx : Rd w x p) (hy : Rd w y q) : RdL (w.alloc (.cells #[x, y] t)).drew (.slice (some ⟨w.heap.size, 0, none⟩) 2 2) [p, q] := by
  have k := ((Kept.refl [] w).alloc (.cells #[x, y] t)).drew
  refine ⟨_, 2, 2, [x, y], rfl, rfl, rfl, Nat.le_refl _, by omega, fun _ => ⟨w.heap.size, 0, rfl, fun i hi => ?_⟩, fun i hi => ?_⟩
  · rcases (by omega : i = 0 ∨ i = 1) with rfl | rfl
    · exact cell_of_row _ _ _ _ _ _ h
    · exact cell_of_row _ _ _ _ _ _ h
  · rcases (by omega : i = 0 ∨ i = 1) with rfl | rfl
    · exact hx.old k (by simp)
    · exact hy.old k (by simp)
def nodeB (z : Int) (l m : List Nat) : List Nat := 1 :: (l.take z.toNat ++ m.take z.toNat)

end Go.Proofs.YtjafmnemobcipaaDoor
namespace Go.Proofs.YtjafmnemobcipaaDoor
open Go.RowKit Go.BigFrame
set_option linter.unusedVariables false
set_option linter.unusedSimpArgs false

end Go.Proofs.YtjafmnemobcipaaDoor
namespace Go.Proofs.YtjafmnemobcipaaDoor
open Go.RowKit Go.BigFrame
set_option linter.unusedVariables false
set_option linter.unusedSimpArgs false

/-- How many ones a number has. -/
def ones (x : Nat) : Nat := Lib.onesCount x
theorem pop_zero (f : Nat) : Lib.popAux f 0 = 0 := by
  induction f with
  | zero => rfl
  | succ f ih => show 0 % 2 + Lib.popAux f (0 / 2) = 0; simpa using ih
theorem pop_fuel (f : Nat) : ∀ z, z < 2 ^ f → Lib.popAux (f + 1) z = Lib.popAux f z := by
  induction f with
  | zero => intro z hz; have : z = 0 := by omega
            subst this; rfl
  | succ f ih =>
    intro z hz
    show z % 2 + Lib.popAux (f + 1) (z / 2) = z % 2 + Lib.popAux f (z / 2)
    rw [ih (z / 2) (by rw [Nat.pow_succ] at hz; omega)]
theorem ones_step (x : Nat) (h : x < 65536) : ones x = x % 2 + ones (x / 2) := by
  show x % 2 + Lib.popAux 63 (x / 2) = x % 2 + Lib.popAux 64 (x / 2)
  rw [pop_fuel 63 (x / 2) (by omega)]
theorem pop_eight (f x : Nat) : Lib.popAux (f + 8) x = Lib.popAux 8 (x % 256) + Lib.popAux f (x / 256) := by
  simp only [Lib.popAux, Nat.div_div_eq_div_mul]
  have h0 : x % 256 % 2 = x % 2 := by omega
  have h1 : x % 256 / 2 % 2 = x / 2 % 2 := by omega
  have h2 : x % 256 / 4 % 2 = x / 4 % 2 := by omega
  have h3 : x % 256 / 8 % 2 = x / 8 % 2 := by omega
  have h4 : x % 256 / 16 % 2 = x / 16 % 2 := by omega
  have h5 : x % 256 / 32 % 2 = x / 32 % 2 := by omega
  have h6 : x % 256 / 64 % 2 = x / 64 % 2 := by omega
  have h7 : x % 256 / 128 % 2 = x / 128 % 2 := by omega
  simp only [Nat.reduceMul, h0, h1, h2, h3, h4, h5, h6, h7]
  omega
theorem ones_small (y : Nat) (h : y < 256) : ones y = Lib.popAux 8 y := by
  show Lib.popAux (56 + 8) y = _
  rw [pop_eight, Nat.div_eq_of_lt h, pop_zero, Nat.mod_eq_of_lt h]; rfl
theorem ones_split (x : Nat) (h : x < 65536) : ones x = ones (x / 256) + ones (x % 256) := by
  rw [ones_small (x / 256) (by omega), ones_small (x % 256) (by omega)]
  show Lib.popAux (56 + 8) x = _
  rw [pop_eight]
  have e : Lib.popAux 56 (x / 256) = Lib.popAux 8 (x / 256) := by
    show Lib.popAux (48 + 8) (x / 256) = _
    rw [pop_eight, Nat.div_eq_of_lt (by omega : x / 256 < 256), pop_zero, Nat.mod_eq_of_lt (by omega)]; rfl
  rw [e]; omega
theorem u16_and255 (m : Nat) (h : m < 65536) : bits .and .u16 (m : Int) 255 = ((m : Int) % 256) := by
  have h1 : (BitVec.ofInt 16 (m : Int)).toNat = m := by rw [BitVec.ofInt_natCast, BitVec.toNat_ofNat]; exact Nat.mod_eq_of_lt (by omega)
  have h2 : (BitVec.ofInt 16 (255 : Int)).toNat = 255 := by decide
  show IntKind.u16.wrap ((BitVec.ofInt 16 (m : Int) &&& BitVec.ofInt 16 (255 : Int)).toNat : Int) = _
  rw [BitVec.toNat_and, h1, h2, show (255 : Nat) = 2 ^ 8 - 1 by rfl, Nat.and_two_pow_sub_one_eq_mod]
  simp [IntKind.wrap, IntKind.signed, IntKind.bits]
  omega

set_option maxRecDepth 100000 in
theorem fold_pop : (⟨((([0, 1, 1, 2, 1, 2, 2, 3, 1, 2, 2, 3, 2, 3, 3, 4, 1, 2, 2, 3, 2, 3, 3, 4, 2, 3, 3, 4, 3, 4, 4, 5, 1, 2, 2, 3, 2, 3, 3, 4, 2, 3, 3, 4, 3, 4, 4, 5, 2, 3, 3, 4, 3, 4, 4, 5, 3, 4, 4, 5, 4, 5, 5, 6] : List UInt8).append [1, 2, 2, 3, 2, 3, 3, 4, 2, 3, 3, 4, 3, 4, 4, 5, 2, 3, 3, 4, 3, 4, 4, 5, 3, 4, 4, 5, 4, 5, 5, 6, 2, 3, 3, 4, 3, 4, 4, 5, 3, 4, 4, 5, 4, 5, 5, 6, 3, 4, 4, 5, 4, 5, 5, 6, 4, 5, 5, 6, 5, 6, 6, 7]).append (([1, 2, 2, 3, 2, 3, 3, 4, 2, 3, 3, 4, 3, 4, 4, 5, 2, 3, 3, 4, 3, 4, 4, 5, 3, 4, 4, 5, 4, 5, 5, 6, 2, 3, 3, 4, 3, 4, 4, 5, 3, 4, 4, 5, 4, 5, 5, 6, 3, 4, 4, 5, 4, 5, 5, 6, 4, 5, 5, 6, 5, 6, 6, 7] : List UInt8).append [2, 3, 3, 4, 3, 4, 4, 5, 3, 4, 4, 5, 4, 5, 5, 6, 3, 4, 4, 5, 4, 5, 5, 6, 4, 5, 5, 6, 5, 6, 6, 7, 3, 4, 4, 5, 4, 5, 5, 6, 4, 5, 5, 6, 5, 6, 6, 7, 4, 5, 5, 6, 5, 6, 6, 7, 5, 6, 6, 7, 6, 7, 7, 8])).toArray⟩ : ByteArray) = Lib.pop8tab := by rfl

set_option maxRecDepth 100000 in
set_option maxHeartbeats 1000000 in
theorem ones16_any (x : Nat) (w : World) (hx : x < 65536) :
    Calls Tryd.prog 50 #[.int .u16 x] w fun e w' => e = .returned (.int .i64 (ones x)) ∧ Kept [] w w' := by
  go_enter Tryd.func50, Tryd.ntmps50
  have q1 : (0 : Int) ≤ (x : Int) / 256 := by omega
  have q2 : (x : Int) / 256 ≤ 255 := by omega
  have q3 : (0 : Int) ≤ (x : Int) % 256 := by omega
  have q4 : (x : Int) % 256 ≤ 255 := by omega
  have qa := u16_and255 x hx
  have hp1 : Lib.pop8 ((x : Int) / 256) = (ones (x / 256) : Int) := Lib.pop8_eq ⟨x / 256, by omega⟩
  have hp2 : Lib.pop8 ((x : Int) % 256) = (ones (x % 256) : Int) := Lib.pop8_eq ⟨x % 256, by omega⟩
  have l1 : ones (x / 256) ≤ 8 := Lib.onesCount_le8 ⟨x / 256, by omega⟩
  have l2 : ones (x % 256) ≤ 8 := Lib.onesCount_le8 ⟨x % 256, by omega⟩
  have HSP := hide (ones_split x hx)
  go_wp2_with fail
  rw [fold_pop]
  go_quiet (fail)
  go_wp2
  go_ret
  exact ⟨by rw [unhide HSP]; simp, (Kept.refl [] w).drewN _⟩

end Go.Proofs.YtjafmnemobcipaaDoor
namespace Go.Proofs.YtjafmnemobcipaaDoor
open Go.RowKit Go.BigFrame
set_option linter.unusedVariables false
set_option linter.unusedSimpArgs false

/-- What the check of a branch answers. -/
def branchE (z : Int) (x : Nat) (ds : List (List Nat)) : Nat := if formedE z ds = 0 then (if x = 0 ∨ ones x ≠ ds.length then 3 else 0) else formedE z ds

/-- The first k bytes of each digest, one behind the other. -/
def kidsB (k : Nat) (ds : List (List Nat)) : List Nat := (ds.map fun d => d.take k).flatten
theorem Wn.over {w0 w w' : World} {b : Nat} {v : Value} {bs : List Nat} (h : Wn w0 w b v bs) (k : Kept [] w w') : Wn w0 w' b v bs :=
  ⟨h.at_.kept k (by simp) (by simp), h.new, h.hb, h.kept.trans k (by simp)⟩
def branchB (z : Int) (x : Nat) (ds : List (List Nat)) : List Nat := 4 :: (wide x 2 ++ kidsB z.toNat ds)
theorem kidsB_snoc (k : Nat) (ds : List (List Nat)) (i : Nat) (h : i < ds.length) : kidsB k (ds.take (i + 1)) = kidsB k (ds.take i) ++ (ds.getD i []).take k := by
  unfold kidsB
  rw [List.take_succ_eq_append_getElem h, List.map_append, List.flatten_append, List.getD_eq_getElem?_getD, List.getElem?_eq_getElem h]
  simp
theorem kidsB_len (k : Nat) (ds : List (List Nat)) : (kidsB k ds).length ≤ k * ds.length := by
  induction ds with
  | nil => simp [kidsB]
  | cons d r ih =>
    have e : kidsB k (d :: r) = d.take k ++ kidsB k r := by simp [kidsB]
    rw [e, List.length_append, List.length_cons, Nat.mul_succ, List.length_take]
    omega
theorem ones_le (x : Nat) (h : x < 65536) : ones x ≤ 16 := by
  have l1 : ones (x / 256) ≤ 8 := Lib.onesCount_le8 ⟨x / 256, by omega⟩
  have l2 : ones (x % 256) ≤ 8 := Lib.onesCount_le8 ⟨x % 256, by omega⟩
  rw [ones_split x h]; omega

set_option maxRecDepth 100000 in
set_option maxHeartbeats 1000000 in
theorem branchInput_any (z : Int) (x : Nat) (v : Value) (ds : List (List Nat)) (w : World) (hz : -9223372036854775808 ≤ z ∧ z ≤ 9223372036854775807) (hx : x < 65536) (hv : RdD w v ds) :
    Calls Tryd.prog 21 #[.int .i64 z, .int .u16 x, v] w fun e w' => ∃ v', e = .returned (.tuple #[v', .int .i64 (branchE z x ds)]) ∧ NewB w w' v' (if branchE z x ds = 0 then branchB z x ds else []) ∧ Kept [] w w' := by
  have HV := hide hv
  obtain ⟨ao, len, cap, rfl, h1, h2, h3, h4, h5⟩ := hv
  have H4 := hide h4
  have H5 := hide h5
  clear h4 h5
  subst h1
  have HE := hide (show branchE z x ds = if formedE z ds = 0 then (if x = 0 ∨ ones x ≠ ds.length then 3 else 0) else formedE z ds from rfl)
  have HF := hide (show formedE z ds = if widthB z = false then 1 else if ds.all (formB z) then 0 else 3 from rfl)
  obtain ⟨R, hR⟩ : ∃ R, branchE z x ds = R := ⟨_, rfl⟩
  rw [hR] at HE ⊢
  clear hR
  obtain ⟨B, hB⟩ : ∃ B, (if R = 0 then branchB z x ds else []) = B := ⟨_, rfl⟩
  rw [hB]
  have HBB := hide hB
  clear hB
  go_enter Tryd.func21, Tryd.ntmps21
  go_wp2_with fail
  refine Calls.mono (isWidth_any z _ hz) ?_
  rintro e w1 ⟨rfl, rfl⟩
  cases hw : widthB z with
  | false =>
    have HR := hide (by rw [unhide HE, unhide HF, hw]; simp : R = 1)
    clear hw
    go_wp2
    go_ret2
    refine ⟨_, by rw [unhide HR]; rfl, ?_, Kept.refl _ _⟩
    rw [← unhide HBB, unhide HR]; exact NewB.nil _ _
  | true =>
    rw [hw] at HF
    have HW := hide hw
    clear hw
    by_cases hx0 : x = 0
    · have HR := hide (by rw [unhide HE]; by_cases h9 : formedE z ds = 0; rw [if_pos h9, if_pos (Or.inl hx0)]; rw [if_neg h9]; have h8 := unhide HF; simp at h8; rw [h8] at h9 ⊢; split at h9 <;> simp_all : R = 3)
      have hx0' : ((x : Int) == 0) = true := by rw [beq_iff_eq]; omega
      have HX0 := hide hx0
      clear hx0
      go_wp2
      go_ret2
      refine ⟨_, by rw [unhide HR]; rfl, ?_, Kept.refl _ _⟩
      rw [← unhide HBB, unhide HR]; exact NewB.nil _ _
    · have hx0' : ((x : Int) == 0) = false := by rw [beq_eq_false_iff_ne]; omega
      have HX0 := hide hx0
      clear hx0
      go_wp2_with fail
      have HO16 := hide (ones_le x hx)
      refine Calls.mono (ones16_any x _ hx) ?_
      rintro e w2 ⟨rfl, k2⟩
      have HK2 := hide k2
      clear k2
      obtain ⟨o, ho⟩ : ∃ o, ones x = o := ⟨_, rfl⟩
      rw [ho] at HE HO16 ⊢
      clear ho
      by_cases hol : o = ds.length
      · have hb : ((o : Int) != (ds.length : Int)) = false := by rw [hol]; simp
        have HOL := hide hol
        clear hol
        go_wp2_with fail
        refine Calls.mono (formed_any z _ ds _ hz ((unhide HV).old (unhide HK2))) ?_
        rintro e w3 ⟨rfl, k3⟩
        have HK3 := hide ((unhide HK2).trans k3 (by simp))
        clear k3
        obtain ⟨f, hf⟩ : ∃ f, formedE z ds = f := ⟨_, rfl⟩
        rw [hf] at HE ⊢
        clear hf
        by_cases hf0 : f = 0
        · have HR := hide (by rw [unhide HE, if_pos hf0, if_neg (by intro h; rcases h with h | h; exact unhide HX0 h; exact h (unhide HOL))] : R = 0)
          have hfb : ((f : Int) != 0) = false := by rw [hf0]; rfl
          have HF0 := hide hf0
          clear hf0
          have hwd := width_le (unhide HW)
          obtain ⟨k, rfl⟩ : ∃ k : Nat, z = k := ⟨z.toNat, by omega⟩
          have hk : (k : Int) ≤ 32 := hwd.2
          have hk' : k ≤ 32 := by omega
          have HW0 := hide (Wn.start (unhide HK3))
          go_wp2_with fail
          refine Calls.mono (wn_u8 4 (unhide HW0) (by decide) (by simp)) ?_
          rintro e w4 ⟨rfl, v4, h4⟩
          have HW4 := hide h4
          clear h4 HW0
          go_wp2_with fail
          refine Calls.mono (wn_u16 x (unhide HW4) hx (by simp [wide_len])) ?_
          rintro e w5 ⟨rfl, v5, h5⟩
          rw [show [] ++ wide 4 1 ++ wide x 2 = 4 :: wide x 2 by simp [wide]] at h5
          have HW5 := hide h5
          clear h5 HW4
          go_wp2_with fail
          have HKL := hide (fun i => Nat.le_trans (kidsB_len k (ds.take i)) (Nat.mul_le_mul hk' (by rw [List.length_take]; exact Nat.min_le_right _ _)) : ∀ i, (kidsB k (ds.take i)).length ≤ 32 * ds.length)
          have hdl16 : ds.length ≤ 16 := by have := unhide HO16; have := unhide HOL; omega
          go_loopw [35] (fun t35 wr => ∃ (i : Nat) (v : Value), i ≤ ds.length ∧ t35 = .int .i64 i ∧ Hid (Wn w1 wr w3.heap.size v (4 :: wide x 2 ++ kidsB k (ds.take i)))) (fun t _ => ds.length - (intOf t).toNat)
          case atStart => exact ⟨0, v5, Nat.zero_le _, rfl, by simpa [kidsB] using HW5⟩
          case round =>
            obtain ⟨i, vw, hi, rfl, HWR⟩ := hrel
            by_cases hlt : i < ds.length
            · have hlt' : (i : Int) < ds.length := by omega
              obtain ⟨b, o', rfl, hcell⟩ := unhide H5 (by omega)
              have HD := hide (unhide H4 (ds.getD i []) (by rw [List.getD_eq_getElem?_getD, List.getElem?_eq_getElem hlt]; exact List.getElem_mem hlt))
              have HRG := hide (fun j v hv => (unhide HWR).kept.cell (hcell i hlt j v hv) (by simp) : wr.rangeAt b (o' + i * 32) ((ds.getD i []).map u8))
              have HSN := hide (kidsB_snoc k ds i hlt)
              clear hcell
              obtain ⟨d, hd⟩ : ∃ d, ds.getD i [] = d := ⟨_, rfl⟩
              rw [hd] at HD HRG HSN
              clear hd
              have hdl := (unhide HD).1
              have HSZ := hide (by rw [brow_size, hdl]; exact Tryd.size_dig : (Tryd.prog.info? 29).map (·.size) = some (brow d).size)
              have HNW := hide (setRow_heap (wr.alloc (.cells (zb 32) 29)) wr.heap.size (zb 32) (brow d) 29 (0, 0) (heap_alloc_new _ _))
              have HWN := hide ((unhide HWR).over (((Kept.refl [] wr).alloc (.cells (zb 32) 29)).setRow (g := wr.heap.size) (Or.inr (Nat.le_refl _)) (brow d)))
              go_wp2_with (first
                | (refine wpList_load_mid rfl 29 (.tmp 37) rfl b (o' + i * 32) rfl (d.map u8) _ (unhide HRG) Tryd.underlying29 rfl (by rw [List.length_map, hdl]; exact Tryd.size_dig) ?_)
                | (rw [zb32]; refine wpList_store_row rfl 29 (.tmp 11) _ rfl wr.heap.size (brow d) rfl rfl _ (zb 32) (heap_alloc_new _ _) (unhide HSZ) (by rw [zb_size, brow_size, hdl]) (brow_one _) ?_))
              refine Calls.mono (wn_raw (unhide HWN) (rd_dig (k := k) (range_row (unhide HNW)) hdl (unhide HD).2 hk') (by have h9 := unhide HKL i; simp only [List.length_append, List.length_cons, wide_len, List.length_take]; omega)) ?_
              rintro e w6 ⟨rfl, v6, h6⟩
              rw [List.append_assoc, ← unhide HSN] at h6
              have HW6 := hide h6
              clear h6
              go_wp2
              refine ⟨⟨i + 1, v6, by omega, by go_num, HW6⟩, ?_⟩
              simp [intOf]; omega
            · have hlt' : ¬ (i : Int) < ds.length := by omega
              have hie : i = ds.length := by omega
              subst hie
              have h9 := unhide HKL ds.length
              rw [List.take_length] at HWR h9
              have HK9 := hide h9
              clear h9
              go_wp2_with fail
              refine Calls.mono (wn_bytes (unhide HWR) (by have h9 := unhide HK9; simp only [List.length_append, List.length_cons, wide_len]; omega)) ?_
              rintro e w7 ⟨v7, rfl, h7, k7⟩
              have H7 := hide h7
              have HK7 := hide k7
              clear h7 k7
              go_wp2
              go_ret2
              refine ⟨_, by rw [unhide HR]; rfl, ?_, unhide HK7⟩
              have e9 : B = 4 :: wide x 2 ++ kidsB k ds := by
                rw [← unhide HBB, unhide HR]; rfl
              rw [e9]; exact unhide H7
        · have HR := hide (by rw [unhide HE, if_neg hf0] : R = f)
          have hfb : ((f : Int) != 0) = true := by rw [bne_iff_ne]; omega
          have HF0 := hide hf0
          clear hf0
          go_wp2
          go_ret2
          refine ⟨_, by rw [unhide HR]; rfl, ?_, unhide HK3⟩
          rw [← unhide HBB, unhide HR, if_neg (unhide HF0)]; exact NewB.nil _ _
      · have HR := hide (by rw [unhide HE]; by_cases h9 : formedE z ds = 0; rw [if_pos h9, if_pos (Or.inr hol)]; rw [if_neg h9]; have h8 := unhide HF; simp at h8; rw [h8] at h9 ⊢; split at h9 <;> simp_all : R = 3)
        have hb : ((o : Int) != (ds.length : Int)) = true := by rw [bne_iff_ne]; omega
        have HOL := hide hol
        clear hol
        go_wp2
        go_ret2
        refine ⟨_, by rw [unhide HR]; rfl, ?_, unhide HK2⟩
        rw [← unhide HBB, unhide HR]; exact NewB.nil _ _
end Go.Proofs.YtjafmnemobcipaaDoor
namespace Go.Proofs.YtjafmnemobcipaaDoor
open Go.RowKit Go.BigFrame
set_option linter.unusedVariables false
set_option linter.unusedSimpArgs false

end Go.Proofs.YtjafmnemobcipaaDoor
namespace Go.Proofs.YtjafmnemobcipaaDoor
open Go.RowKit Go.BigFrame
set_option linter.unusedVariables false
set_option linter.unusedSimpArgs false

set_option maxRecDepth 100000 in
set_option maxHeartbeats 1000000 in
theorem bucketInput_any (v : Value) (ps : List (List Nat × List Nat)) (w : World) (h : RdK w v ps) (hl : (pairB ps).length ≤ 1000000000000) :
    Calls Tryd.prog 20 #[v] w fun e w' => ∃ v', e = .returned v' ∧ NewB w w' v' (buckB ps) ∧ Kept [] w w' := by
  obtain ⟨ao, len, cap, vs, us, rfl, h1, h3, h4, h5, h6⟩ := h
  have H5 := hide h5
  have H6 := hide h6
  clear h5 h6
  subst h1
  go_enter Tryd.func20, Tryd.ntmps20
  have HW0 := hide (Wn.start (Kept.refl [] w))
  go_wp2_with fail
  refine Calls.mono (wn_u8 3 (unhide HW0) (by decide) (by simp)) ?_
  rintro e w1 ⟨rfl, v1, h1⟩
  have HW1 := hide h1
  clear h1 HW0
  go_wp2_with fail
  refine Calls.mono (wn_uvar ps.length (unhide HW1) (by omega) (by simp [wide_len])) ?_
  rintro e w2 ⟨rfl, v2, h2⟩
  rw [show [] ++ wide 3 1 ++ uv ps.length = 3 :: uv ps.length by simp [wide]] at h2
  have HW2 := hide h2
  clear h2 HW1
  have HUV := hide (uv_len ps.length (by omega))
  go_wp2_with fail
  go_loopw [13] (fun t13 wr => ∃ (i : Nat) (v : Value), i ≤ ps.length ∧ t13 = .int .i64 i ∧ Hid (Wn w wr w.heap.size v (3 :: uv ps.length ++ pairB (ps.take i)))) (fun t _ => ps.length - (intOf t).toNat)
  case atStart => exact ⟨0, v2, Nat.zero_le _, rfl, by simpa [pairB] using HW2⟩
  case round =>
    obtain ⟨i, vw, hi, rfl, HW⟩ := hrel
    by_cases hlt : i < ps.length
    · have hlt' : (i : Int) < ps.length := by omega
      obtain ⟨b, off, rfl, hcc⟩ := unhide H6 (by omega)
      have q1 := (unhide HW).kept.cell (hcc i hlt).1 (by simp)
      have q2 := (unhide HW).kept.cell (hcc i hlt).2 (by simp)
      have HA := hide (unhide H5 i hlt)
      have hget : ps.getD i ([], []) = ps[i] := by rw [List.getD_eq_getElem?_getD, List.getElem?_eq_getElem hlt]; rfl
      rw [hget] at HA
      have HSN := hide (pairB_snoc ps i hlt)
      have HLE := hide (pairB_le ps (i + 1))
      clear hcc hget
      generalize vs.getD i undef = vi at q1 HA
      generalize us.getD i undef = ui at q2 HA
      generalize ps[i] = pi at HA HSN
      obtain ⟨pk, pv⟩ := pi
      simp only at HA HSN
      rw [unhide HSN] at HLE
      have HLE2 := hide (by have h9 := unhide HLE; simp only [List.length_append] at h9; omega : (pairB (ps.take i)).length + (uv pk.length).length + pk.length + (uv pv.length).length + pv.length ≤ 1000000000000)
      have HU2 := hide (uv_pos pk.length)
      obtain ⟨a8, m8, c8, rfl, hm8, _⟩ := id (unhide HA).1
      obtain ⟨a9, m9, c9, rfl, hm9, _⟩ := id (unhide HA).2
      subst hm8
      subst hm9
      go_wp2_with fail
      have HWW := hide (⟨(unhide HW).at_.alloc (.cells #[.slice a8 pk.length c8, .slice a9 pv.length c9] 64), (unhide HW).new, (unhide HW).hb, (unhide HW).kept.alloc _⟩ : Wn w (wr.alloc (.cells #[.slice a8 pk.length c8, .slice a9 pv.length c9] 64)) w.heap.size vw (3 :: uv ps.length ++ pairB (ps.take i)))
      have HCW := hide (heap_alloc_new wr (.cells #[.slice a8 pk.length c8, .slice a9 pv.length c9] 64))
      obtain ⟨W, hW⟩ : ∃ W, wr.alloc (.cells #[.slice a8 pk.length c8, .slice a9 pv.length c9] 64) = W := ⟨_, rfl⟩
      rw [hW] at HWW HCW ⊢
      clear hW
      have d1 : W.cell? ⟨wr.heap.size, 1, none⟩ = some (.slice a9 pv.length c9) := by rw [cell_of_row _ _ _ _ _ _ (unhide HCW)]; rfl
      refine Calls.mono (wblob_any _ vw _ _ pk W (unhide HWW).at_ (fun w' k => (unhide HWW).rd (unhide HA).1 k) (by have := unhide HLE2; have := unhide HUV; simp only [List.length_append, List.length_cons]; omega)) ?_
      rintro e w3 ⟨rfl, v3, h3, g3⟩
      have hn3 : wr.heap.size ∉ w.heap.size :: vw.ownBlock.toList := by
        intro hx
        rcases List.mem_cons.1 hx with hx | hx
        · have := (unhide HW).at_.lt; omega
        · have := (unhide HW).at_.ownlt (g := wr.heap.size) (by simpa [Option.mem_toList] using hx); omega
      have d2 := g3.kept.cell d1 hn3
      have HW3 := hide ((unhide HWW).grew h3 g3)
      clear h3 g3 hn3 d1
      go_wp2_with fail
      refine Calls.mono (wn_blob (unhide HW3) (unhide HA).2 (by have := unhide HLE2; have := unhide HUV; simp only [List.length_append, List.length_cons]; omega)) ?_
      rintro e w4 ⟨rfl, v4, h4⟩
      have HW4 := hide h4
      clear h4
      go_wp2
      refine ⟨⟨i + 1, v4, by omega, by go_num, ?_⟩, ?_⟩
      · rw [unhide HSN]
        simpa only [List.append_assoc] using HW4
      simp [intOf]; omega
    · have hlt' : ¬ (i : Int) < ps.length := by omega
      have hie : i = ps.length := by omega
      subst hie
      rw [List.take_length] at HW
      go_wp2_with fail
      refine Calls.mono (wn_bytes (unhide HW) (by have := unhide HUV; simp only [List.length_append, List.length_cons]; omega)) ?_
      rintro e w6 ⟨v6, rfl, h6, k6⟩
      have H6' := hide h6
      have HK6 := hide k6
      clear h6 k6
      go_wp2
      go_ret
      exact ⟨_, rfl, unhide H6', unhide HK6⟩
end Go.Proofs.YtjafmnemobcipaaDoor
namespace Go.Proofs.YtjafmnemobcipaaDoor
open Go.RowKit Go.BigFrame
set_option linter.unusedVariables false
set_option linter.unusedSimpArgs false

set_option maxRecDepth 100000 in
set_option maxHeartbeats 1000000 in
theorem refBucketInput_any (v : Value) (ps : List (List Nat × List Nat)) (w : World) (h : RdK w v ps) (hl : (pairB ps).length ≤ 1000000000000) :
    Calls Tryd.prog 26 #[v] w fun e w' => ∃ v', e = .returned v' ∧ Rd w' v' (buckB ps) ∧ Kept [] w w' := by
  obtain ⟨ao, len, cap, vs, us, rfl, h1, h3, h4, h5, h6⟩ := h
  have H5 := hide h5
  have H6 := hide h6
  clear h5 h6
  subst h1
  go_enter Tryd.func26, Tryd.ntmps26
  have HUV := hide (uv_len ps.length (by omega))
  go_wp2_with fail
  refine Calls.mono (refUvar_any ps.length _ (by omega)) ?_
  rintro e w1 ⟨v1, rfl, r1, k1, _⟩
  have HR1 := hide r1
  have k01 := ((Kept.refl [] w).alloc _).trans k1 (by simp)
  have HK1 := hide k01
  have HR0 := hide ((rd_lit1 [3] (heap_alloc_new w (.cells #[.int .u8 3] 5)) rfl (by decide) 1 rfl (by decide)).old k1 (by simp))
  clear r1 k1 k01
  go_wp2_with fail
  refine Calls.mono (join_own _ _ [3] (uv ps.length) _ (unhide HR0) (unhide HR1) (by have := unhide HUV; simp; omega)) ?_
  rintro e w2 ⟨v2, rfl, o2, k2⟩
  have HO2 := hide o2
  have HS2 := hide ((unhide HK1).size)
  have HK2 := hide ((unhide HK1).trans k2 (by simp))
  obtain ⟨ao2, cap2, hu2⟩ := owns_shape o2
  subst hu2
  have hzz := k2.size
  clear o2 k2
  obtain ⟨B0, hB0⟩ : ∃ B0, w1.heap.size = B0 := ⟨_, rfl⟩
  rw [hB0] at HO2 HS2 hzz
  clear hB0
  go_wp2_with fail
  go_loopw [3, 14] (fun t3 t14 wr => ∃ (i : Nat) (cur : List Nat) (ao : Option Addr) (cap : Nat), i ≤ ps.length ∧ t14 = .int .i64 i ∧ t3 = .slice ao cur.length cap ∧ Hid (cur = 3 :: uv ps.length ++ pairB (ps.take i)) ∧ Hid (wr.ownsRow B0 5 1 (.slice ao cur.length cap) cur.length (cur.map u8)) ∧ Hid (∀ z ∈ cur, z < 256) ∧ Hid (Kept [] w wr) ∧ B0 ≤ wr.heap.size) (fun _ t _ => ps.length - (intOf t).toNat)
  case atStart => exact ⟨0, [3] ++ uv ps.length, ao2, cap2, Nat.zero_le _, rfl, by simp, hide (by simp [pairB]), hide (by simpa using unhide HO2), hide (by intro z hz; rcases List.mem_append.1 hz with h | h; simp at h; omega; exact uv_byte _ z h), HK2, hzz⟩
  case round =>
    obtain ⟨i, cur, aoc, capc, hi, rfl, rfl, HCUR, HO, HCB, HK, hb0⟩ := hrel
    by_cases hlt : i < ps.length
    · have hlt' : (i : Int) < ps.length := by omega
      obtain ⟨b, off, rfl, hcc⟩ := unhide H6 (by omega)
      have q1 := (unhide HK).cell (hcc i hlt).1 (by simp)
      have q2 := (unhide HK).cell (hcc i hlt).2 (by simp)
      have HA := hide (unhide H5 i hlt)
      have hget : ps.getD i ([], []) = ps[i] := by rw [List.getD_eq_getElem?_getD, List.getElem?_eq_getElem hlt]; rfl
      rw [hget] at HA
      have HSN := hide (pairB_snoc ps i hlt)
      have HLE := hide (pairB_le ps (i + 1))
      clear hcc hget
      generalize vs.getD i undef = vi at q1 HA
      generalize us.getD i undef = ui at q2 HA
      generalize ps[i] = pi at HA HSN
      obtain ⟨pk, pv⟩ := pi
      simp only at HA HSN
      rw [unhide HSN] at HLE
      have HLE2 := hide (by have h9 := unhide HLE; have h8 := unhide HUV; rw [unhide HCUR]; simp only [List.length_append, List.length_cons] at h9 ⊢; omega : cur.length + (uv pk.length).length + pk.length + (uv pv.length).length + pv.length ≤ 1000000000100)
      obtain ⟨a8, m8, c8, rfl, hm8, _⟩ := id (unhide HA).1
      obtain ⟨a9, m9, c9, rfl, hm9, _⟩ := id (unhide HA).2
      subst hm8
      subst hm9
      go_wp2_with fail
      have k1 := (Kept.refl [] wr).alloc (.cells #[.slice a8 pk.length c8, .slice a9 pv.length c9] 64)
      have HCW := hide (heap_alloc_new wr (.cells #[.slice a8 pk.length c8, .slice a9 pv.length c9] 64))
      obtain ⟨W, hW⟩ : ∃ W, wr.alloc (.cells #[.slice a8 pk.length c8, .slice a9 pv.length c9] 64) = W := ⟨_, rfl⟩
      rw [hW] at k1 HCW ⊢
      clear hW
      have HOW := hide (k1.owns (unhide HO) (by simp))
      have HKW := hide ((unhide HK).trans k1 (by simp))
      have HC1 := hide (by rw [cell_of_row _ _ _ _ _ _ (unhide HCW)]; rfl : W.cell? ⟨wr.heap.size, 1, none⟩ = some (.slice a9 pv.length c9))
      have hbW := Nat.le_trans hb0 k1.size
      clear k1
      refine Calls.mono (refBlob_any _ pk _ ((unhide HA).1.old (unhide HKW) (by simp)) (by have := unhide HLE2; omega)) ?_
      rintro e w3 ⟨v3, rfl, r3, k3, _⟩
      obtain ⟨a3, m3, c3, hu3, hm3, _⟩ := id r3
      subst hu3
      have HR3 := hide r3
      have HO3 := hide (k3.owns (unhide HOW) (by simp))
      have HK3 := hide ((unhide HKW).trans k3 (by simp))
      have HK3W := hide k3
      have hb3 := Nat.le_trans hbW k3.size
      clear r3 k3
      have hnin : wr.heap.size ∉ (Value.slice aoc cur.length capc).ownBlock.toList := by
        intro hx
        have := ((unhide HO).lt wr.heap.size (by simpa [Option.mem_toList] using hx)).2
        omega
      have HNI := hide hnin
      have HLU := hide ((unhide HO).lt)
      clear hnin
      go_wp2_with (at_builtin; go_must (refine wpList_appendAll rfl _ _ rfl rfl _ B0 (.slice aoc cur.length capc) cur (uv pk.length ++ pk) _ _ _ (by exact unhide HO3) (by exact unhide HR3) (by have := unhide HLE2; simp only [List.length_append]; omega) hb3 rfl rfl ?_; intro ao4 cap4 w4 HO4 HG4 HA4; have c4 := (((unhide HK3W).mono (M := (Value.slice aoc cur.length capc).ownBlock.toList) (by simp)).grown (unhide HG4) (by intro k hk; left; simpa [Option.mem_toList] using hk)).cell (unhide HC1) (unhide HNI); have HK4 := hide ((unhide HK3).grown (unhide HG4) (by intro k hk; right; have := ((unhide HO).lt k hk).1; have := unhide HS2; omega)); have hb4 := (unhide HG4).size))
      have hm3' : m3 = (uv pk.length ++ pk).length := by rw [← hm3]
      subst hm3'
      rw [← List.length_append] at HO4 ⊢
      have HC4 := hide (by intro z hz; rcases List.mem_append.1 hz with h | h; exact unhide HCB z h; exact (unhide HR3).byte z h : ∀ z ∈ cur ++ (uv pk.length ++ pk), z < 256)
      obtain ⟨cur4, hcur4⟩ : ∃ c, cur ++ (uv pk.length ++ pk) = c := ⟨_, rfl⟩
      rw [hcur4] at HO4 HC4 ⊢
      have hl4 : cur4.length = cur.length + ((uv pk.length).length + pk.length) := by rw [← hcur4]; simp
      have HL4 := hide hl4
      have HQ4 := hide hcur4
      have hb5 := Nat.le_trans hb3 hb4
      clear hl4 hcur4
      go_wp2_with fail
      refine Calls.mono (refBlob_any _ pv _ ((unhide HA).2.old (unhide HK4) (by simp)) (by have := unhide HLE2; omega)) ?_
      rintro e w5 ⟨v5, rfl, r5, k5, _⟩
      obtain ⟨a5, m5, c5, hu5, hm5, _⟩ := id r5
      subst hu5
      have HR5 := hide r5
      have HO5 := hide (k5.owns (unhide HO4) (by simp))
      have HK5 := hide ((unhide HK4).trans k5 (by simp))
      have hb6 := Nat.le_trans hb5 k5.size
      clear r5 k5
      go_wp2_with (at_builtin; go_must (refine wpList_appendAll rfl _ _ rfl rfl _ B0 (.slice ao4 cur4.length cap4) cur4 (uv pv.length ++ pv) _ _ _ (by exact unhide HO5) (by exact unhide HR5) (by have := unhide HLE2; have := unhide HL4; simp only [List.length_append]; omega) hb6 rfl rfl ?_; intro ao6 cap6 w6 HO6 HG6 HA6; have HK6 := hide ((unhide HK5).grown (unhide HG6) (by intro k hk; right; have := ((unhide HO4).lt k hk).1; have := unhide HS2; omega)); have hb7 := (unhide HG6).size))
      have hm5' : m5 = (uv pv.length ++ pv).length := by rw [← hm5]
      subst hm5'
      refine ⟨⟨i + 1, cur4 ++ (uv pv.length ++ pv), ao6, cap6, by omega, by go_num, by simp only [List.length_append], hide (by rw [unhide HSN, ← unhide HQ4, unhide HCUR]; simp only [List.append_assoc]), hide (by have h5 := unhide HO6; rw [← List.length_append] at h5; exact h5), hide (by intro z hz; rcases List.mem_append.1 hz with h | h; exact unhide HC4 z h; exact (unhide HR5).byte z h), HK6, Nat.le_trans hb6 hb7⟩, ?_⟩
      simp [intOf]; omega
    · have hlt' : ¬ (i : Int) < ps.length := by omega
      have hie : i = ps.length := by omega
      subst hie
      rw [List.take_length] at HCUR
      go_wp2_with fail
      go_ret
      refine ⟨_, rfl, ?_, unhide HK⟩
      have h5 := rd_owns (unhide HO) (unhide HCB) (by have := unhide HUV; rw [unhide HCUR]; simp only [List.length_append, List.length_cons]; omega)
      rw [show buckB ps = cur from by rw [unhide HCUR]; rfl]
      exact h5
end Go.Proofs.YtjafmnemobcipaaDoor

namespace Go.Proofs.YtjafmnemobcipaaDoor
open Go.RowKit Go.BigFrame
set_option linter.unusedVariables false
set_option linter.unusedSimpArgs false

set_option maxRecDepth 100000 in
set_option maxHeartbeats 1000000 in
theorem key_all (z : Int) (v : Value) (p : List Nat) (w : World) (hz : -9223372036854775808 ≤ z ∧ z ≤ 9223372036854775807) (h : Rd w v p) (hl : p.length ≤ 140737488351232) (hT : Tabs w) :
    Calls Tryd.prog 15 #[.int .i64 z, v] w fun e w' => e = .returned (.tuple #[.agg (brow (sumD z (2 :: p))), .int .i64 (sumE z)]) ∧ Kept [] w w' := by
  have H := hide h
  have HT := hide hT
  clear h hT
  have hcl := sumD_len z (2 :: p)
  obtain ⟨B, hB⟩ : ∃ B, 2 :: p = B := ⟨_, rfl⟩
  have HB := hide hB
  rw [hB] at hcl ⊢
  clear hB
  obtain ⟨D, hD⟩ : ∃ D, sumD z B = D := ⟨_, rfl⟩
  have HD := hide hD
  rw [hD] at hcl ⊢
  clear hD
  obtain ⟨E, hE⟩ : ∃ E, sumE z = E := ⟨_, rfl⟩
  have HE := hide hE
  rw [hE]
  clear hE
  go_enter Tryd.func15, Tryd.ntmps15
  go_wp2_with fail
  rw [zb32]
  refine Calls.mono (keyInput_any _ p _ ((unhide H).old ((Kept.refl [] w).alloc _) (by simp)) hl) ?_
  rintro e w1 ⟨v1, rfl, n1, k1⟩
  rw [unhide HB] at n1
  have HR1 := hide n1.1
  obtain ⟨a1, m1, c1, hu1, hm1, _⟩ := id n1.1
  subst hu1
  have HZ1 := hide (k1.heap (heap_alloc_new w (.cells (zb 32) 29)) (by simp))
  have HK1 := hide (((Kept.refl [] w).alloc (.cells (zb 32) 29)).trans k1 (by simp))
  clear n1 k1
  go_wp2_with fail
  refine Calls.mono (dsum_all z _ [B] _ hz (RdL.one (heap_alloc_new _ _) ((unhide HR1).old ((Kept.refl [] w1).alloc _) (by simp))) (by have h9 := (unhide HR1).len; simpa using h9) ((unhide HT).k ((unhide HK1).alloc _))) ?_
  rintro e w2 ⟨rfl, k2⟩
  rw [show ([B] : List (List Nat)).flatten = B by simp, unhide HD, unhide HE]
  have HZ2 := hide (k2.heap ((Kept.refl [] w1).alloc (.cells #[.slice a1 m1 c1] 22) |>.heap (unhide HZ1) (by simp)) (by simp))
  have HK2 := hide (((unhide HK1).alloc _).trans k2 (by simp))
  clear k2
  go_wp2_with (refine wpList_store_row rfl 29 _ _ rfl w.heap.size (brow D) rfl rfl _ (zb 32) (unhide HZ2) (by rw [brow_size, hcl]; exact Tryd.size_dig) (by rw [zb_size, brow_size, hcl]) (brow_one _) ?_)
  refine bodyPost_ret (v := .tuple #[.agg (brow D), .int .i64 E]) ?_ rfl ⟨rfl, (unhide HK2).setRow (by simp) _⟩
  exact results_cell_tmp rfl _ _ w.heap.size _ (brow D) (0, 0) _ rfl (setRow_heap _ _ _ _ _ _ (unhide HZ2)) Tryd.underlying29 rfl (by rw [brow_size, hcl]; exact Tryd.size_dig) _ rfl

set_option maxRecDepth 100000 in
set_option maxHeartbeats 1000000 in
theorem bucket_all (z : Int) (v : Value) (ps : List (List Nat × List Nat)) (w : World) (hz : -9223372036854775808 ≤ z ∧ z ≤ 9223372036854775807) (h : RdK w v ps) (hl : (pairB ps).length ≤ 1000000000000) (hT : Tabs w) :
    Calls Tryd.prog 65 #[.int .i64 z, v] w fun e w' => e = .returned (.tuple #[.agg (brow (sumD z (buckB ps))), .int .i64 (sumE z)]) ∧ Kept [] w w' := by
  have H := hide h
  have HT := hide hT
  clear h hT
  have hcl := sumD_len z (buckB ps)
  obtain ⟨B, hB⟩ : ∃ B, buckB ps = B := ⟨_, rfl⟩
  have HB := hide hB
  rw [hB] at hcl ⊢
  clear hB
  obtain ⟨D, hD⟩ : ∃ D, sumD z B = D := ⟨_, rfl⟩
  have HD := hide hD
  rw [hD] at hcl ⊢
  clear hD
  obtain ⟨E, hE⟩ : ∃ E, sumE z = E := ⟨_, rfl⟩
  have HE := hide hE
  rw [hE]
  clear hE
  go_enter Tryd.func65, Tryd.ntmps65
  go_wp2_with fail
  rw [zb32]
  refine Calls.mono (bucketInput_any _ ps _ ((unhide H).old ((Kept.refl [] w).alloc _)) hl) ?_
  rintro e w1 ⟨v1, rfl, n1, k1⟩
  rw [unhide HB] at n1
  have HR1 := hide n1.1
  obtain ⟨a1, m1, c1, hu1, hm1, _⟩ := id n1.1
  subst hu1
  have HZ1 := hide (k1.heap (heap_alloc_new w (.cells (zb 32) 29)) (by simp))
  have HK1 := hide (((Kept.refl [] w).alloc (.cells (zb 32) 29)).trans k1 (by simp))
  clear n1 k1
  go_wp2_with fail
  refine Calls.mono (dsum_all z _ [B] _ hz (RdL.one (heap_alloc_new _ _) ((unhide HR1).old ((Kept.refl [] w1).alloc _) (by simp))) (by have h9 := (unhide HR1).len; simpa using h9) ((unhide HT).k ((unhide HK1).alloc _))) ?_
  rintro e w2 ⟨rfl, k2⟩
  rw [show ([B] : List (List Nat)).flatten = B by simp, unhide HD, unhide HE]
  have HZ2 := hide (k2.heap ((Kept.refl [] w1).alloc (.cells #[.slice a1 m1 c1] 22) |>.heap (unhide HZ1) (by simp)) (by simp))
  have HK2 := hide (((unhide HK1).alloc _).trans k2 (by simp))
  clear k2
  go_wp2_with (refine wpList_store_row rfl 29 _ _ rfl w.heap.size (brow D) rfl rfl _ (zb 32) (unhide HZ2) (by rw [brow_size, hcl]; exact Tryd.size_dig) (by rw [zb_size, brow_size, hcl]) (brow_one _) ?_)
  refine bodyPost_ret (v := .tuple #[.agg (brow D), .int .i64 E]) ?_ rfl ⟨rfl, (unhide HK2).setRow (by simp) _⟩
  exact results_cell_tmp rfl _ _ w.heap.size _ (brow D) (0, 0) _ rfl (setRow_heap _ _ _ _ _ _ (unhide HZ2)) Tryd.underlying29 rfl (by rw [brow_size, hcl]; exact Tryd.size_dig) _ rfl

end Go.Proofs.YtjafmnemobcipaaDoor
namespace Go.Proofs.YtjafmnemobcipaaDoor
open Go.RowKit Go.BigFrame
set_option linter.unusedVariables false
set_option linter.unusedSimpArgs false

def sunD (e : Nat) (z : Int) (p : List Nat) : List Nat := if e = 0 then sumD z p else List.replicate 32 0
def sunE (e : Nat) (z : Int) : Nat := if e = 0 then sumE z else e
theorem sunD_len (e : Nat) (z : Int) (p : List Nat) : (sunD e z p).length = 32 := by
  unfold sunD; split
  · exact sumD_len _ _
  · simp

set_option maxRecDepth 100000 in
set_option maxHeartbeats 1000000 in
theorem sumUnless_any (f : Nat) (z : Int) (v : Value) (p : List Nat) (w : World) (hz : -9223372036854775808 ≤ z ∧ z ≤ 9223372036854775807) (h : Rd w v p) (hT : Tabs w) :
    Calls Tryd.prog 68 #[.int .i64 f, .int .i64 z, v] w fun e w' => e = .returned (.tuple #[.agg (brow (sunD f z p)), .int .i64 (sunE f z)]) ∧ Kept [] w w' := by
  have H := hide h
  obtain ⟨a0, m0, c0, hu0, hm0, _⟩ := id h
  subst hu0
  subst hm0
  have HT := hide hT
  clear h hT
  have hcl := sunD_len f z p
  obtain ⟨D, hD⟩ : ∃ D, sunD f z p = D := ⟨_, rfl⟩
  have HD := hide hD
  rw [hD] at hcl ⊢
  clear hD
  obtain ⟨E, hE⟩ : ∃ E, sunE f z = E := ⟨_, rfl⟩
  have HE := hide hE
  rw [hE]
  clear hE
  have HL := hide (unhide H).len
  go_enter Tryd.func68, Tryd.ntmps68
  by_cases hf : f = 0
  · have hb : ((f : Int) != 0) = false := by rw [hf]; rfl
    have HD2 := hide (by rw [← unhide HD]; unfold sunD; rw [if_pos hf] : D = sumD z p)
    have HE2 := hide (by rw [← unhide HE]; unfold sunE; rw [if_pos hf] : E = sumE z)
    have HF := hide hf
    clear hf
    go_wp2_with fail
    rw [zb32]
    refine Calls.mono (dsum_all z _ [p] _ hz (RdL.one (alloc_at _ _ _) ((unhide H).old (((Kept.refl [] w).alloc _).alloc _) (by simp))) (by have h9 := unhide HL; simpa using h9) ((unhide HT).k (((Kept.refl [] w).alloc _).alloc _))) ?_
    rintro e w2 ⟨rfl, k2⟩
    rw [show ([p] : List (List Nat)).flatten = p by simp, ← unhide HD2, ← unhide HE2]
    have HZ2 := hide (k2.heap (((Kept.refl [] (w.alloc (.cells (zb 32) 29))).alloc (.cells #[.slice a0 p.length c0] 22)).heap (heap_alloc_new w (.cells (zb 32) 29)) (by simp)) (by simp))
    have HK2 := hide ((((Kept.refl [] w).alloc _).alloc _).trans k2 (by simp))
    clear k2
    go_wp2_with (refine wpList_store_row rfl 29 _ _ rfl w.heap.size (brow D) rfl rfl _ (zb 32) (unhide HZ2) (by rw [brow_size, hcl]; exact Tryd.size_dig) (by rw [zb_size, brow_size, hcl]) (brow_one _) ?_)
    refine bodyPost_ret (v := .tuple #[.agg (brow D), .int .i64 E]) ?_ rfl ⟨rfl, (unhide HK2).setRow (by simp) _⟩
    exact results_cell_tmp rfl _ _ w.heap.size _ (brow D) (0, 0) _ rfl (setRow_heap _ _ _ _ _ _ (unhide HZ2)) Tryd.underlying29 rfl (by rw [brow_size, hcl]; exact Tryd.size_dig) _ rfl
  · have hb : ((f : Int) != 0) = true := by rw [bne_iff_ne]; omega
    have HD2 := hide (by rw [← unhide HD]; unfold sunD; rw [if_neg hf] : D = List.replicate 32 0)
    have HE2 := hide (by rw [← unhide HE]; unfold sunE; rw [if_neg hf] : E = f)
    have HF := hide hf
    clear hf
    go_wp2_with (rw [zb32]; refine wpList_store_row rfl 29 _ _ rfl w.heap.size (zb 32) rfl rfl _ (zb 32) (heap_alloc_new _ _) (by rw [zb_size]; exact Tryd.size_dig) rfl (brow_one _) ?_)
    rw [unhide HD2, unhide HE2]
    refine bodyPost_ret (v := .tuple #[.agg (zb 32), .int .i64 f]) ?_ rfl ⟨rfl, ((Kept.refl [] w).alloc _).setRow (by simp) _⟩
    exact results_cell_tmp rfl _ _ w.heap.size _ (zb 32) (0, 0) _ rfl (setRow_heap _ _ _ _ _ _ (heap_alloc_new _ _)) Tryd.underlying29 rfl (by rw [zb_size]; exact Tryd.size_dig) _ rfl
end Go.Proofs.YtjafmnemobcipaaDoor
namespace Go.Proofs.YtjafmnemobcipaaDoor
open Go.RowKit Go.BigFrame
set_option linter.unusedVariables false
set_option linter.unusedSimpArgs false

set_option maxRecDepth 100000 in
set_option maxHeartbeats 1000000 in
theorem branch_all (z : Int) (x : Nat) (v : Value) (ds : List (List Nat)) (w : World) (hz : -9223372036854775808 ≤ z ∧ z ≤ 9223372036854775807) (hx : x < 65536) (h : RdD w v ds) (hT : Tabs w) :
    Calls Tryd.prog 40 #[.int .i64 z, .int .u16 x, v] w fun e w' => e = .returned (.tuple #[.agg (brow (sunD (branchE z x ds) z (branchB z x ds))), .int .i64 (sunE (branchE z x ds) z)]) ∧ Kept [] w w' := by
  have HT := hide hT
  clear hT
  have hcl := sunD_len (branchE z x ds) z (branchB z x ds)
  have HX := hide (by unfold sunD; by_cases h9 : branchE z x ds = 0; rw [if_pos h9, if_pos h9, if_pos h9]; rw [if_neg h9, if_neg h9] : sunD (branchE z x ds) z (if branchE z x ds = 0 then branchB z x ds else []) = sunD (branchE z x ds) z (branchB z x ds))
  obtain ⟨f, hf⟩ : ∃ f, branchE z x ds = f := ⟨_, rfl⟩
  have HF := hide hf
  rw [hf] at hcl HX ⊢
  clear hf
  obtain ⟨D, hD⟩ : ∃ D, sunD f z (branchB z x ds) = D := ⟨_, rfl⟩
  have HD := hide hD
  rw [hD] at hcl HX ⊢
  clear hD
  obtain ⟨E, hE⟩ : ∃ E, sunE f z = E := ⟨_, rfl⟩
  have HE := hide hE
  rw [hE]
  clear hE
  go_enter Tryd.func40, Tryd.ntmps40
  go_wp2_with fail
  rw [zb32]
  refine Calls.mono (branchInput_any z x _ ds _ hz hx (h.old ((Kept.refl [] w).alloc _))) ?_
  rintro e w1 ⟨v1, rfl, n1, k1⟩
  rw [unhide HF] at n1 ⊢
  have HR1 := hide n1.1
  obtain ⟨a1, m1, c1, hu1, hm1, _⟩ := id n1.1
  subst hu1
  have HZ1 := hide (k1.heap (heap_alloc_new w (.cells (zb 32) 29)) (by simp))
  have HK1 := hide (((Kept.refl [] w).alloc (.cells (zb 32) 29)).trans k1 (by simp))
  clear n1 k1 hm1
  go_wp2_with fail
  refine Calls.mono (sumUnless_any f z _ _ w1 hz (unhide HR1) ((unhide HT).k (unhide HK1))) ?_
  rintro e w2 ⟨rfl, k2⟩
  rw [unhide HX, unhide HE]
  have HZ2 := hide (k2.heap (unhide HZ1) (by simp))
  have HK2 := hide ((unhide HK1).trans k2 (by simp))
  clear k2
  go_wp2_with (refine wpList_store_row rfl 29 _ _ rfl w.heap.size (brow D) rfl rfl _ (zb 32) (unhide HZ2) (by rw [brow_size, hcl]; exact Tryd.size_dig) (by rw [zb_size, brow_size, hcl]) (brow_one _) ?_)
  refine bodyPost_ret (v := .tuple #[.agg (brow D), .int .i64 E]) ?_ rfl ⟨rfl, (unhide HK2).setRow (by simp) _⟩
  exact results_cell_tmp rfl _ _ w.heap.size _ (brow D) (0, 0) _ rfl (setRow_heap _ _ _ _ _ _ (unhide HZ2)) Tryd.underlying29 rfl (by rw [brow_size, hcl]; exact Tryd.size_dig) _ rfl

end Go.Proofs.YtjafmnemobcipaaDoor
/-
  A row in the midst of a block, read within a quiet walk.
-/
namespace Go.Proofs.YtjafmnemobcipaaDoor
open Go Go.RowKit Go.BigFrame

theorem wpQuiet_mid {P : Program} {ops : Array Oper} {C : World → Prop} {Q : Act → Prop} {a : Act} {o : Oper} {rest : List Oper} (hw : Region.wanted o (yielded ops a.tmps) = true) (ty : TypeId) (x : Operand) (ho : o.op = .load ty x)
    (b off : Nat) (hx : a.eval x = .pointer (some ⟨b, off, none⟩)) (cs : List Value) (d : TypeDesc) (hg : ∀ w, C w → w.rangeAt b off cs)
    (hu : P.underlying ty = some d) (hd : d.isRow = true) (hi : (P.info? ty).map (·.size) = some cs.length)
    (h : wpQuiet P ops C Q rest (a.put o.dst (.agg cs.toArray))) : wpQuiet P ops C Q (o :: rest) a := by
  refine wpQuiet_want hw fun K hK => ⟨.agg cs.toArray, fun w hw => ?_, hK _ h⟩
  unfold Oper.quietAt execOp
  simp only [ho]
  have := run_loadVar_mid (P := P) w b off ty cs d (hg w hw) hu hd hi
  simp only [hx, Instr.loadAt, Instr.sureAddr, Sem.run_bind, Sem.run_pure, Result.andThen_ok, this, Oper.quietUpon, and_self]
end Go.Proofs.YtjafmnemobcipaaDoor
namespace Go.Proofs.YtjafmnemobcipaaDoor
theorem RdD.nil_len {w : World} {ao : Option Addr} {len cap : Nat} {ds : List (List Nat)} (h : RdD w (.slice ao len cap) ds) : ds.length = len := by
  obtain ⟨_, _, _, e, h1, _⟩ := h
  cases e; exact h1
theorem RdD.dg {w : World} {v : Value} {ds : List (List Nat)} (h : RdD w v ds) {d : List Nat} (hd : d ∈ ds) : Dg d := by
  obtain ⟨ao', len', cap', e, h1, h2, h3, h4, h5⟩ := h
  exact h4 d hd
end Go.Proofs.YtjafmnemobcipaaDoor
namespace Go.Proofs.YtjafmnemobcipaaDoor
open Go.RowKit Go.BigFrame
set_option linter.unusedVariables false
set_option linter.unusedSimpArgs false

/-- The cells of digests in a row. -/
def flatD (ds : List (List Nat)) : List Value := (ds.map fun d => d.map u8).flatten
theorem flatD_len {ds : List (List Nat)} (h : ∀ d ∈ ds, d.length = 32) : (flatD ds).length = ds.length * 32 := by
  induction ds with
  | nil => rfl
  | cons d r ih =>
    have := ih (fun x hx => h x (by simp [hx]))
    simp only [flatD, List.map_cons, List.flatten_cons, List.length_append, List.length_map, List.length_cons] at this ⊢
    rw [this, h d (by simp)]; omega
theorem flatD_app (a b : List (List Nat)) : flatD (a ++ b) = flatD a ++ flatD b := by simp [flatD]
theorem flatD_one (ds : List (List Nat)) : ∀ v ∈ flatD ds, v.oneCell' = true := by
  intro v hv
  simp only [flatD, List.mem_flatten, List.mem_map] at hv
  obtain ⟨l, ⟨d, _, rfl⟩, h⟩ := hv
  exact u8_oneCell d v h
theorem flatD_at {ds : List (List Nat)} (h : ∀ d ∈ ds, d.length = 32) : ∀ (i : Nat), i < ds.length → ∀ j, j < 32 → (flatD ds)[i * 32 + j]? = ((ds.getD i []).map u8)[j]? := by
  induction ds with
  | nil => intro i hi; simp at hi
  | cons d r ih =>
    intro i hi j hj
    have hd := h d (by simp)
    have e : flatD (d :: r) = d.map u8 ++ flatD r := by simp [flatD]
    rw [e]
    cases i with
    | zero =>
      rw [Nat.zero_mul, Nat.zero_add, List.getElem?_append_left (by simp [hd]; exact hj)]; rfl
    | succ i =>
      rw [List.getElem?_append_right (by simp [hd]; omega), List.length_map, hd, show (i + 1) * 32 + j - 32 = i * 32 + j by omega, ih (fun x hx => h x (by simp [hx])) i (by simpa using hi) j hj]
      rfl
theorem RdD.news {w : World} {b off n c : Nat} {ds : List (List Nat)} (h : RdD w (.slice (some ⟨b, off, none⟩) n c) ds) : ∀ j u, (flatD ds)[j]? = some u → w.cell? ((⟨b, off, none⟩ : Addr).add j) = some u := by
  obtain ⟨ao', len', cap', e, h1, h2, h3, h4, h5⟩ := h
  cases e
  intro j u hu
  have hl := flatD_len (fun d hd => (h4 d hd).1)
  have hj := (List.getElem?_eq_some_iff.1 hu).1
  have hp : 0 < n := by
    rcases Nat.eq_zero_or_pos n with h0 | h0
    · rw [hl, h1, h0] at hj; omega
    · exact h0
  obtain ⟨b', off', e, hc⟩ := h5 hp
  cases e
  have hi : j / 32 < ds.length := by omega
  have hq := flatD_at (fun d hd => (h4 d hd).1) (j / 32) hi (j % 32) (Nat.mod_lt _ (by decide))
  rw [show j / 32 * 32 + j % 32 = j by omega, hu] at hq
  have := hc (j / 32) (by omega) (j % 32) u hq.symm
  rw [Addr.add_mid]
  rw [show off + j / 32 * 32 + j % 32 = off + j by omega] at this
  exact this
theorem rdd_owns {w : World} {base : Nat} {v : Value} {ds : List (List Nat)} (h : w.ownsRow base 29 32 v ds.length (flatD ds)) (hd : ∀ d ∈ ds, Dg d) : RdD w v ds := by
  rcases h.2 with ⟨rfl, h0⟩ | ⟨g, cap, cur, rfl, _, hg, h1, h2, h3, h4⟩
  · exact ⟨none, 0, 0, rfl, h0, Nat.le_refl _, by omega, hd, fun h => by omega⟩
  · refine ⟨_, ds.length, cap, rfl, rfl, h1, by unfold maxLen at h2; omega, hd, fun hp => ⟨g, 0, rfl, fun i hi j v hv => ?_⟩⟩
    have hj : j < 32 := by
      have := (List.getElem?_eq_some_iff.1 hv).1
      rw [List.length_map, List.getD_eq_getElem?_getD, List.getElem?_eq_getElem hi] at this
      rw [← (hd ds[i] (List.getElem_mem hi)).1]; exact this
    have hq := flatD_at (fun d hd' => (hd d hd').1) i hi j hj
    rw [Nat.zero_add, cell_of_row _ _ _ _ _ _ hg, ← hv, ← hq, ← h4, List.getElem?_take_of_lt (by omega), Array.getElem?_toList]

theorem Tryd.infoD : (Tryd.prog.info? 29).map (fun i => (i.zero, i.size, i.bytes)) = some (some (.agg (zb 32)), 32, 32) := by kernel_rfl

theorem owns_form {w : World} {base : Nat} {e : TypeId} {size n : Nat} {v : Value} {xs : List Value} (h : w.ownsRow base e size v n xs) : ∃ ao cap, v = .slice ao n cap := by
  rcases h.2 with ⟨rfl, rfl⟩ | ⟨g, cap, cur, rfl, _⟩
  · exact ⟨none, 0, rfl⟩
  · exact ⟨_, cap, rfl⟩
theorem append_none {P : Program} {w : World} (base : Nat) (t ty e : TypeId) (i : TypeInfo) (size c : Nat) (ht : P.underlying t = some (.slice e)) (hi : P.info? e = some i)
    (v : Value) (n : Nat) (xs : List Value) (hown : w.ownsRow base e size v n xs) :
    (Builtin.append_ #[t, t] ty #[v, .slice none 0 c]).run P w = .ok v w := by
  rcases hown.2 with ⟨rfl, rfl⟩ | ⟨g, cap, cur, rfl, _, _, hnc, _⟩
  · simp [Builtin.append_, run_underlying ht, sizeOf, typeInfo, hi, Builtin.lenOf, Builtin.firstCells]
  · simp [Builtin.append_, run_underlying ht, sizeOf, typeInfo, hi, Builtin.lenOf, Builtin.firstCells, hnc, storeCells]

theorem appendD (w : World) (base : Nat) (v : Value) (ds ps : List (List Nat)) (ao : Option Addr) (n c : Nat) (h : w.ownsRow base 29 32 v ds.length (flatD ds)) (hr : RdD w (.slice ao n c) ps) (hl : ds.length + ps.length ≤ 1000000000000) (hb : base ≤ w.heap.size) :
    ∃ ao' cap' w1, (Builtin.append_ #[41, 41] 41 #[v, .slice ao n c]).run Tryd.prog w = .ok (.slice ao' (ds.length + ps.length) cap') w1 ∧
      w1.ownsRow base 29 32 (.slice ao' (ds.length + ps.length) cap') (ds ++ ps).length (flatD (ds ++ ps)) ∧ w.grownBy w1 v.ownBlock := by
  obtain ⟨i0, hi, hz0, hz1, hz2⟩ := info_parts Tryd.infoD
  have hn := hr.nil_len
  have hdg : ∀ d ∈ ps, d.length = 32 := fun d hd => (hr.dg hd).1
  rw [flatD_app, List.length_append]
  by_cases h0 : n = 0
  · subst h0
    have hp : ps = [] := List.eq_nil_of_length_eq_zero hn
    subst hp
    cases ao with
    | none =>
      have hrun := append_none (P := Tryd.prog) (w := w) base 41 41 29 i0 32 c Tryd.underlying41 hi v ds.length (flatD ds) h
      obtain ⟨ao', cap', rfl⟩ := owns_form h
      exact ⟨ao', cap', w, hrun, by simpa [flatD] using h, World.grownBy.refl _ _⟩
    | some ad =>
      obtain ⟨v', w1, hrun, hown, hgrow, _, hat⟩ := run_append_own_at (P := Tryd.prog) w base 41 41 29 i0 (.agg (zb 32)) 32 32 Tryd.underlying41 hi hz0 hz1 hz2 (by show (zb 32).size = 32; exact zb_size 32) (by decide)
        v ds.length (flatD ds) h ad 0 c (flatD []) (by simp [flatD]) (by intro j u hj; simp [flatD] at hj) (flatD_one _) (by unfold maxLen; omega) (by omega) hb
      obtain ⟨ao', cap', rfl⟩ := owns_form hown
      exact ⟨ao', cap', w1, hrun, hown, hgrow⟩
  · have hr' := hr
    obtain ⟨ao1, n1, c1, he, h1, h2, h3, h4, h5⟩ := hr'
    cases he
    obtain ⟨b, off, rfl, hc⟩ := h5 (by omega)
    obtain ⟨v', w1, hrun, hown, hgrow, _, hat⟩ := run_append_own_at (P := Tryd.prog) w base 41 41 29 i0 (.agg (zb 32)) 32 32 Tryd.underlying41 hi hz0 hz1 hz2 (by show (zb 32).size = 32; exact zb_size 32) (by decide)
      v ds.length (flatD ds) h ⟨b, off, none⟩ n c (flatD ps) (by rw [flatD_len hdg, hn]) hr.news (flatD_one _) (by unfold maxLen; omega) (by omega) hb
    subst h1
    obtain ⟨ao', cap', rfl⟩ := owns_form hown
    exact ⟨ao', cap', w1, hrun, hown, hgrow⟩

theorem wpList_appendD {ops : Array Oper} {rest : List Oper} {o : Oper} {a : Act} {Q : Exit → Act → World → Prop} (hgd : o.guard = none) (s x : Operand)
    (ho : o.op = .call { callee := .builtin .append, args := #[s, x], argTypes := #[41, 41] }) (hty : o.type = 41)
    (w : World) (base : Nat) (v : Value) (ds ps : List (List Nat)) (ao : Option Addr) (n c : Nat) (h : w.ownsRow base 29 32 v ds.length (flatD ds)) (hr : RdD w (.slice ao n c) ps) (hl : ds.length + ps.length ≤ 1000000000000) (hb : base ≤ w.heap.size)
    (hs : a.eval s = v) (hx : a.eval x = .slice ao n c)
    (hK : ∀ ao' cap' w1, Hid (w1.ownsRow base 29 32 (.slice ao' (ds.length + ps.length) cap') (ds ++ ps).length (flatD (ds ++ ps))) → Hid (w.grownBy w1 v.ownBlock) →
      wpList Tryd.prog ops Q rest (a.put o.dst (.slice ao' (ds.length + ps.length) cap')) w1) :
    wpList Tryd.prog ops Q (o :: rest) a w := by
  obtain ⟨ao', cap', w1, hrun, h2, h3⟩ := appendD w base v ds ps ao n c h hr hl hb
  refine wpList_plain hgd fun K hK' => ?_
  unfold Oper.wp execOp
  simp only [ho, hty, resolve, invoke, builtin, Sem.run_bind, Sem.run_pure, Result.andThen_ok, List.map_toArray, List.map_cons, List.map_nil, hs, hx, hrun]
  exact hK' _ _ (hK ao' cap' w1 h2 h3)

end Go.Proofs.YtjafmnemobcipaaDoor
/-
  hcheck: steps as they lie, and what its functions answer.
-/
namespace Go.Proofs.YtjafmnemobcipaaDoor
open Go.RowKit Go.BigFrame
set_option linter.unusedVariables false
set_option linter.unusedSimpArgs false

def RdS (w : World) (v : Value) (ss : List (Nat × List (List Nat))) : Prop :=
  ∃ (ao : Option Addr) (len cap : Nat) (vs : List Value), v = .slice ao len cap ∧ ss.length = len ∧ len ≤ cap ∧ cap ≤ 9223372036854775807 ∧ (∀ i, i < len → (ss.getD i (0, [])).1 < 65536 ∧ RdD w (vs.getD i undef) (ss.getD i (0, [])).2) ∧
    (0 < len → ∃ b off, ao = some ⟨b, off, none⟩ ∧ ∀ i, i < len → w.cell? ⟨b, off + i * 2, none⟩ = some (.int .u16 ((ss.getD i (0, [])).1 : Int)) ∧ w.cell? ⟨b, off + i * 2 + 1, none⟩ = some (vs.getD i undef))
theorem RdS.old {w w' : World} {v : Value} {ss : List (Nat × List (List Nat))} (h : RdS w v ss) (k : Kept [] w w') : RdS w' v ss := by
  obtain ⟨ao, len, cap, vs, h1, h2, h4, h5, h6, h7⟩ := h
  refine ⟨ao, len, cap, vs, h1, h2, h4, h5, fun i hi => ⟨(h6 i hi).1, (h6 i hi).2.old k⟩, fun hp => ?_⟩
  obtain ⟨b, off, e, hc⟩ := h7 hp
  exact ⟨b, off, e, fun i hi => ⟨k.cell (hc i hi).1 (by simp), k.cell (hc i hi).2 (by simp)⟩⟩
/-- The digest of a key. -/
def keyS (z : Int) (key : List Nat) : List Nat := sumD z (2 :: key)
/-- What formed answers. -/
def hfE (z : Int) (key : List Nat) (known : List (List Nat)) (ss : List (Nat × List (List Nat))) : Nat :=
  if widthB z = false then 1 else if 64 < key.length then 2 else if known.all (formB z) && ss.all (fun s => s.2.all (formB z)) then 0 else 3
/-- What fits answers. -/
def fitS (b n : Nat) (c : Int) (t : Bool) : Bool := decide (b ≠ 0) && ((hasB b c == t) && decide (cnt b 16 = n + (if t then 1 else 0)))
/-- What rising answers. -/
def risB (ps : List (List Nat × List Nat)) : Nat → Bool
  | 0 => true
  | i + 1 => risB ps i && (decide ((ps.getD i ([], [])).1.length ≤ 64) && (decide ((ps.getD i ([], [])).2.length ≤ 256) && (decide (i = 0) || decide (ordL (ps.getD (i - 1) ([], [])).1 (ps.getD i ([], [])).1 < 0))))
/-- What hang answers. -/
def hanB (z : Int) (ks : List Nat) (n : Nat) (ps : List (List Nat × List Nat)) : Bool :=
  (ps.drop 1).all (fun p => decide (keyS z p.1 = keyS z (ps.getD 0 ([], [])).1)) && decide (n ≤ comC z (keyS z (ps.getD 0 ([], [])).1) ks)
/-- Whether each of the first steps fits. -/
def fitsB (z : Int) (ks : List Nat) (ss : List (Nat × List (List Nat))) (m : Nat) : Nat → Bool
  | 0 => true
  | i + 1 => fitsB z ks ss m i && fitS (ss.getD i (0, [])).1 (ss.getD i (0, [])).2.length (atC z ks i) (decide (i + 1 < ss.length) || decide (0 < m))
/-- What proves answers. -/
def provB (z : Int) (ks : List Nat) (ss : List (Nat × List (List Nat))) (ps : List (List Nat × List Nat)) : Bool :=
  decide (ss.length ≤ 2 * z.toNat) && (fitsB z ks ss ps.length ss.length &&
    (decide (ps.length = 0) || ((decide (ss.length = 0) || decide (cnt (ss.getD (ss.length - 1) (0, [])).1 16 ≠ 1)) && (risB ps ps.length && hanB z ks ss.length ps))))
/-- The value of a key in pairs. -/
def valH (key : List Nat) : List (List Nat × List Nat) → Option (List Nat)
  | [] => none
  | p :: r => if p.1 = key then some p.2 else valH key r
def brD (z : Int) (x : Nat) (ds : List (List Nat)) : List Nat := sunD (branchE z x ds) z (branchB z x ds)
/-- What climb makes of the k lowest steps that are left. -/
def cliD (z : Int) (ks : List Nat) (ss : List (Nat × List (List Nat))) : Nat → List Nat → List Nat
  | 0, d => d
  | k + 1, d => cliD z ks ss k (brD z (ss.getD k (0, [])).1 ((ss.getD k (0, [])).2.take (rankB (ss.getD k (0, [])).1 (atC z ks k)) ++ d :: (ss.getD k (0, [])).2.drop (rankB (ss.getD k (0, [])).1 (atC z ks k))))
def footD (z : Int) (ss : List (Nat × List (List Nat))) (ps : List (List Nat × List Nat)) : List Nat :=
  if 0 < ps.length then sumD z (buckB ps) else if ss.length = 0 then sumD z [5] else brD z (ss.getD (ss.length - 1) (0, [])).1 (ss.getD (ss.length - 1) (0, [])).2
def footN (ss : List (Nat × List (List Nat))) (ps : List (List Nat × List Nat)) : Nat := if 0 < ps.length then ss.length else ss.length - 1
def rooD (z : Int) (key : List Nat) (ss : List (Nat × List (List Nat))) (ps : List (List Nat × List Nat)) : List Nat := cliD z (keyS z key) ss (footN ss ps) (footD z ss ps)
theorem keyS_dg (z : Int) (key : List Nat) : Dg (keyS z key) := ⟨sumD_len _ _, by
  unfold keyS sumD
  split
  · exact cutL_byte _ _ (hash_byte _)
  · intro x hx; simp at hx; omega⟩
end Go.Proofs.YtjafmnemobcipaaDoor
namespace Go.Proofs.YtjafmnemobcipaaDoor
open Go.RowKit Go.BigFrame
set_option linter.unusedVariables false
set_option linter.unusedSimpArgs false

set_option maxRecDepth 100000 in
set_option maxHeartbeats 1000000 in
theorem grow_any (n : Nat) (w : World) (hn : n ≤ 1000000000000) :
    Calls Tryd.prog 67 #[.slice none 0 0, .int .i64 n] w fun e w' => ∃ v', e = .returned v' ∧ w'.ownsRow w.heap.size 29 32 v' 0 [] ∧ Kept [] w w' := by
  go_enter Tryd.func67, Tryd.ntmps67
  by_cases h0 : n = 0
  · subst h0
    go_wp2
    go_ret
    exact ⟨_, rfl, ⟨rfl, Or.inl ⟨rfl, rfl⟩⟩, Kept.refl _ _⟩
  · have h0' : (0 : Int) < n := by omega
    have hbt : Tryd.t29.bytes = 32 := rfl
    have hns : ¬ 281474976710656 < Builtin.nextslicecap n 0 * Tryd.t29.bytes := by
      rw [hbt]; unfold Builtin.nextslicecap; rw [if_pos (by omega)]; omega
    have hmul : (n : Int) * ((Tryd.t29.bytes : Nat) : Int) ≤ 281474976710656 := by rw [hbt]; omega
    have hm0 : ¬ n * 32 = 0 := by omega
    clear hbt
    go_wp2_with fail
    have hg1 := grownCap_ge w n 0 29
    have hg2 := grownCap_le_maxLen w n 0 29 (by unfold maxLen; omega)
    unfold grownCap at hg1 hg2
    generalize (Question.appendCap n 0 29).cut (w.tape w.drawn (Question.appendCap n 0 29)) = cap at hg1 hg2 ⊢
    go_ret
    refine ⟨_, rfl, World.ownsRow_made w _ cap (Nat.le_refl _) hg2 ?_, ((Kept.refl [] w).alloc _).drew⟩
    rw [Array.size_append, size_zeroCells, size_zeroCells]
    simp
    omega

/-- Lists of digests as they lie. -/
def RdM (w : World) (v : Value) (L : List (List (List Nat))) : Prop :=
  ∃ (ao : Option Addr) (len cap : Nat) (vs : List Value), v = .slice ao len cap ∧ L.length = len ∧ len ≤ cap ∧ cap ≤ 9223372036854775807 ∧ (∀ i, i < len → RdD w (vs.getD i undef) (L.getD i [])) ∧
    (0 < len → ∃ b off, ao = some ⟨b, off, none⟩ ∧ ∀ i, i < len → w.cell? ⟨b, off + i, none⟩ = some (vs.getD i undef))
theorem RdM.cells {w : World} {ao : Option Addr} {len cap : Nat} {L : List (List (List Nat))} (h : RdM w (.slice ao len cap) L) : L.length = len ∧ len ≤ cap ∧ cap ≤ 9223372036854775807 ∧
    ∀ i, i < len → ∃ b off u, ao = some ⟨b, off, none⟩ ∧ w.cell? ⟨b, off + i, none⟩ = some u ∧ RdD w u (L.getD i []) := by
  obtain ⟨ao', len', cap', vs, he, h1, h2, h3, h4, h5⟩ := h
  cases he
  refine ⟨h1, h2, h3, fun i hi => ?_⟩
  obtain ⟨b, off, rfl, hc⟩ := h5 (by omega)
  exact ⟨b, off, _, rfl, hc i hi, h4 i hi⟩
theorem flat_take (L : List (List (List Nat))) (i : Nat) (h : i < L.length) : (L.take (i + 1)).flatten = (L.take i).flatten ++ L.getD i [] := by
  rw [List.take_succ_eq_append_getElem h, List.flatten_append, List.getD_eq_getElem?_getD, List.getElem?_eq_getElem h]
  simp
theorem flatM_le (L : List (List (List Nat))) (i : Nat) : (L.take i).flatten.length ≤ L.flatten.length := by
  have h := congrArg List.length (congrArg List.flatten (List.take_append_drop i L))
  rw [List.flatten_append, List.length_append] at h
  omega
theorem flat_dg {L : List (List (List Nat))} (h : ∀ l ∈ L, ∀ d ∈ l, Dg d) : ∀ d ∈ L.flatten, Dg d := by
  intro d hd
  obtain ⟨l, hl, hdl⟩ := List.mem_flatten.1 hd
  exact h l hl d hdl

set_option maxRecDepth 100000 in
set_option maxHeartbeats 1000000 in
theorem concat_any (v : Value) (L : List (List (List Nat))) (w : World) (h : RdM w v L) (hl : L.flatten.length ≤ 1000000000000) :
    Calls Tryd.prog 39 #[v] w fun e w' => ∃ v', e = .returned v' ∧ RdD w' v' L.flatten ∧ Kept [] w w' := by
  obtain ⟨ao, n, c, _, rfl, _⟩ := id h
  obtain ⟨h1, h2, h3, h4⟩ := h.cells
  have HDG := hide (by
    intro l hl' d hd
    obtain ⟨j, hj, rfl⟩ := List.getElem_of_mem hl'
    obtain ⟨_, _, u, _, _, r⟩ := h4 j (by omega)
    rw [List.getD_eq_getElem?_getD, List.getElem?_eq_getElem hj] at r
    exact r.dg hd : ∀ l ∈ L, ∀ d ∈ l, Dg d)
  have H4 := hide h4
  clear h4 h
  subst h1
  go_enter Tryd.func39, Tryd.ntmps39
  go_wp2_with fail
  go_loopw [3, 11] (fun t3 t11 wr => ∃ (i : Nat), i ≤ L.length ∧ t11 = .int .i64 i ∧ t3 = .int .i64 (((L.take i).flatten.length : Nat) : Int) ∧ Hid (wr = w)) (fun _ t _ => L.length - (intOf t).toNat)
  case atStart => exact ⟨0, Nat.zero_le _, rfl, rfl, hide rfl⟩
  case round =>
    obtain ⟨i, hi, rfl, rfl, HWR⟩ := hrel
    by_cases hlt : i < L.length
    · have hlt' : (i : Int) < L.length := by omega
      obtain ⟨b, o, u, rfl, c1, r1⟩ := unhide H4 i hlt
      have q1 : wr.cell? ⟨b, o + i, none⟩ = some u := by rw [unhide HWR]; exact c1
      have HFT := hide (flat_take L i hlt)
      have HLE := hide (flatM_le L (i + 1))
      rw [unhide HFT] at HLE
      clear c1
      generalize L.getD i [] = li at r1 HFT HLE
      obtain ⟨a8, m8, c8, rfl, hm8, _⟩ := id r1
      subst hm8
      clear r1
      obtain ⟨S, hS⟩ : ∃ S, (L.take i).flatten.length = S := ⟨_, rfl⟩
      have HNX := hide (by rw [unhide HFT, List.length_append, hS] : (L.take (i + 1)).flatten.length = S + li.length)
      have hsb : S + li.length ≤ 1000000000000 := by have h9 := unhide HLE; rw [List.length_append, hS] at h9; omega
      rw [hS]
      clear hS HLE HFT
      have hs0 : ¬ ((S : Int) + li.length) < 0 := by omega
      go_wp2
      refine ⟨⟨i + 1, hlt, by go_num, by rw [unhide HNX]; go_num, HWR⟩, ?_⟩
      simp [intOf]; omega
    · have hi' : i = L.length := by omega
      have hlt' : ¬ (i : Int) < L.length := by omega
      have HTL := hide (by rw [hi', List.take_length] : (L.take i).flatten.length = L.flatten.length)
      obtain ⟨M, hM⟩ : ∃ M, L.flatten.length = M := ⟨_, rfl⟩
      rw [unhide HTL, hM]
      have hl2 : M ≤ 1000000000000 := by rw [← hM]; exact hl
      have HL := hide hl
      clear hi' HTL hM hl
      go_wp2_with fail
      rw [unhide HWR]
      refine Calls.mono (grow_any M _ hl2) ?_
      rintro e w1 ⟨v1, rfl, ho, k1⟩
      have HO1 := hide ho
      have HK1 := hide k1
      clear ho k1
      go_wp2_with fail
      go_loopw [6, 27] (fun t6 t27 wz => ∃ (j : Nat), j ≤ L.length ∧ t27 = .int .i64 j ∧ Hid (wz.ownsRow w.heap.size 29 32 t6 (L.take j).flatten.length (flatD (L.take j).flatten)) ∧ Hid (Kept [] w wz)) (fun _ t _ => L.length - (intOf t).toNat)
      case atStart => exact ⟨0, Nat.zero_le _, rfl, by simpa [flatD] using HO1, HK1⟩
      case round =>
        obtain ⟨j, hj, rfl, HO, HK⟩ := hrel
        by_cases hjt : j < L.length
        · have hjt' : (j : Int) < L.length := by omega
          obtain ⟨b, o, u, rfl, c1, r1⟩ := unhide H4 j hjt
          have q1 := (unhide HK).cell c1 (by simp)
          have HR := hide (r1.old (unhide HK))
          have HFT := hide (flat_take L j hjt)
          have HLE := hide (flatM_le L (j + 1))
          rw [unhide HFT] at HLE
          clear c1 r1
          generalize L.getD j [] = li at HR HFT HLE
          obtain ⟨a8, m8, c8, rfl, hm8, _⟩ := id (unhide HR)
          subst hm8
          obtain ⟨D, hD⟩ : ∃ D, (L.take j).flatten = D := ⟨_, rfl⟩
          rw [hD] at HO HFT HLE
          clear hD
          have hsb : D.length + li.length ≤ 1000000000000 := by have h9 := unhide HLE; have h8 := unhide HL; rw [List.length_append] at h9; omega
          have hbz := (unhide HK).size
          obtain ⟨a6, c6, rfl⟩ := owns_form (unhide HO)
          go_wp2_with (at_builtin; refine wpList_appendD rfl (.tmp 31) (.tmp 32) rfl rfl _ w.heap.size (.slice a6 D.length c6) D li a8 li.length c8 (unhide HO) (unhide HR) hsb hbz rfl rfl ?_; intro ao1 cap1 w2 HO2 HG2; have HK2 := hide ((unhide HK).grown (unhide HG2) (by intro k hk; right; exact ((unhide HO).lt k hk).1)); clear HG2)
          refine ⟨⟨j + 1, hjt, by go_num, by rw [unhide HFT]; exact by simpa using HO2, HK2⟩, ?_⟩
          simp [intOf]; omega
        · have hj' : j = L.length := by omega
          have hjt' : ¬ (j : Int) < L.length := by omega
          have HO2 := hide (by have h9 := unhide HO; rw [hj', List.take_length] at h9; exact h9)
          clear hj' HO
          go_wp2
          go_ret
          exact ⟨_, rfl, rdd_owns (unhide HO2) (flat_dg (unhide HDG)), unhide HK⟩
end Go.Proofs.YtjafmnemobcipaaDoor
namespace Go.Proofs.YtjafmnemobcipaaDoor
open Go.RowKit Go.BigFrame
set_option linter.unusedVariables false
set_option linter.unusedSimpArgs false

set_option maxRecDepth 100000 in
set_option maxHeartbeats 1000000 in
theorem unlike_any (z : Int) (g : Nat) (d : List Nat) (w : World) (hz : -9223372036854775808 ≤ z ∧ z ≤ 9223372036854775807) (hd : Dg d) (hg : w.heap[g]? = some (.cells #[.int .i64 z] 3 (0, 0))) :
    Calls Tryd.prog 27 #[.agg (brow d), .pointer (some ⟨g, 0, none⟩)] w fun e w' => e = .returned (.bool (!formB z d)) ∧ Kept [] w w' := by
  have hdl := hd.1
  have HSZ := hide (Tryd.szD hdl)
  have HK0 := hide ((Kept.refl [] w).alloc (.cells (brow d) 29))
  have HGA := hide (heap_alloc_new w (.cells (brow d) 29))
  have c0 : (w.alloc (.cells (brow d) 29)).cell? ⟨g, 0, none⟩ = some (.int .i64 z) := cell_of_row _ g 0 _ _ _ ((unhide HK0).heap hg (by simp))
  go_enter Tryd.func27, Tryd.ntmps27
  go_wp2_with (refine wpList_load_row rfl 29 _ rfl w.heap.size rfl _ (brow d) (0, 0) _ (unhide HGA) Tryd.underlying29 rfl (unhide HSZ) ?_)
  refine Calls.mono (form_any z d _ hz hdl hd.2) ?_
  rintro e w1 ⟨rfl, k1⟩
  have HK1 := hide ((unhide HK0).trans k1 (by simp))
  clear k1 c0
  cases hF : formB z d with
  | true => go_wp2; go_ret; exact ⟨by rw [hF]; rfl, unhide HK1⟩
  | false => go_wp2; go_ret; exact ⟨by rw [hF]; rfl, unhide HK1⟩

set_option maxRecDepth 100000 in
set_option maxHeartbeats 1000000 in
theorem indexFunc_any (z : Int) (g : Nat) (v : Value) (ds : List (List Nat)) (w : World) (hz : -9223372036854775808 ≤ z ∧ z ≤ 9223372036854775807) (hv : RdD w v ds) (hg : w.heap[g]? = some (.cells #[.int .i64 z] 3 (0, 0))) :
    Calls Tryd.prog 60 #[v, .func (.func 27) #[] #[.pointer (some ⟨g, 0, none⟩)]] w fun e w' => (∃ r : Int, e = .returned (.int .i64 r) ∧ -1 ≤ r ∧ r ≤ 9223372036854775807 ∧ (0 ≤ r ↔ ds.all (formB z) = false)) ∧ Kept [] w w' := by
  obtain ⟨ao, len, cap, rfl, h1, h2, h3, h4, h5⟩ := hv
  have H4 := hide h4
  have H5 := hide h5
  clear h4 h5
  subst h1
  go_enter Tryd.func60, Tryd.ntmps60
  go_wp2_with fail
  go_loopw [8] (fun t8 wr => ∃ (i : Nat), i ≤ ds.length ∧ t8 = .int .i64 i ∧ Hid ((ds.take i).all (formB z) = true) ∧ Hid (Kept [] w wr)) (fun t _ => ds.length - (intOf t).toNat)
  case atStart => exact ⟨0, Nat.zero_le _, rfl, hide (by simp), hide (Kept.refl _ _)⟩
  case round =>
    obtain ⟨i, hi, rfl, HA, HK⟩ := hrel
    by_cases hlt : i < ds.length
    · have hlt' : (i : Int) < ds.length := by omega
      obtain ⟨b, o, rfl, hcell⟩ := unhide H5 (by omega)
      have HD := hide (unhide H4 (ds.getD i []) (by rw [List.getD_eq_getElem?_getD, List.getElem?_eq_getElem hlt]; exact List.getElem_mem hlt))
      have HRG := hide (fun j v hv => (unhide HK).cell (hcell i hlt j v hv) (by simp) : wr.rangeAt b (o + i * 32) ((ds.getD i []).map u8))
      have HN := hide (by rw [List.take_succ_eq_append_getElem hlt, List.all_append, unhide HA, List.getD_eq_getElem?_getD, List.getElem?_eq_getElem hlt]; simp : (ds.take (i + 1)).all (formB z) = formB z (ds.getD i []))
      have HM := hide (fun (h : formB z (ds.getD i []) = false) => by
        rw [List.all_eq_false]
        exact ⟨ds.getD i [], by rw [List.getD_eq_getElem?_getD, List.getElem?_eq_getElem hlt]; exact List.getElem_mem hlt, by rw [h]; decide⟩ : formB z (ds.getD i []) = false → ds.all (formB z) = false)
      clear hcell
      obtain ⟨d, hd⟩ : ∃ d, ds.getD i [] = d := ⟨_, rfl⟩
      rw [hd] at HD HRG HN HM
      clear hd
      have hdl := (unhide HD).1
      have HSZ := hide (by rw [List.length_map, hdl]; exact Tryd.size_dig : (Tryd.prog.info? 29).map (·.size) = some (d.map u8).length)
      go_wp2_with (refine wpList_load_mid rfl 29 _ rfl b (o + i * 32) rfl (d.map u8) _ (unhide HRG) Tryd.underlying29 rfl (unhide HSZ) ?_)
      refine Calls.mono (unlike_any z g d _ hz (unhide HD) ((unhide HK).heap hg (by simp))) ?_
      rintro e w1 ⟨rfl, k1⟩
      have HK1 := hide ((unhide HK).trans k1 (by simp))
      clear k1
      generalize formB z d = F at HN HM ⊢
      cases F with
      | true =>
        go_wp2
        refine ⟨⟨i + 1, hlt, by go_num, HN, HK1⟩, ?_⟩
        simp [intOf]; omega
      | false =>
        go_wp2
        go_ret
        exact ⟨⟨i, rfl, by omega, by omega, ⟨fun _ => unhide HM (by simp), fun _ => by omega⟩⟩, unhide HK1⟩
    · have hi' : i = ds.length := by omega
      subst hi'
      have HA2 := hide (by have h9 := unhide HA; rw [List.take_length] at h9; exact h9 : ds.all (formB z) = true)
      go_wp2
      go_ret
      exact ⟨⟨-1, rfl, by omega, by omega, by rw [unhide HA2]; simp⟩, unhide HK⟩

set_option maxRecDepth 100000 in
set_option maxHeartbeats 1000000 in
theorem containsFunc_any (z : Int) (g : Nat) (v : Value) (ds : List (List Nat)) (w : World) (hz : -9223372036854775808 ≤ z ∧ z ≤ 9223372036854775807) (hv : RdD w v ds) (hg : w.heap[g]? = some (.cells #[.int .i64 z] 3 (0, 0))) :
    Calls Tryd.prog 29 #[v, .func (.func 27) #[] #[.pointer (some ⟨g, 0, none⟩)]] w fun e w' => e = .returned (.bool (!ds.all (formB z))) ∧ Kept [] w w' := by
  go_enter Tryd.func29, Tryd.ntmps29
  go_wp2_with fail
  refine Calls.mono (indexFunc_any z g v ds _ hz hv hg) ?_
  rintro e w1 ⟨⟨r, rfl, h1, h2, h3⟩, k1⟩
  have HK1 := hide k1
  clear k1
  cases hA : ds.all (formB z) with
  | true =>
    have hr : ¬ (0 : Int) ≤ r := by rw [h3, hA]; simp
    have hr' : r < 0 := by omega
    have HA := hide hA
    clear h3 hA
    go_wp2; go_ret; exact ⟨by rw [unhide HA]; simp [hr], unhide HK1⟩
  | false =>
    have hr : (0 : Int) ≤ r := h3.2 hA
    have HA := hide hA
    clear h3 hA
    go_wp2; go_ret; exact ⟨by rw [unhide HA]; simp [hr], unhide HK1⟩

set_option maxRecDepth 100000 in
set_option maxHeartbeats 1000000 in
theorem hformed_any (z : Int) (kv : Value) (key : List Nat) (sv : Value) (ss : List (Nat × List (List Nat))) (nv : Value) (known : List (List Nat)) (w : World) (hz : -9223372036854775808 ≤ z ∧ z ≤ 9223372036854775807) (hk : Rd w kv key) (hs : RdS w sv ss) (hn : RdD w nv known) :
    Calls Tryd.prog 14 #[.int .i64 z, kv, sv, nv] w fun e w' => e = .returned (.int .i64 (hfE z key known ss : Int)) ∧ Kept [] w w' := by
  obtain ⟨ao, len, cap, rfl, h1, h2, h3, h4⟩ := hk
  obtain ⟨sa, ls, sc, vs, rfl, s1, s2, s3, s4, s5⟩ := hs
  have HN := hide hn
  have S4 := hide s4
  have S5 := hide s5
  have HK0 := hide ((Kept.refl [] w).alloc (.cells #[.int .i64 z] 3))
  have HG0 := hide (heap_alloc_new w (.cells #[.int .i64 z] 3))
  clear h4 s4 s5 hn
  subst h1
  subst s1
  go_enter Tryd.func14, Tryd.ntmps14
  by_cases hz1 : z < 1
  · have HF := hide (by unfold hfE; rw [if_pos (by unfold widthB; simp; omega)] : hfE z key known ss = 1)
    go_wp2
    go_ret
    exact ⟨by rw [unhide HF]; rfl, unhide HK0⟩
  · by_cases hz2 : 32 < z
    · have HF := hide (by unfold hfE; rw [if_pos (by unfold widthB; simp; omega)] : hfE z key known ss = 1)
      go_wp2
      go_ret
      exact ⟨by rw [unhide HF]; rfl, unhide HK0⟩
    · have hzw : ¬ widthB z = false := by unfold widthB; simp; omega
      by_cases hk : 64 < key.length
      · have hk' : (64 : Int) < key.length := by omega
        have HF := hide (by unfold hfE; rw [if_neg hzw, if_pos hk] : hfE z key known ss = 2)
        go_wp2
        go_ret
        exact ⟨by rw [unhide HF]; rfl, unhide HK0⟩
      · have hk' : ¬ (64 : Int) < key.length := by omega
        have HF := hide (by unfold hfE; rw [if_neg hzw, if_neg hk] : hfE z key known ss = if known.all (formB z) && ss.all (fun s => s.2.all (formB z)) then 0 else 3)
        clear hzw
        go_wp2_with fail
        refine Calls.mono (containsFunc_any z w.heap.size nv known _ hz ((unhide HN).old (unhide HK0)) (unhide HG0)) ?_
        rintro e w1 ⟨rfl, k1⟩
        have HK1 := hide ((unhide HK0).trans k1 (by simp))
        have HG1 := hide (k1.heap (unhide HG0) (by simp))
        clear k1
        cases hA : known.all (formB z) with
        | false =>
          have HF2 := hide (by rw [unhide HF, hA]; rfl : hfE z key known ss = 3)
          clear hA HF
          go_wp2
          go_ret
          exact ⟨by rw [unhide HF2]; rfl, unhide HK1⟩
        | true =>
          have HF2 := hide (by rw [unhide HF, hA, Bool.true_and] : hfE z key known ss = if ss.all (fun s => s.2.all (formB z)) then 0 else 3)
          clear hA HF
          go_wp2_with fail
          go_loopw [27] (fun t27 wr => ∃ (i : Nat), i ≤ ss.length ∧ t27 = .int .i64 i ∧ Hid ((ss.take i).all (fun s => s.2.all (formB z)) = true) ∧ Hid (Kept [] w wr) ∧ Hid (wr.heap[w.heap.size]? = some (.cells #[.int .i64 z] 3 (0, 0)))) (fun t _ => ss.length - (intOf t).toNat)
          case atStart => exact ⟨0, Nat.zero_le _, rfl, hide (by simp), HK1, HG1⟩
          case round =>
            obtain ⟨i, hi, rfl, HA, HK, HG⟩ := hrel
            by_cases hlt : i < ss.length
            · have hlt' : (i : Int) < ss.length := by omega
              obtain ⟨b, o, rfl, hcell⟩ := unhide S5 (by omega)
              have q1 := (unhide HK).cell (hcell i hlt).1 (by simp)
              have q2 := (unhide HK).cell (hcell i hlt).2 (by simp)
              have HD := hide (unhide S4 i hlt)
              have HN := hide (by rw [List.take_succ_eq_append_getElem hlt, List.all_append, unhide HA, List.getD_eq_getElem?_getD, List.getElem?_eq_getElem hlt]; simp : (ss.take (i + 1)).all (fun s => s.2.all (formB z)) = (ss.getD i (0, [])).2.all (formB z))
              have HM := hide (fun (h : (ss.getD i (0, [])).2.all (formB z) = false) => by
                have h9 : ss.all (fun s => s.2.all (formB z)) = false := by
                  rw [List.all_eq_false]
                  exact ⟨ss.getD i (0, []), by rw [List.getD_eq_getElem?_getD, List.getElem?_eq_getElem hlt]; exact List.getElem_mem hlt, by rw [h]; decide⟩
                rw [unhide HF2, h9]; rfl : (ss.getD i (0, [])).2.all (formB z) = false → hfE z key known ss = 3)
              clear hcell
              generalize ss.getD i (0, []) = s at q1 HD HN HM
              generalize vs.getD i undef = vi at q2 HD
              obtain ⟨sb, sk⟩ := s
              simp only at q1 HD HN HM
              obtain ⟨a8, m8, c8, rfl, hm8, _⟩ := id (unhide HD).2
              subst hm8
              have HKa := hide ((unhide HK).alloc (.cells #[.int .u16 sb, .slice a8 sk.length c8] 43))
              have HGa := hide (((Kept.refl [] wr).alloc (.cells #[.int .u16 sb, .slice a8 sk.length c8] 43)).heap (unhide HG) (by simp))
              go_wp2_with fail
              refine Calls.mono (containsFunc_any z w.heap.size _ sk _ hz ((unhide HD).2.old (unhide HKa)) (unhide HGa)) ?_
              rintro e w2 ⟨rfl, k2⟩
              have HK2 := hide ((unhide HKa).trans k2 (by simp))
              have HG2 := hide (k2.heap (unhide HGa) (by simp))
              clear k2 q1 q2
              cases hA : sk.all (formB z) with
              | true =>
                rw [hA] at HN
                clear hA
                go_wp2
                refine ⟨⟨i + 1, hlt, by go_num, HN, HK2, HG2⟩, ?_⟩
                simp [intOf]; omega
              | false =>
                have HX := hide (unhide HM hA)
                clear hA
                go_wp2
                go_ret
                exact ⟨by rw [unhide HX]; rfl, unhide HK2⟩
            · have hi' : i = ss.length := by omega
              subst hi'
              have HA2 := hide (by have h9 := unhide HA; rw [List.take_length] at h9; exact h9 : ss.all (fun s => s.2.all (formB z)) = true)
              go_wp2
              go_ret
              exact ⟨by rw [unhide HF2, unhide HA2]; rfl, unhide HK⟩
end Go.Proofs.YtjafmnemobcipaaDoor

namespace Go.Proofs.YtjafmnemobcipaaDoor
open Go.RowKit
set_option linter.unusedVariables false
set_option linter.unusedSimpArgs false

/-- The string that bytes make. -/
def strOf (p : List Nat) : ByteArray := ⟨(p.map UInt8.ofNat).toArray⟩

theorem ba_loop (s : ByteArray) : ∀ n i r, s.size - i = n → ByteArray.toList.loop s i r = r.reverse ++ s.data.toList.drop i := by
  intro n
  induction n with
  | zero =>
    intro i r h
    rw [ByteArray.toList.loop]
    have h1 : s.size = s.data.toList.length := (Array.length_toList).symm
    rw [if_neg (by omega), List.drop_eq_nil_of_le (by omega), List.append_nil]
  | succ n ih =>
    intro i r h
    rw [ByteArray.toList.loop]
    have h1 : s.size = s.data.toList.length := (Array.length_toList).symm
    have h2 : i < s.data.toList.length := by omega
    rw [if_pos (by omega), ih (i + 1) _ (by omega), List.drop_eq_getElem_cons h2]
    have h3 : s.get! i = s.data.toList[i] := by
      have h4 : i < s.data.size := by simpa using h2
      rw [Array.getElem_toList]
      exact getElem!_pos s.data i h4
    simp [h3]
theorem ba_toList (s : ByteArray) : s.toList = s.data.toList := by
  unfold ByteArray.toList
  rw [ba_loop s _ 0 [] rfl]
  simp

theorem strOf_inj {p q : List Nat} (hp : ∀ x ∈ p, x < 256) (hq : ∀ x ∈ q, x < 256) (h : strOf p = strOf q) : p = q := by
  have h1 : p.map UInt8.ofNat = q.map UInt8.ofNat := by
    have := congrArg (fun b => b.data.toList) h
    simpa [strOf] using this
  have h2 := congrArg (List.map UInt8.toNat) h1
  simp only [List.map_map] at h2
  have e : ∀ l : List Nat, (∀ x ∈ l, x < 256) → l.map (UInt8.toNat ∘ UInt8.ofNat) = l := by
    intro l hl
    conv => rhs; rw [← List.map_id l]
    apply List.map_congr_left
    intro x hx
    have := hl x hx
    simp [UInt8.toNat_ofNat]; omega
  rw [e p hp, e q hq] at h2
  exact h2

theorem conv_any (v : Value) (p : List Nat) (w : World) (h : Rd w v p) (hu5 : Tryd.prog.underlying 5 = some (.int .u8)) (hu9 : Tryd.prog.underlying 9 = some .string) :
    (convert 22 9 v).run Tryd.prog w = .ok (.string (strOf p)) w := by
  obtain ⟨ao, len, cap, rfl, rfl, h2, h3, h4, h5, h6⟩ := h
  have hl : p.length = (p.map UInt8.ofNat).length := by simp
  cases ao with
  | none =>
    have hz := h4 rfl
    have hp0 : p = [] := List.eq_nil_of_length_eq_zero (by omega)
    subst hp0
    rw [run_convert_bytes_string w 22 9 5 none _ cap Tryd.underlying22 hu5 hu9]
    simp [Conv.bytesToString, strOf]
    rfl
  | some a =>
    rw [hl]
    refine run_convert_bytes_back w 22 9 5 a cap (p.map UInt8.ofNat) Tryd.underlying22 hu5 hu9 (fun j hj => ?_)
    simp at hj
    obtain ⟨b, off, he, hc⟩ := h6 (by omega)
    cases he
    have := hc j hj
    rw [Addr.add_mid, this]
    have hb := h5 (p[j]) (List.getElem_mem hj)
    simp [u8, List.getD_eq_getElem?_getD, List.getElem?_eq_getElem hj, UInt8.toNat_ofNat]
    omega

end Go.Proofs.YtjafmnemobcipaaDoor
namespace Go.Proofs.YtjafmnemobcipaaDoor
open Go.RowKit Go.BigFrame
set_option linter.unusedVariables false
set_option linter.unusedSimpArgs false

theorem RdK.cells {w : World} {ao : Option Addr} {len cap : Nat} {ps : List (List Nat × List Nat)} (h : RdK w (.slice ao len cap) ps) : ps.length = len ∧ len ≤ cap ∧ cap ≤ 9223372036854775807 ∧
    ∀ i, i < len → ∃ b off u v, ao = some ⟨b, off, none⟩ ∧ w.cell? ⟨b, off + i * 2, none⟩ = some u ∧ w.cell? ⟨b, off + i * 2 + 1, none⟩ = some v ∧ Rd w u (ps.getD i ([], [])).1 ∧ Rd w v (ps.getD i ([], [])).2 := by
  obtain ⟨ao', len', cap', vs, us, he, h1, h2, h3, h4, h5⟩ := h
  cases he
  refine ⟨h1, h2, h3, fun i hi => ?_⟩
  obtain ⟨b, off, rfl, hc⟩ := h5 (by omega)
  exact ⟨b, off, _, _, rfl, (hc i hi).1, (hc i hi).2, (h4 i hi).1, (h4 i hi).2⟩
theorem valH_skip {key : List Nat} : ∀ (ps : List (List Nat × List Nat)) (i : Nat), i ≤ ps.length → (∀ j, j < i → (ps.getD j ([], [])).1 ≠ key) → valH key ps = valH key (ps.drop i)
  | ps, 0, _, _ => by simp
  | [], i + 1, h, _ => by simp at h
  | p :: r, i + 1, h, hn => by
    have h0 := hn 0 (by omega)
    simp only [List.getD_cons_zero] at h0
    rw [valH, if_neg h0, List.drop_succ_cons]
    exact valH_skip r i (by simpa using h) (fun j hj => by have := hn (j + 1) (by omega); simpa using this)

set_option maxRecDepth 100000 in
set_option maxHeartbeats 2000000 in
theorem bequal_any (u v : Value) (p q : List Nat) (w : World) (hu : Rd w u p) (hv : Rd w v q) :
    Calls Tryd.prog 36 #[u, v] w fun e w' => e = .returned (.bool (decide (p = q))) ∧ w' = w := by
  have hu5 : Tryd.prog.underlying 5 = some (.int .u8) := by kernel_rfl
  have hu9 : Tryd.prog.underlying 9 = some .string := by kernel_rfl
  have c1 := conv_any u p w hu hu5 hu9
  have c2 := conv_any v q w hv hu5 hu9
  have hd : ((strOf p).toList == (strOf q).toList) = decide (p = q) := by
    rw [ba_toList, ba_toList]
    by_cases h : p = q
    · subst h; simp
    · have h2 : ¬ (strOf p).data.toList = (strOf q).data.toList := fun e => h (strOf_inj hu.byte hv.byte (by
        have e2 := congrArg List.toArray e
        simp only [Array.toArray_toList] at e2
        cases hp : strOf p; cases hq : strOf q
        rw [hp, hq] at e2
        simp only at e2
        rw [e2]))
      rw [decide_eq_false h]
      exact beq_eq_false_iff_ne.2 h2
  have Hd := hide hd
  generalize strOf p = s1 at *
  generalize strOf q = s2 at *
  clear hu hv hu5 hu9 hd
  go_enter Tryd.func36, Tryd.ntmps36
  go_wp2
  go_ret
  exact ⟨by rw [unhide Hd]; rfl, rfl⟩

set_option maxRecDepth 100000 in
set_option maxHeartbeats 1000000 in
theorem bclone_any (v : Value) (p : List Nat) (w : World) (h : Rd w v p) :
    Calls Tryd.prog 37 #[v] w fun e w' => (∃ v', e = .returned v' ∧ Rd w' v' p ∧ ∀ x ∈ blk v', w.heap.size ≤ x) ∧ Kept [] w w' := by
  have H := hide h
  obtain ⟨a1, n1, c1, rfl, hn1, hc1, ⟨hc2, hc3⟩, hc4, hc5, hc6⟩ := id h
  subst hn1
  clear h hc6 hc5
  cases a1 with
  | none =>
    have h0 : p.length = 0 := by have := hc4 rfl; omega
    have hp : p = [] := List.eq_nil_of_length_eq_zero h0
    clear hc4
    subst hp
    simp only [List.length_nil]
    have hq : ∀ W : World, (binOp .eql 22 (.slice none 0 c1) (.slice none 0 0)).run Tryd.prog W = .ok (.bool true) W := by
      intro W
      simp only [binOp]
      simp [run_equal_slice_nil W 22 5 none 0 c1 Tryd.underlying22]
    go_enter Tryd.func37, Tryd.ntmps37
    go_wp2
    go_ret
    exact ⟨⟨_, rfl, Rd.nil _, by simp [blk]⟩, Kept.refl _ _⟩
  | some ad =>
    clear hc4
    have HO := hide (World.ownsRow_made (base := w.heap.size) (e := 5) (size := 1) w #[] 0 (Nat.le_refl _) (by unfold maxLen; omega) (by simp))
    have hq : ∀ W : World, (binOp .eql 22 (.slice (some ad) p.length c1) (.slice none 0 0)).run Tryd.prog W = .ok (.bool false) W := by
      intro W
      simp only [binOp]
      simp [run_equal_slice_nil W 22 5 (some ad) p.length c1 Tryd.underlying22]
    go_enter Tryd.func37, Tryd.ntmps37
    go_wp2_with (at_builtin; refine wpList_appendAll rfl (.tmp 5) (.tmp 6) rfl rfl _ w.heap.size (.slice (some ⟨w.heap.size, 0, none⟩) 0 0) [] p (some ad) p.length c1 (unhide HO) ((unhide H).old ((Kept.refl [] w).alloc _) (by simp)) (by simp; omega) (by simp) rfl rfl ?_; intro ao1 cap1 w1 HO1 HG1 HA1; simp only [List.nil_append, List.length_nil, Nat.zero_add] at HO1 HA1; have HK1 := hide (((Kept.refl [] w).alloc _).grown (unhide HG1) (by intro k hk; right; simp [Value.ownBlock] at hk; omega)); clear HG1)
    go_ret
    refine ⟨⟨_, rfl, rd_owns (unhide HO1) (unhide H).byte hc3, ?_⟩, unhide HK1⟩
    intro x hx
    cases ao1 with
    | none => simp [blk] at hx
    | some a => simp [blk] at hx; subst hx; exact ((unhide HO1).lt a.block rfl).1

set_option maxRecDepth 100000 in
set_option maxHeartbeats 1000000 in
theorem valueOf_any (kv pv : Value) (key : List Nat) (ps : List (List Nat × List Nat)) (w : World) (hk : Rd w kv key) (hp : RdK w pv ps) :
    Calls Tryd.prog 17 #[kv, pv] w fun e w' => (∃ v', e = .returned (.tuple #[v', .bool (valH key ps).isSome]) ∧ Rd w' v' ((valH key ps).getD []) ∧ ∀ x ∈ blk v', w.heap.size ≤ x) ∧ Kept [] w w' := by
  have HKY := hide hk
  obtain ⟨ao, n, c, _, _, rfl, _⟩ := id hp
  obtain ⟨h1, h2, h3, h4⟩ := hp.cells
  have H4 := hide h4
  clear h4 hp hk
  subst h1
  go_enter Tryd.func17, Tryd.ntmps17
  go_wp2_with fail
  go_loopw [10] (fun t10 wr => ∃ (i : Nat), i ≤ ps.length ∧ t10 = .int .i64 i ∧ Hid (∀ j, j < i → (ps.getD j ([], [])).1 ≠ key) ∧ Hid (Kept [] w wr)) (fun t _ => ps.length - (intOf t).toNat)
  case atStart => exact ⟨0, Nat.zero_le _, rfl, hide (by intro j hj; omega), hide (Kept.refl _ _)⟩
  case round =>
    obtain ⟨i, hi, rfl, HA, HK⟩ := hrel
    by_cases hlt : i < ps.length
    · have hlt' : (i : Int) < ps.length := by omega
      obtain ⟨b, o, x, y, rfl, c1, c2, r1, r2⟩ := unhide H4 i hlt
      have q1 := (unhide HK).cell c1 (by simp)
      have q2 := (unhide HK).cell c2 (by simp)
      have HX := hide (r1.old (unhide HK) (by simp))
      have HY := hide (r2.old (unhide HK) (by simp))
      have HS := hide (valH_skip (key := key) ps i hi (unhide HA))
      rw [List.drop_eq_getElem_cons hlt] at HS
      have hget : ps.getD i ([], []) = ps[i] := by rw [List.getD_eq_getElem?_getD, List.getElem?_eq_getElem hlt]; rfl
      have HI := hide hget
      rw [hget] at HX HY
      clear c1 c2 r1 r2 hget
      generalize hpi : ps[i] = pi at HX HY HS HI
      clear hpi
      obtain ⟨pk, pw⟩ := pi
      simp only at HX HY
      obtain ⟨a8, m8, c8, rfl, hm8, _⟩ := id (unhide HX)
      obtain ⟨a9, m9, c9, rfl, hm9, _⟩ := id (unhide HY)
      subst hm8
      subst hm9
      have HKa := hide ((Kept.refl [] wr).alloc (.cells #[.slice a8 pk.length c8, .slice a9 pw.length c9] 64))
      have HCW := hide (heap_alloc_new wr (.cells #[.slice a8 pk.length c8, .slice a9 pw.length c9] 64))
      go_wp2_with fail
      refine Calls.mono (bequal_any _ _ pk key _ ((unhide HX).old (unhide HKa) (by simp)) ((unhide HKY).old ((unhide HK).trans (unhide HKa) (by simp)) (by simp))) ?_
      rintro e w1 ⟨rfl, rfl⟩
      have c0 := cell_of_row _ wr.heap.size 1 _ _ _ (unhide HCW)
      by_cases hE : pk = key
      · rw [decide_eq_true hE]
        have HV := hide (by rw [unhide HS, valH, if_pos hE] : valH key ps = some pw)
        clear hE q1 q2
        go_wp2_with fail
        refine Calls.mono (bclone_any _ pw _ ((unhide HY).old (unhide HKa) (by simp))) ?_
        rintro e w2 ⟨⟨v', rfl, hv', hb'⟩, k2⟩
        have HB2 := hide (fun x hx => Nat.le_trans ((unhide HK).trans (unhide HKa) (by simp)).size (hb' x hx) : ∀ x ∈ blk v', w.heap.size ≤ x)
        clear hb'
        have HK2 := hide (((unhide HK).trans (unhide HKa) (by simp)).trans k2 (by simp))
        have HV2 := hide hv'
        clear k2 hv' c0
        go_wp2
        go_ret2
        exact ⟨⟨_, by rw [unhide HV]; rfl, by rw [unhide HV]; exact unhide HV2, unhide HB2⟩, unhide HK2⟩
      · rw [decide_eq_false hE]
        have HA2 := hide (fun j (hj : j < i + 1) => by
          rcases Nat.lt_or_ge j i with h9 | h9
          · exact unhide HA j h9
          · obtain rfl : j = i := by omega
            rw [unhide HI]; exact hE : ∀ j, j < i + 1 → (ps.getD j ([], [])).1 ≠ key)
        clear hE q1 q2 c0
        go_wp2
        refine ⟨⟨i + 1, hlt, by go_num, HA2, hide ((unhide HK).trans (unhide HKa) (by simp))⟩, ?_⟩
        simp [intOf]; omega
    · have hi' : i = ps.length := by omega
      subst hi'
      have HV := hide (by rw [valH_skip (key := key) ps ps.length (Nat.le_refl _) (unhide HA), List.drop_length]; rfl : valH key ps = none)
      go_wp2
      go_ret2
      exact ⟨⟨_, by rw [unhide HV]; rfl, by rw [unhide HV]; exact Rd.nil _, by simp [blk]⟩, unhide HK⟩
end Go.Proofs.YtjafmnemobcipaaDoor
