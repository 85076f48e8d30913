import Derived.WalkKit
import Derived.WalkSpells
import Derived.Deep.AppendLies
import Derived.Laws.CopyOwn
import Derived.Deep.Draws
import Derived.Deep.OwnRows
import Derived.Deep.LoopGhost
import Derived.Deep.QuietTactic
import Derived.BigQuiet
import Derived.Deep.RegionHeld3
import Derived.Deep.DeepMust
import Derived.WalkLawsBesides
import Derived.Deep.DrawnRows
import Derived.Laws.BitsAllLaws
import Derived.Test.YtgnbigijpneebaaDoorRows
import Derived.Deep.RegionLaw
import Derived.Laws.ShiftsVarLaws
/-
  What is kept: a world but for a list of blocks; bytes of a row; small facts on lists. No program is named here.
-/
namespace Go.Proofs.YtgnbigijpneebaaDoor
open Go.RowKit

theorem hide {p : Prop} (h : p) : Hid p := h
theorem unhide {p : Prop} (h : Hid p) : p := h

/-- w' is w with new blocks, and with writes to the blocks of L alone. -/
structure Kept (L : List Nat) (w w' : World) : Prop where
  os : w'.os = w.os
  tape : w'.tape = w.tape
  output : w'.output = w.output
  size : w.heap.size ≤ w'.heap.size
  block : ∀ k, k < w.heap.size → k ∉ L → w'.heap[k]? = w.heap[k]?

theorem Kept.refl (L : List Nat) (w : World) : Kept L w w := ⟨rfl, rfl, rfl, Nat.le_refl _, fun _ _ _ => rfl⟩

theorem Kept.trans {L M : List Nat} {a b c : World} (h : Kept L a b) (k : Kept M b c) (hM : ∀ x ∈ M, x ∈ L ∨ a.heap.size ≤ x) : Kept L a c :=
  ⟨k.os.trans h.os, k.tape.trans h.tape, k.output.trans h.output, Nat.le_trans h.size k.size, fun i hi hn =>
    (k.block i (Nat.lt_of_lt_of_le hi h.size) (fun hm => by rcases hM i hm with h1 | h1; exact hn h1; omega)).trans (h.block i hi hn)⟩

theorem Kept.mono {L M : List Nat} {a b : World} (h : Kept L a b) (hM : ∀ x ∈ L, x ∈ M) : Kept M a b :=
  ⟨h.os, h.tape, h.output, h.size, fun i hi hn => h.block i hi (fun x => hn (hM i x))⟩

theorem Kept.drew {L : List Nat} {a w : World} (h : Kept L a w) : Kept L a w.drew := ⟨h.os, h.tape, h.output, h.size, h.block⟩
theorem Kept.drewN {L : List Nat} {a w : World} (h : Kept L a w) (n : Nat) : Kept L a (w.drewN n) := ⟨h.os, h.tape, h.output, h.size, h.block⟩

theorem Kept.alloc {L : List Nat} {a w : World} (h : Kept L a w) (o : Obj) : Kept L a (w.alloc o) :=
  h.trans (M := []) ⟨rfl, rfl, rfl, by simp, fun k hk _ => Below.heap_alloc _ _ _ hk⟩ (by simp)

theorem Kept.setCell {L : List Nat} {a w : World} (h : Kept L a w) {p : Addr} (hp : p.block ∈ L ∨ a.heap.size ≤ p.block) (u : Value) : Kept L a (w.setCell p u) :=
  h.trans (M := [p.block]) ⟨rfl, rfl, rfl, by simp [World.setCell], fun k _ hn => Below.heap_setCell _ _ _ _ (by simpa using hn)⟩ (by simpa using hp)

theorem Kept.grown {L : List Nat} {a w w' : World} {row : Option Nat} (h : Kept L a w) (hg : w.grownBy w' row) (hr : ∀ k, row = some k → k ∈ L ∨ a.heap.size ≤ k) : Kept L a w' :=
  h.trans (M := row.toList) ⟨hg.os, hg.tape, hg.output, hg.size, fun k hk hn => hg.block k hk (fun e => hn (by simp [← e]))⟩ (by
    intro x hx; exact hr x (by simpa using hx))

theorem Kept.ofBelow {B : Nat} {w w' : World} (h : Below B w w') (hB : w.heap.size ≤ B) : Kept [] w w' :=
  ⟨h.os, h.tape, h.output, h.size, fun k hk _ => h.block k (Nat.lt_of_lt_of_le hk hB)⟩

theorem Kept.below {L : List Nat} {B : Nat} {w w' : World} (h : Kept L w w') (hB : B ≤ w.heap.size) (hL : ∀ k ∈ L, B ≤ k) : Below B w w' :=
  ⟨h.os, h.tape, h.output, h.size, fun k hk => h.block k (Nat.lt_of_lt_of_le hk hB) (fun hm => by have := hL k hm; omega)⟩

theorem Kept.cell {L : List Nat} {w w' : World} (h : Kept L w w') {a : Addr} {v : Value} (hc : w.cell? a = some v) (hn : a.block ∉ L) : w'.cell? a = some v :=
  (World.cell?_of_block (h.block a.block (block_lt_of_cell hc) hn)).trans hc

theorem Kept.heap {L : List Nat} {w w' : World} (h : Kept L w w') {b : Nat} {o : Obj} (hc : w.heap[b]? = some o) (hn : b ∉ L) : w'.heap[b]? = some o :=
  (h.block b (lt_of_block hc) hn).trans hc

theorem Kept.owns {L : List Nat} {w w' : World} (h : Kept L w w') {base : Nat} {e : TypeId} {size : Nat} {v : Value} {n : Nat} {xs : List Value} (ho : w.ownsRow base e size v n xs)
    (hn : ∀ k, v.ownBlock = some k → k ∉ L) : w'.ownsRow base e size v n xs := by
  obtain ⟨h1, h2⟩ := ho
  refine ⟨h1, ?_⟩
  rcases h2 with h2 | ⟨g, cap, cur, hv, hg, hh, r⟩
  · exact Or.inl h2
  · exact Or.inr ⟨g, cap, cur, hv, hg, h.heap hh (hn g (by rw [hv]; rfl)), r⟩

/-- A byte as a value. -/
abbrev u8 (n : Nat) : Value := .int .u8 (n : Int)

/-- The slice value v reads as the bytes bs. -/
def Rd (w : World) (v : Value) (bs : List Nat) : Prop :=
  ∃ (ao : Option Addr) (len cap : Nat), v = .slice ao len cap ∧ bs.length = len ∧ len ≤ cap ∧ (cap ≤ 9223372036854775807 ∧ len ≤ 140737488355328) ∧ (ao = none → cap = 0) ∧
    (∀ x ∈ bs, x < 256) ∧ (0 < len → ∃ b off, ao = some ⟨b, off, none⟩ ∧ ∀ i, i < len → w.cell? ⟨b, off + i, none⟩ = some (u8 (bs.getD i 0)))

/-- The blocks in which a slice value's cells lie. -/
def blk : Value → List Nat
  | .slice (some a) _ _ => [a.block]
  | _ => []

theorem Rd.kept {L : List Nat} {w w' : World} {v : Value} {bs : List Nat} (h : Rd w v bs) (k : Kept L w w') (hn : ∀ x ∈ blk v, x ∉ L) : Rd w' v bs := by
  obtain ⟨ao, len, cap, rfl, h1, h2, h3, h4, h5, h6⟩ := h
  refine ⟨ao, len, cap, rfl, h1, h2, h3, h4, h5, fun hp => ?_⟩
  obtain ⟨b, off, rfl, hc⟩ := h6 hp
  exact ⟨b, off, rfl, fun i hi => k.cell (hc i hi) (hn b (by simp [blk]))⟩

/-- What was there at w0 reads as it did where new blocks alone have turned. -/
theorem Rd.old {L : List Nat} {w0 w : World} {v : Value} {bs : List Nat} (h : Rd w0 v bs) (k : Kept L w0 w) (hL : ∀ x ∈ L, w0.heap.size ≤ x) : Rd w v bs := by
  obtain ⟨ao, len, cap, rfl, h1, h2, h3, h4, h5, h6⟩ := h
  refine ⟨ao, len, cap, rfl, h1, h2, h3, h4, h5, fun hp => ?_⟩
  obtain ⟨b, off, rfl, hc⟩ := h6 hp
  exact ⟨b, off, rfl, fun i hi => k.cell (hc i hi) (fun hm => by have h7 := block_lt_of_cell (hc i hi); have h8 := hL b hm; simp at h7; omega)⟩

theorem Rd.nil (w : World) : Rd w (.slice none 0 0) [] := ⟨none, 0, 0, rfl, rfl, Nat.le_refl _, ⟨by omega, by omega⟩, fun _ => rfl, by simp, fun h => by omega⟩

end Go.Proofs.YtgnbigijpneebaaDoor
/-
  Plain reckoning: numbers in groups of seven bits, numbers in bytes. No program, no model.
-/
namespace Go.Proofs.YtgnbigijpneebaaDoor

/-- v in groups of seven bits, the lowest first. -/
def uv (v : Nat) : List Nat := if _h : v < 128 then [v] else (v % 128 + 128) :: uv (v / 128)

theorem uv_lt {v : Nat} (h : v < 128) : uv v = [v] := by rw [uv, dif_pos h]
theorem uv_ge {v : Nat} (h : 128 ≤ v) : uv v = (v % 128 + 128) :: uv (v / 128) := by rw [uv, dif_neg (by omega)]
theorem uv_pos (v : Nat) : 0 < (uv v).length := by rw [uv]; split <;> simp
theorem uv_byte (v : Nat) : ∀ x ∈ uv v, x < 256 := by
  induction v using uv.induct with
  | case1 v h => rw [uv_lt h]; simp; omega
  | case2 v h ih => rw [uv_ge (by omega)]; intro x hx; simp at hx; rcases hx with rfl | hx; omega; exact ih x hx

/-- One group more for each 128. -/
theorem uv_len_le (k : Nat) : ∀ v, v < 128 ^ (k + 1) → (uv v).length ≤ k + 1 := by
  induction k with
  | zero => intro v h; rw [uv_lt (by simpa using h)]; simp
  | succ k ih =>
    intro v h
    by_cases hv : v < 128
    · rw [uv_lt hv]; simp
    · rw [uv_ge (by omega)]
      have := ih (v / 128) (by rw [Nat.div_lt_iff_lt_mul (by omega)]; rw [Nat.pow_succ] at h; exact h)
      simp; omega
theorem uv_len (v : Nat) (h : v < 18446744073709551616) : (uv v).length ≤ 10 := uv_len_le 9 v (by omega)

/-- The byte at place i. -/
theorem uv_at (v : Nat) : ∀ i, i < (uv v).length → (uv v).getD i 0 = v / 128 ^ i % 128 + if i + 1 < (uv v).length then 128 else 0 := by
  induction v using uv.induct with
  | case1 v h => intro i hi; rw [uv_lt h] at hi ⊢; simp at hi; subst hi; simp; omega
  | case2 v h ih =>
    intro i hi
    rw [uv_ge (by omega)] at hi ⊢
    cases i with
    | zero => have := uv_pos (v / 128); rw [if_pos (by simp only [List.length_cons]; omega)]; simp
    | succ i =>
      simp only [List.length_cons] at hi
      have := ih i (by omega)
      simp only [List.getD_cons_succ, List.length_cons]
      rw [this, Nat.pow_succ, Nat.mul_comm, ← Nat.div_div_eq_div_mul]
      by_cases h1 : i + 1 < (uv (v / 128)).length
      · rw [if_pos h1, if_pos (by omega)]
      · rw [if_neg h1, if_neg (by omega)]

/-- Behind the last group nothing is left; the last group of several is not 0. -/
theorem uv_end (v : Nat) : v / 128 ^ (uv v).length = 0 := by
  induction v using uv.induct with
  | case1 v h => rw [uv_lt h]; simp; omega
  | case2 v h ih =>
    rw [uv_ge (by omega)]
    simp only [List.length_cons]
    rw [Nat.pow_succ, Nat.mul_comm, ← Nat.div_div_eq_div_mul]; exact ih
theorem uv_last (v : Nat) (h : 1 < (uv v).length) : 0 < v / 128 ^ ((uv v).length - 1) := by
  induction v using uv.induct with
  | case1 v h1 => rw [uv_lt h1] at h; simp at h
  | case2 v h1 ih =>
    rw [uv_ge (by omega)] at h ⊢
    simp only [List.length_cons, Nat.add_sub_cancel] at h ⊢
    by_cases h2 : 1 < (uv (v / 128)).length
    · have := ih h2
      have hp := uv_pos (v / 128)
      obtain ⟨k, hk⟩ : ∃ k, (uv (v / 128)).length = k + 1 := ⟨(uv (v / 128)).length - 1, by omega⟩
      rw [hk] at this ⊢
      simp only [Nat.add_sub_cancel] at this
      rw [Nat.pow_succ, Nat.mul_comm, ← Nat.div_div_eq_div_mul]; exact this
    · have hp := uv_pos (v / 128)
      have e : (uv (v / 128)).length = 1 := by omega
      rw [e]; simp; omega

/-- How many groups. -/
theorem uv_count {v k : Nat} (h : 0 < v / 128 ^ k) : k < (uv v).length := by
  rcases Nat.lt_or_ge k (uv v).length with h1 | h1
  · exact h1
  · exfalso
    have e := uv_end v
    have : v / 128 ^ k = 0 := by
      rw [show k = (uv v).length + (k - (uv v).length) from by omega, Nat.pow_add, ← Nat.div_div_eq_div_mul, e]; simp
    omega

/-- The program's byte(v) | 128. -/
theorem nat_or128 (a : Nat) (h : a < 256) : a ||| 128 = a % 128 + 128 := by
  rcases Nat.lt_or_ge a 128 with h1 | h1
  · rw [Nat.or_comm, nat_join 7 128 a (by decide) h1, Nat.mod_eq_of_lt h1, Nat.add_comm]
  · obtain ⟨c, rfl⟩ : ∃ c, a = 128 + c := ⟨a - 128, by omega⟩
    have hc : c < 128 := by omega
    have e : 128 + c = 128 ||| c := (nat_join 7 128 c (by decide) hc).symm
    rw [e, Nat.or_assoc, Nat.or_comm c 128, ← Nat.or_assoc, Nat.or_self, ← e]; omega
theorem or128 (x : Int) (h0 : 0 ≤ x) (h1 : x < 256) : bits .or .u8 x 128 = x % 128 + 128 := by
  obtain ⟨a, rfl⟩ := Int.eq_ofNat_of_zero_le h0
  rw [show (128 : Int) = ((128 : Nat) : Int) from rfl, u8_or_nat a 128 (by omega) (by omega), nat_or128 a (by omega)]; omega

/-- The size lowest bytes of v, the highest first. -/
def wide (v : Nat) : Nat → List Nat
  | 0 => []
  | k + 1 => (v / 256 ^ k % 256) :: wide v k

theorem wide_len (v k : Nat) : (wide v k).length = k := by induction k with | zero => rfl | succ k ih => simp [wide, ih]
theorem wide_byte (v k : Nat) : ∀ x ∈ wide v k, x < 256 := by
  induction k with
  | zero => simp [wide]
  | succ k ih => intro x hx; simp only [wide, List.mem_cons] at hx; rcases hx with rfl | hx; exact Nat.mod_lt _ (by omega); exact ih x hx

end Go.Proofs.YtgnbigijpneebaaDoor
/-
  Closed facts of the program: the byte type's row of the table.
-/
namespace Go.Proofs.YtgnbigijpneebaaDoor
open Go.RowKit
theorem Tryd.info5 : (Tryd.prog.info? 5).map (fun i => (i.zero, i.size, i.bytes)) = some (some (.int .u8 0), 1, 1) := by kernel_rfl
theorem Tryd.size5 : (Tryd.prog.info? 5).map (·.size) = some 1 := by kernel_rfl
end Go.Proofs.YtgnbigijpneebaaDoor
namespace Go.Proofs.YtgnbigijpneebaaDoor
open Go.RowKit

/-- What 'make' lays, under a name. -/
def zeros (n : Nat) : List Value := List.replicate n (.int .u8 0)
theorem madeZeros (n : Nat) : madeCells #[(.int .u8 0 : Value)] n = (zeros n).toArray := by
  apply Array.toList_inj.1; rw [toList_madeCells_one]; rfl
theorem u8_oneCell (bs : List Nat) : ∀ v ∈ bs.map u8, v.oneCell' = true := by
  intro v hv; obtain ⟨x, _, rfl⟩ := List.mem_map.1 hv; rfl
theorem Rd.src {w : World} {ao : Option Addr} {len cap : Nat} {bs : List Nat} (h : Rd w (.slice ao len cap) bs) (hp : 0 < (bs.map u8).length) :
    ∃ ad, ao = some ad ∧ ∀ j v, (bs.map u8)[j]? = some v → w.cell? (ad.add j) = some v := by
  obtain ⟨ao', len', cap', he, rfl, h2, h3, h4, h5, h6⟩ := h
  cases he
  obtain ⟨b, off, rfl, hc⟩ := h6 (by simpa using hp)
  refine ⟨_, rfl, fun j v hj => ?_⟩
  rw [List.getElem?_map] at hj
  obtain ⟨x, hx, rfl⟩ := Option.map_eq_some_iff.1 hj
  have hlt : j < bs.length := by
    rcases Nat.lt_or_ge j bs.length with h | h
    · exact h
    · rw [List.getElem?_eq_none h] at hx; cases hx
  rw [Addr.add_mid, hc j hlt, List.getD_eq_getElem?_getD, hx]; rfl

/-- 'copy' of all of a slice over the head of a row that is known whole. -/
theorem run_copy_head {P : Program} (dT sT ty elem : TypeId) (hu : P.underlying dT = some (.slice elem)) (hsz : (P.info? elem).map (·.size) = some 1)
    (w : World) (g dLen dCap sCap : Nat) (sp : Option Addr) (bs : List Nat) (cur : List Value) (t : TypeId) (hg : w.heap[g]? = some (.cells cur.toArray t (0, 0)))
    (hs : Rd w (.slice sp bs.length sCap) bs) (hd : bs.length ≤ dLen) (hfit : bs.length ≤ cur.length) :
    ∃ w2, (Builtin.copy_ #[dT, sT] ty #[.slice (some ⟨g, 0, none⟩) dLen dCap, .slice sp bs.length sCap]).run P w = .ok (goInt bs.length) w2 ∧
      w2.heap[g]? = some (.cells (bs.map u8 ++ cur.drop bs.length).toArray t (0, 0)) ∧ Kept [g] w w2 := by
  by_cases h0 : bs = []
  · subst h0
    exact ⟨w, run_copy_none (P := P) w dT sT ty elem _ sp dLen dCap 0 sCap hu hsz (by simp), by simpa using hg, Kept.refl _ _⟩
  · have hp : 0 < (bs.map u8).length := by rw [List.length_map]; exact List.length_pos_iff.2 h0
    obtain ⟨ad, rfl, hc⟩ := hs.src hp
    have hr := run_copy_row (P := P) w dT sT ty elem g 0 dLen dCap ad bs.length sCap cur.toArray t (bs.map u8) hu hsz hg (by rw [List.length_map]; exact (Nat.min_eq_left hd).symm) hc (by simpa using hfit) (u8_oneCell bs)
    refine ⟨_, by simpa using hr, ?_, ?_⟩
    · exact setRow_heap w g _ _ t _ hg
    · exact ⟨rfl, rfl, rfl, by simp [World.setRow], fun k _ hn => setRow_other w g k _ (by simpa using hn)⟩

/-- A row that was just made reads as its bytes. -/
theorem rd_fresh {w : World} {g : Nat} {bs : List Nat} (h : w.heap[g]? = some (.cells (bs.map u8).toArray 5 (0, 0))) (hb : ∀ x ∈ bs, x < 256) (hl : bs.length ≤ 140737488355328) :
    Rd w (.slice (some ⟨g, 0, none⟩) bs.length bs.length) bs := by
  refine ⟨_, _, _, rfl, rfl, Nat.le_refl _, ⟨by omega, hl⟩, by simp, hb, fun _ => ⟨g, 0, rfl, fun i hi => ?_⟩⟩
  rw [cell_of_row w g (0 + i) _ 5 (0, 0) h]
  simp [List.getD_eq_getElem?_getD, List.getElem?_eq_getElem hi]

set_option maxHeartbeats 400000 in
theorem cloned_any (v : Value) (bs : List Nat) (w : World) (h : Rd w v bs) :
    Calls Tryd.prog 93 #[v] w fun e w' => e = .returned (.slice (some ⟨w.heap.size, 0, none⟩) bs.length bs.length) ∧ Kept [] w w' ∧
      w'.heap[w.heap.size]? = some (.cells (bs.map u8).toArray 5 (0, 0)) := by
  have hk : Rd (w.alloc (.cells (zeros bs.length).toArray 5)) v bs := h.kept ((Kept.refl [] w).alloc _) (by simp)
  obtain ⟨ao, len, cap, rfl, rfl, h2, ⟨h3, h3'⟩, h4, h5, h6⟩ := h
  have hmk := run_make_row' (P := Tryd.prog) 24 5 (.int .u8 0) 1 Tryd.underlying24 Tryd.info5 rfl .i64 .i64 bs.length (by omega) (by omega)
  simp only [madeZeros] at hmk
  obtain ⟨w2, hrun, hg, hw⟩ := run_copy_head 24 24 3 5 Tryd.underlying24 Tryd.size5 _ w.heap.size bs.length bs.length cap ao bs (zeros bs.length) 5 (heap_alloc_new w _) hk (Nat.le_refl _) (by simp [zeros])
  have HG := hide hg
  have HW := hide hw
  clear hg hw hk h6
  go_enter Tryd.func93, Tryd.ntmps93
  go_wp2
  go_ret
  refine ⟨rfl, ((Kept.refl [] w).alloc _).trans (unhide HW) (by simp), ?_⟩
  rw [unhide HG]; simp [zeros]
end Go.Proofs.YtgnbigijpneebaaDoor
namespace Go.Proofs.YtgnbigijpneebaaDoor
open Go.RowKit
set_option maxRecDepth 100000

/-- A Writer at the block b: its field holds v, which owns the bytes bs. -/
structure WrAt (w : World) (b : Nat) (v : Value) (bs : List Nat) : Prop where
  at_ : w.heap[b]? = some (.cells #[v] 103 (0, 0))
  own : w.ownsRow 0 5 1 v bs.length (bs.map u8)
  byte : ∀ x ∈ bs, x < 256

/-- What a Writer's call may turn: its own block and its row. -/
structure Grew (b : Nat) (v v' : Value) (w w' : World) : Prop where
  kept : Kept (b :: v.ownBlock.toList) w w'
  own : v'.ownBlock = v.ownBlock ∨ ∃ g, v'.ownBlock = some g ∧ w.heap.size ≤ g

theorem Grew.refl (b : Nat) (v : Value) (w : World) : Grew b v v w w := ⟨Kept.refl _ _, .inl rfl⟩
theorem Grew.trans {b : Nat} {v1 v2 v3 : Value} {w1 w2 w3 : World} (h : Grew b v1 v2 w1 w2) (k : Grew b v2 v3 w2 w3) : Grew b v1 v3 w1 w3 := by
  refine ⟨h.kept.trans k.kept ?_, ?_⟩
  · intro x hx
    simp only [List.mem_cons, Option.mem_toList] at hx
    rcases hx with rfl | hx
    · left; simp
    · rcases h.own with h1 | ⟨g, h1, h2⟩
      · left; rw [h1] at hx; simp [hx]
      · right; rw [h1] at hx; cases hx; exact h2
  · rcases k.own with k1 | ⟨g, k1, k2⟩
    · rw [k1]; rcases h.own with h1 | h1
      · exact .inl h1
      · exact .inr h1
    · exact .inr ⟨g, k1, Nat.le_trans h.kept.size k2⟩

theorem WrAt.ne {w : World} {b : Nat} {v : Value} {bs : List Nat} (h : WrAt w b v bs) : v.ownBlock ≠ some b := by
  intro e
  rcases h.own.2 with ⟨rfl, _⟩ | ⟨g, cap, cur, rfl, _, hg, _⟩
  · simp [Value.ownBlock] at e
  · simp [Value.ownBlock] at e
    subst e
    rw [h.at_] at hg; simp at hg

theorem WrAt.lt {w : World} {b : Nat} {v : Value} {bs : List Nat} (h : WrAt w b v bs) : b < w.heap.size := lt_of_block h.at_
theorem WrAt.ownlt {w : World} {b : Nat} {v : Value} {bs : List Nat} (h : WrAt w b v bs) {g : Nat} (hg : v.ownBlock = some g) : g < w.heap.size := (h.own.lt g hg).2

theorem WrAt.kept {L : List Nat} {w w' : World} {b : Nat} {v : Value} {bs : List Nat} (h : WrAt w b v bs) (k : Kept L w w') (hb : b ∉ L) (hv : ∀ g, v.ownBlock = some g → g ∉ L) : WrAt w' b v bs :=
  ⟨k.heap h.at_ hb, k.owns h.own hv, h.byte⟩

/-- What the writer's field reads as. -/
theorem WrAt.rd {w : World} {b : Nat} {v : Value} {bs : List Nat} (h : WrAt w b v bs) (hl : bs.length ≤ 140737488355328) : Rd w v bs := by
  rcases h.own.2 with ⟨rfl, h0⟩ | ⟨g, cap, cur, rfl, _, hg, hc, hm, hs, ht⟩
  · have : bs = [] := List.eq_nil_of_length_eq_zero h0
    subst this
    exact Rd.nil w
  · refine ⟨_, _, _, rfl, rfl, hc, ⟨by unfold maxLen at hm; omega, hl⟩, by simp, h.byte, fun _ => ⟨g, 0, rfl, fun i hi => ?_⟩⟩
    have := h.own.cells (g := g) rfl i (u8 (bs.getD i 0)) (by rw [List.getElem?_map, List.getD_eq_getElem?_getD, List.getElem?_eq_getElem hi]; rfl)
    rw [Addr.add_mid] at this; exact this

theorem WrAt.alloc {w : World} {b : Nat} {v : Value} {bs : List Nat} (h : WrAt w b v bs) (o : Obj) : WrAt (w.alloc o) b v bs :=
  h.kept ((Kept.refl [] w).alloc o) (by simp) (by simp)
theorem WrAt.drew {w : World} {b : Nat} {v : Value} {bs : List Nat} (h : WrAt w b v bs) : WrAt w.drew b v bs := ⟨h.at_, h.own, h.byte⟩
theorem WrAt.drewN {w : World} {b : Nat} {v : Value} {bs : List Nat} (h : WrAt w b v bs) (n : Nat) : WrAt (w.drewN n) b v bs := ⟨h.at_, h.own, h.byte⟩
theorem Grew.alloc {a w : World} {b : Nat} {v v' : Value} (h : Grew b v v' a w) (o : Obj) : Grew b v v' a (w.alloc o) := ⟨h.kept.alloc o, h.own⟩
theorem Grew.drew {a w : World} {b : Nat} {v v' : Value} (h : Grew b v v' a w) : Grew b v v' a w.drew := ⟨h.kept.drew, h.own⟩

/-- What a Writer owns that was made behind B lies behind B. -/
theorem Grew.fresh {b B : Nat} {v v' : Value} {w w' : World} (h : Grew b v v' w w') (hv : ∀ g, v.ownBlock = some g → B ≤ g) (hB : B ≤ w.heap.size) : ∀ g, v'.ownBlock = some g → B ≤ g := by
  intro g hg
  rcases h.own with h1 | ⟨k, h1, h2⟩
  · exact hv g (by rw [← h1]; exact hg)
  · rw [h1] at hg; cases hg; omega
/-- .. and nothing that was there at B has turned. -/
theorem Grew.keptNil {b : Nat} {v v' : Value} {a w w' : World} (h : Grew b v v' w w') (k : Kept [] a w) (hb : a.heap.size ≤ b) (hv : ∀ g, v.ownBlock = some g → a.heap.size ≤ g) : Kept [] a w' :=
  k.trans h.kept (by intro x hx; right; simp only [List.mem_cons, Option.mem_toList] at hx; rcases hx with rfl | hx; exact hb; exact hv x hx)

/-- One byte more: the byte lies in a block of its own, H. -/
theorem push (w : World) (b : Nat) (v : Value) (bs : List Nat) (z : Int) (H : Nat) (h : WrAt w b v bs) (hnew : w.heap[H]? = some (.cells #[.int .u8 z] 5 (0, 0))) (z0 : 0 ≤ z) (z1 : z < 256) (hl : bs.length + 1 ≤ 140737488355328) :
    ∃ g cap w1, (Builtin.append_ #[24, 24] 24 #[v, .slice (some ⟨H, 0, none⟩) 1 1]).run Tryd.prog w = .ok (.slice (some ⟨g, 0, none⟩) (bs.length + 1) cap) w1 ∧
      w1.heap[b]? = some (.cells #[v] 103 (0, 0)) ∧
      WrAt (w1.setCell ⟨b, 0, none⟩ (.slice (some ⟨g, 0, none⟩) (bs.length + 1) cap)) b (.slice (some ⟨g, 0, none⟩) (bs.length + 1) cap) (bs ++ [z.toNat]) ∧
      Grew b v (.slice (some ⟨g, 0, none⟩) (bs.length + 1) cap) w (w1.setCell ⟨b, 0, none⟩ (.slice (some ⟨g, 0, none⟩) (bs.length + 1) cap)) := by
  obtain ⟨i0, hi, hz0, hz1, hz2⟩ := info_parts Tryd.info5
  obtain ⟨g, cap, w1, hr, hown, hgrow, hat, hlt⟩ := run_append_lies (P := Tryd.prog) w 24 24 0 5 i0 (.int .u8 0) 1 1 Tryd.underlying24 hi hz0 hz1 hz2 rfl (by decide)
    v bs.length (bs.map u8) h.own ⟨H, 0, none⟩ 1 1 [.int .u8 z] rfl (World.news_of_block hnew) (by simp [Value.oneCell']) (by decide) (by unfold maxLen; omega) (by omega) (Nat.zero_le _) _ rfl
  have hb1 : w1.heap[b]? = some (.cells #[v] 103 (0, 0)) := by
    rw [hgrow.block b h.lt (Ne.symm h.ne)]; exact h.at_
  refine ⟨g, cap, w1, hr, hb1, ⟨one_setCell hb1, ?_, ?_⟩, ⟨?_, ?_⟩⟩
  · have e : (bs ++ [z.toNat]).length = bs.length + 1 := by simp
    have e2 : (bs ++ [z.toNat]).map u8 = bs.map u8 ++ [.int .u8 z] := by
      rw [List.map_append]; congr 1; simp [u8]; omega
    rw [e, e2]
    refine ownsRow_setCell_other hown ?_ _
    intro e3
    simp [Value.ownBlock] at e3
    subst e3
    rcases hown.2 with ⟨h1, _⟩ | ⟨g', cap', cur, h1, _, h2, _⟩
    · cases h1
    · cases h1; rw [hb1] at h2; simp at h2
  · intro x hx; simp at hx; rcases hx with hx | rfl; exact h.byte x hx; omega
  · have k1 : Kept (b :: v.ownBlock.toList) w w1 := (Kept.refl (b :: v.ownBlock.toList) w).grown hgrow (by intro k hk; left; simp [hk])
    exact k1.setCell (by simp) _
  · rcases hat with hat | hat
    · left; rw [hat]; rfl
    · right; exact ⟨g, rfl, by rw [hat]; exact Nat.le_refl _⟩

/-- The same at an append, behind its operation. -/
theorem wp_push {o : Oper} {a : Act} {K : Act → World → Prop} {Q : Exit → Act → World → Prop} (s x : Operand)
    (ho : o.op = .call { callee := .builtin .append, args := #[s, x], argTypes := #[24, 24] }) (hty : o.type = 24)
    (w : World) (b : Nat) (v : Value) (bs : List Nat) (z : Int) (H : Nat) (h : WrAt w b v bs) (hnew : w.heap[H]? = some (.cells #[.int .u8 z] 5 (0, 0))) (z0 : 0 ≤ z) (z1 : z < 256) (hl : bs.length + 1 ≤ 140737488355328)
    (hs : a.eval s = v) (hx : a.eval x = .slice (some ⟨H, 0, none⟩) 1 1)
    (hK : ∀ g cap w1, w1.cell? ⟨b, 0, none⟩ = some v → w1.frozen? ⟨b, 0, none⟩ = false →
      Hid (WrAt (w1.setCell ⟨b, 0, none⟩ (.slice (some ⟨g, 0, none⟩) (bs.length + 1) cap)) b (.slice (some ⟨g, 0, none⟩) (bs.length + 1) cap) (bs ++ [z.toNat])) →
      Hid (Grew b v (.slice (some ⟨g, 0, none⟩) (bs.length + 1) cap) w (w1.setCell ⟨b, 0, none⟩ (.slice (some ⟨g, 0, none⟩) (bs.length + 1) cap))) →
      K (a.put o.dst (.slice (some ⟨g, 0, none⟩) (bs.length + 1) cap)) w1) : o.wp Tryd.prog a w K Q := by
  obtain ⟨g, cap, w1, hr, hb1, h2, h3⟩ := push w b v bs z H h hnew z0 z1 hl
  unfold Oper.wp execOp
  simp only [ho, hty, resolve, invoke, builtin, Sem.run_bind, Sem.run_pure, Result.andThen_ok, List.map_toArray, List.map_cons, List.map_nil, hs, hx, hr]
  exact hK g cap w1 (cell_of_one hb1) (free_of_one hb1) h2 h3

theorem wpList_push {ops : Array Oper} {rest : List Oper} {o : Oper} {a : Act} {Q : Exit → Act → World → Prop} (hgd : o.guard = none) (s x : Operand)
    (ho : o.op = .call { callee := .builtin .append, args := #[s, x], argTypes := #[24, 24] }) (hty : o.type = 24)
    (w : World) (b : Nat) (v : Value) (bs : List Nat) (z : Int) (H : Nat) (h : WrAt w b v bs) (hnew : w.heap[H]? = some (.cells #[.int .u8 z] 5 (0, 0))) (z0 : 0 ≤ z) (z1 : z < 256) (hl : bs.length + 1 ≤ 140737488355328)
    (hs : a.eval s = v) (hx : a.eval x = .slice (some ⟨H, 0, none⟩) 1 1)
    (hK : ∀ g cap w1, w1.cell? ⟨b, 0, none⟩ = some v → w1.frozen? ⟨b, 0, none⟩ = false →
      Hid (WrAt (w1.setCell ⟨b, 0, none⟩ (.slice (some ⟨g, 0, none⟩) (bs.length + 1) cap)) b (.slice (some ⟨g, 0, none⟩) (bs.length + 1) cap) (bs ++ [z.toNat])) →
      Hid (Grew b v (.slice (some ⟨g, 0, none⟩) (bs.length + 1) cap) w (w1.setCell ⟨b, 0, none⟩ (.slice (some ⟨g, 0, none⟩) (bs.length + 1) cap))) →
      wpList Tryd.prog ops Q rest (a.put o.dst (.slice (some ⟨g, 0, none⟩) (bs.length + 1) cap)) w1) :
    wpList Tryd.prog ops Q (o :: rest) a w :=
  wpList_plain hgd fun _ hK' => wp_push s x ho hty w b v bs z H h hnew z0 z1 hl hs hx fun g cap w1 h1 h2 h3 h4 => hK' _ _ (hK g cap w1 h1 h2 h3 h4)

theorem step_push {ops : Array Oper} {o : Oper} {a : Act} {K : Act → World → Prop} {Q : Exit → Act → World → Prop} {E : Prop} (hgd : o.guard = none) (s x : Operand)
    (ho : o.op = .call { callee := .builtin .append, args := #[s, x], argTypes := #[24, 24] }) (hty : o.type = 24)
    (w : World) (b : Nat) (v : Value) (bs : List Nat) (z : Int) (H : Nat) (h : WrAt w b v bs) (hnew : w.heap[H]? = some (.cells #[.int .u8 z] 5 (0, 0))) (z0 : 0 ≤ z) (z1 : z < 256) (hl : bs.length + 1 ≤ 140737488355328)
    (hs : a.eval s = v) (hx : a.eval x = .slice (some ⟨H, 0, none⟩) 1 1)
    (hK : ∀ g cap w1, w1.cell? ⟨b, 0, none⟩ = some v → w1.frozen? ⟨b, 0, none⟩ = false →
      Hid (WrAt (w1.setCell ⟨b, 0, none⟩ (.slice (some ⟨g, 0, none⟩) (bs.length + 1) cap)) b (.slice (some ⟨g, 0, none⟩) (bs.length + 1) cap) (bs ++ [z.toNat])) →
      Hid (Grew b v (.slice (some ⟨g, 0, none⟩) (bs.length + 1) cap) w (w1.setCell ⟨b, 0, none⟩ (.slice (some ⟨g, 0, none⟩) (bs.length + 1) cap))) →
      K (a.put o.dst (.slice (some ⟨g, 0, none⟩) (bs.length + 1) cap)) w1) :
    if Region.wanted o (yielded ops a.tmps) = true then Oper.wp Tryd.prog o a w K Q else E := by
  have hw : Region.wanted o (yielded ops a.tmps) = true := by simp [Region.wanted, hgd]
  rw [if_pos hw]
  exact wp_push s x ho hty w b v bs z H h hnew z0 z1 hl hs hx hK
end Go.Proofs.YtgnbigijpneebaaDoor
namespace Go.Proofs.YtgnbigijpneebaaDoor
set_option linter.unusedVariables false
set_option maxRecDepth 100000
set_option linter.unusedSimpArgs false
open Go.RowKit
attribute [local go_sem ↓] Go.wp_at_zero Go.wp_at_succ

theorem shr8 (x j : Nat) (hj : j ≤ 7) : Op.shift .shr .u64 (x : Int) .i64 (IntKind.i64.wrap (8 * (j : Int))) = pure (.int .u64 ((x / 256 ^ j : Nat) : Int)) := by
  have e : IntKind.i64.wrap (8 * (j : Int)) = ((8 * j : Nat) : Int) := by simp [IntKind.wrap, IntKind.bits, IntKind.signed]; omega
  rw [e, shift_shr .u64 .i64 _ _ (by omega) (by simp [IntKind.bits]; omega), Int.toNat_natCast, Int.pow_mul]
  simp

set_option maxRecDepth 100000 in
set_option maxHeartbeats 1000000 in
theorem wnumber_any (b : Nat) (v : Value) (bs : List Nat) (x n : Nat) (w : World) (hw : WrAt w b v bs) (hn : n ≤ 8) (hl : bs.length + 8 ≤ 140737488355328) :
    Calls Tryd.prog 92 #[.pointer (some ⟨b, 0, none⟩), .int .u64 x, .int .i64 n] w fun e w' => e = .returned (.tuple #[]) ∧ ∃ v', WrAt w' b v' (bs ++ wide x n) ∧ Grew b v v' w w' := by
  go_enter Tryd.func92, Tryd.ntmps92
  go_wp2_with fail
  go_loopw [6] (fun t wr => ∃ (k : Nat) (cur : List Nat) (v' : Value), t = .int .i64 ((k : Int) - 1) ∧ k ≤ n ∧ Hid (cur ++ wide x k = bs ++ wide x n) ∧ Hid (WrAt wr b v' cur) ∧ Hid (Grew b v v' w wr)) (fun t _ => (intOf t + 1).toNat)
  case atStart => exact ⟨n, bs, v, rfl, Nat.le_refl _, rfl, hw, Grew.refl _ _ _⟩
  case round =>
    obtain ⟨k, cur, v', rfl, hk, Hp, HW, HG⟩ := hrel
    have hlen : cur.length + k ≤ 140737488355328 := by have h1 := congrArg List.length (unhide Hp); simp [wide_len] at h1; omega
    have hc0 := cell_of_one (unhide HW).at_
    by_cases h0 : k = 0
    · subst h0
      go_wp2_with fail
      go_end0
      refine ⟨rfl, _, ?_, unhide HG⟩
      have h1 := unhide Hp
      simp only [wide, List.append_nil] at h1
      rw [← h1]; exact unhide HW
    · obtain ⟨j, rfl⟩ : ∃ j, k = j + 1 := ⟨k - 1, by omega⟩
      have e1 : (((j + 1 : Nat) : Int) - 1) = (j : Int) := by omega
      rw [e1]
      have hj0 : (0 : Int) ≤ (j : Int) := by omega
      have hj8 : (j : Int) ≤ 7 := by omega
      obtain ⟨q, hq⟩ : ∃ q, q = x / 256 ^ j := ⟨_, rfl⟩
      have hsh := shr8 x j (by omega)
      rw [← hq] at hsh
      have Hq := hide hq
      clear hq
      have hz0 : 0 ≤ IntKind.u8.wrap (q : Int) := by rw [IntKind.wrap_u8']; omega
      have hz1 : IntKind.u8.wrap (q : Int) < 256 := by rw [IntKind.wrap_u8']; omega
      have hca : ∀ o, (wr.alloc o).cell? ⟨b, 0, none⟩ = some v' := fun o => cell_of_one ((unhide HW).alloc o).at_
      have hlen1 : cur.length + 1 ≤ 140737488355328 := by omega
      go_wp2_with fail
      go_region_law ((refine step_push (by rfl) (.tmp 19) (.tmp 25) (by rfl) (by rfl) _ b v' cur (IntKind.u8.wrap (q : Int)) wr.heap.size (by first | exact (unhide HW).drew.alloc _ | exact ((unhide HW).alloc _).drew) (by exact heap_alloc_new wr _) hz0 hz1 hlen1 (by simp [Act.eval]) (by simp [Act.eval]) ?_; intro g cap w1 hc1 hf1 HW1 HG1))
      all_goals
        go_wp2
        go_roundw
        case rel =>
          refine ⟨j, cur ++ [q % 256], _, rfl, by omega, ?_, ?_, (((unhide HG).alloc _).drew).trans (unhide HG1)⟩
          · rw [← unhide Hp, unhide Hq]; show _ = _; simp [wide]
          · have h1 := unhide HW1
            rw [show (IntKind.u8.wrap (q : Int)).toNat = q % 256 from by rw [IntKind.wrap_u8']; omega] at h1; exact h1
        case measure => simp [intOf]
end Go.Proofs.YtgnbigijpneebaaDoor
namespace Go.Proofs.YtgnbigijpneebaaDoor
set_option linter.unusedVariables false
set_option maxRecDepth 100000
set_option linter.unusedSimpArgs false
open Go.RowKit

set_option maxRecDepth 100000 in
set_option maxHeartbeats 1000000 in
theorem wuvar_any (b : Nat) (v : Value) (bs : List Nat) (x : Nat) (w : World) (hw : WrAt w b v bs) (hx : x < 18446744073709551616) (hl : bs.length + 10 ≤ 140737488355328) :
    Calls Tryd.prog 76 #[.pointer (some ⟨b, 0, none⟩), .int .u64 x] w fun e w' => e = .returned (.tuple #[]) ∧ ∃ v', WrAt w' b v' (bs ++ uv x) ∧ Grew b v v' w w' := by
  go_enter Tryd.func76, Tryd.ntmps76
  go_wp2_with fail
  go_loopw [1] (fun t wr => ∃ (y : Nat) (cur : List Nat) (v' : Value), t = .int .u64 y ∧ y ≤ x ∧ Hid (cur ++ uv y = bs ++ uv x) ∧ Hid (WrAt wr b v' cur) ∧ Hid (Grew b v v' w wr)) (fun t _ => (intOf t).toNat)
  case atStart => exact ⟨x, bs, v, rfl, Nat.le_refl _, rfl, hw, Grew.refl _ _ _⟩
  case round =>
    obtain ⟨y, cur, v', rfl, hy, Hp, HW, HG⟩ := hrel
    have hlen : cur.length + 1 ≤ 140737488355328 := by have h1 := congrArg List.length (unhide Hp); have h2 := uv_len x hx; have h3 := uv_pos y; simp at h1; omega
    have hc0 := cell_of_one (unhide HW).at_
    by_cases hlt : y < 128
    · have hlt' : (y : Int) < 128 := by omega
      go_wp2_with (at_builtin; go_must (refine wpList_push rfl (.tmp 26) (.tmp 29) rfl rfl _ b v' cur _ wr.heap.size (by exact (unhide HW).alloc _) (by exact heap_alloc_new wr _) ?_ ?_ hlen rfl rfl ?_; rotate_right; intro g cap w1 hc1 hf1 HW1 HG1))
      · go_end0
        refine ⟨rfl, _, ?_, ((unhide HG).alloc _).trans (unhide HG1)⟩
        have h1 := unhide HW1
        rw [Int.toNat_natCast] at h1
        rw [← unhide Hp, uv_lt hlt]; exact h1
      · omega
      · omega
    · have hor := or128 ((y : Int) % 256) (by omega) (by omega)
      have hge : 128 ≤ (y : Int) := by omega
      go_wp2_with (at_builtin; go_must (refine wpList_push rfl (.tmp 14) (.tmp 18) rfl rfl _ b v' cur _ wr.heap.size (by exact (unhide HW).alloc _) (by exact heap_alloc_new wr _) ?_ ?_ hlen rfl rfl ?_; rotate_right; intro g cap w1 hc1 hf1 HW1 HG1))
      · go_roundw
        case rel =>
          refine ⟨y / 128, cur ++ [y % 128 + 128], _, by simp, by omega, ?_, ?_, ((unhide HG).alloc _).trans (unhide HG1)⟩
          · rw [← unhide Hp, uv_ge (v := y) (by omega)]; show _ = _; simp
          · have h1 := unhide HW1
            rw [show ((y : Int) % 128 + 128).toNat = y % 128 + 128 from by omega] at h1; exact h1
        case measure => simp [intOf]; omega
      · omega
      · omega
end Go.Proofs.YtgnbigijpneebaaDoor
namespace Go.Proofs.YtgnbigijpneebaaDoor
open Go.RowKit
set_option linter.unusedVariables false
set_option maxRecDepth 100000
set_option linter.unusedSimpArgs false

set_option maxRecDepth 100000 in
set_option maxHeartbeats 400000 in
theorem wbytes_any (b : Nat) (v : Value) (bs : List Nat) (w : World) (hw : WrAt w b v bs) (hl : bs.length ≤ 140737488355328) :
    Calls Tryd.prog 75 #[.pointer (some ⟨b, 0, none⟩)] w fun e w' => e = .returned (.slice (some ⟨w.heap.size, 0, none⟩) bs.length bs.length) ∧ Kept [] w w' ∧
      w'.heap[w.heap.size]? = some (.cells (bs.map u8).toArray 5 (0, 0)) := by
  have hc0 := cell_of_one hw.at_
  have HR := hide (hw.rd hl)
  go_enter Tryd.func75, Tryd.ntmps75
  go_wp2_with (go_at_call 93; go_must (refine (cloned_any v bs _ (unhide HR)).mono ?_; rintro e w1 ⟨rfl, hk, hg⟩; have HK := hide hk; have HG := hide hg; clear hk hg))
  go_ret
  exact ⟨rfl, unhide HK, unhide HG⟩

set_option maxRecDepth 100000 in
theorem wu16_any (b : Nat) (v : Value) (bs : List Nat) (x : Nat) (w : World) (hw : WrAt w b v bs) (hx : x < 65536) (hl : bs.length + 8 ≤ 140737488355328) :
    Calls Tryd.prog 79 #[.pointer (some ⟨b, 0, none⟩), .int .u16 x] w fun e w' => e = .returned (.tuple #[]) ∧ ∃ v', WrAt w' b v' (bs ++ wide x 2) ∧ Grew b v v' w w' := by
  have HW := hide hw
  clear hw
  go_enter Tryd.func79, Tryd.ntmps79
  go_wp2_with (go_at_call 92; go_must (refine (wnumber_any b v bs x 2 _ (unhide HW) (by omega) hl).mono ?_; rintro e w1 ⟨rfl, hk⟩; have HK := hide hk; clear hk))
  go_end0
  exact ⟨rfl, unhide HK⟩
end Go.Proofs.YtgnbigijpneebaaDoor
namespace Go.Proofs.YtgnbigijpneebaaDoor
open Go.RowKit
set_option linter.unusedVariables false
set_option linter.unusedSimpArgs false

theorem take_succ_eq {p q : List Nat} {k : Nat} (h : p.take k = q.take k) (hp : k < p.length) (hq : k < q.length) (e : p.getD k 0 = q.getD k 0) : p.take (k + 1) = q.take (k + 1) := by
  rw [List.take_succ_eq_append_getElem hp, List.take_succ_eq_append_getElem hq, h]
  rw [List.getD_eq_getElem?_getD, List.getD_eq_getElem?_getD, List.getElem?_eq_getElem hp, List.getElem?_eq_getElem hq] at e
  simp only [Option.getD_some] at e
  rw [e]
theorem drewN_drewN (w : World) (n m : Nat) : (w.drewN n).drewN m = w.drewN (n + m) := by simp [World.drewN, Nat.add_assoc]
theorem ne_of_getD {p q : List Nat} {k : Nat} (e : p.getD k 0 ≠ q.getD k 0) : p ≠ q := fun h => e (by rw [h])

set_option maxRecDepth 100000 in
set_option maxHeartbeats 1000000 in
theorem same_any (u v : Value) (p q : List Nat) (w : World) (hu : Rd w u p) (hv : Rd w v q) :
    Calls Tryd.prog 13 #[u, v] w fun e w' => e = .returned (.bool (decide (p = q))) ∧ ∃ n, w' = w.drewN n := by
  obtain ⟨ao, len, cap, rfl, rfl, h2, ⟨h3, h3'⟩, h4, h5, h6⟩ := hu
  obtain ⟨ao', len', cap', rfl, rfl, g2, ⟨g3, g3'⟩, g4, g5, g6⟩ := hv
  have H6 := hide h6
  have G6 := hide g6
  clear h6 g6 h4 g4 h5 g5
  by_cases hl : p.length = q.length
  · have hl' : ((p.length : Int) != q.length) = false := by simp [hl]
    have Hl := hide hl
    clear hl
    go_enter Tryd.func13, Tryd.ntmps13
    go_wp2_with fail
    go_loopw [5, 13] (fun t i wr => ∃ k : Nat, k ≤ p.length ∧ i = .int .i64 k ∧ Hid (p.take k = q.take k) ∧ ∃ n, wr = w.drewN n) (fun _ i _ => p.length - (intOf i).toNat)
    case atStart => exact ⟨0, Nat.zero_le _, rfl, (by show _ = _; simp), 0, rfl⟩
    case round =>
      obtain ⟨k, hk, rfl, Ht, n, rfl⟩ := hrel
      by_cases hlt : k < p.length
      · obtain ⟨ba, oa, rfl, ha⟩ := unhide H6 (by omega)
        obtain ⟨bb, ob, rfl, hb⟩ := unhide G6 (by have := unhide Hl; omega)
        have ca := ha k hlt
        have cb := hb k (by have := unhide Hl; omega)
        have hq : (k : Int) < (q.length : Int) := by have := unhide Hl; omega
        have hp : (k : Int) < (p.length : Int) := by omega
        clear ha hb
        by_cases e : p.getD k 0 = q.getD k 0
        · have Hn := hide (take_succ_eq (unhide Ht) hlt (by have := unhide Hl; omega) e)
          rw [← e] at cb
          obtain ⟨x, hx⟩ : ∃ x, x = p.getD k 0 := ⟨_, rfl⟩
          rw [← hx] at ca cb
          clear e hx
          go_wp2_with fail
          go_quiet (fail)
          go_wp2
          go_roundw
          case rel => exact ⟨k + 1, by omega, by go_num, Hn, _, rfl⟩
          case measure => simp [intOf]; omega
        · have Hn := hide (ne_of_getD e)
          have hne : ((p.getD k 0 : Int) != (q.getD k 0 : Int)) = true := by rw [bne_iff_ne]; omega
          obtain ⟨x, hx⟩ : ∃ x, x = p.getD k 0 := ⟨_, rfl⟩
          obtain ⟨y, hy⟩ : ∃ y, y = q.getD k 0 := ⟨_, rfl⟩
          rw [← hx] at ca hne
          rw [← hy] at cb hne
          clear e hx hy
          go_wp2_with fail
          go_quiet (fail)
          go_wp2
          go_ret
          exact ⟨by simp [unhide Hn], _, drewN_drewN _ _ _⟩
      · go_wp2
        go_ret
        have e : p = q := by
          have h1 := unhide Ht
          have h2 := unhide Hl
          rwa [List.take_of_length_le (by omega), List.take_of_length_le (by omega)] at h1
        exact ⟨by simp [e], _, rfl⟩
  · have hl' : ((p.length : Int) != q.length) = true := by rw [bne_iff_ne]; omega
    have Hl := hide hl
    clear hl
    go_enter Tryd.func13, Tryd.ntmps13
    go_wp2
    go_ret
    exact ⟨by simp; intro h; exact unhide Hl (by rw [h]), 0, rfl⟩
end Go.Proofs.YtgnbigijpneebaaDoor

namespace Go.Proofs.YtgnbigijpneebaaDoor
open Go.RowKit
set_option linter.unusedVariables false
set_option maxRecDepth 100000
set_option linter.unusedSimpArgs false

theorem Rd.byte {w : World} {v : Value} {p : List Nat} (h : Rd w v p) : ∀ x ∈ p, x < 256 := by obtain ⟨_, _, _, _, _, _, _, _, h5, _⟩ := h; exact h5
theorem Rd.len {w : World} {v : Value} {p : List Nat} (h : Rd w v p) : p.length ≤ 140737488355328 := by obtain ⟨_, _, _, _, rfl, _, ⟨_, h3⟩, _⟩ := h; exact h3

/-- All of a slice behind what a Writer has. -/
theorem pushAll (w : World) (b : Nat) (v : Value) (bs p : List Nat) (ao : Option Addr) (n c : Nat) (h : WrAt w b v bs) (hr : Rd w (.slice ao n c) p) (hl : bs.length + p.length ≤ 140737488355328) :
    ∃ ao' n' cap' w1, (Builtin.append_ #[24, 24] 24 #[v, .slice ao n c]).run Tryd.prog w = .ok (.slice ao' n' cap') w1 ∧
      w1.heap[b]? = some (.cells #[v] 103 (0, 0)) ∧
      WrAt (w1.setCell ⟨b, 0, none⟩ (.slice ao' n' cap')) b (.slice ao' n' cap') (bs ++ p) ∧
      Grew b v (.slice ao' n' cap') w (w1.setCell ⟨b, 0, none⟩ (.slice ao' n' cap')) := by
  obtain ⟨i0, hi, hz0, hz1, hz2⟩ := info_parts Tryd.info5
  have fin : ∀ v' w1, w1.ownsRow 0 5 1 v' (bs.length + p.length) (bs.map u8 ++ p.map u8) → w.grownBy w1 v.ownBlock → (v'.ownBlock = v.ownBlock ∨ v'.ownBlock = some w.heap.size) →
      w1.heap[b]? = some (.cells #[v] 103 (0, 0)) ∧ WrAt (w1.setCell ⟨b, 0, none⟩ v') b v' (bs ++ p) ∧ Grew b v v' w (w1.setCell ⟨b, 0, none⟩ v') := by
    intro v' w1 hown hgrow hat
    have hb1 : w1.heap[b]? = some (.cells #[v] 103 (0, 0)) := by
      rw [hgrow.block b h.lt (Ne.symm h.ne)]; exact h.at_
    refine ⟨hb1, ⟨one_setCell hb1, ?_, ?_⟩, ⟨?_, ?_⟩⟩
    · rw [List.length_append, List.map_append]
      refine ownsRow_setCell_other hown ?_ _
      intro e3
      rcases hown.2 with ⟨rfl, _⟩ | ⟨g', cap', cur, rfl, _, h2, _⟩
      · simp [Value.ownBlock] at e3
      · simp [Value.ownBlock] at e3; subst e3; rw [hb1] at h2; simp at h2
    · intro x hx; simp at hx; rcases hx with hx | hx; exact h.byte x hx; exact hr.byte x hx
    · have k1 : Kept (b :: v.ownBlock.toList) w w1 := (Kept.refl (b :: v.ownBlock.toList) w).grown hgrow (by intro k hk; left; simp [hk])
      exact k1.setCell (by simp) _
    · rcases hat with hat | hat
      · exact .inl hat
      · exact .inr ⟨_, hat, Nat.le_refl _⟩
  have shape : ∀ (v' : Value) (w1 : World) (n : Nat) (xs : List Value), w1.ownsRow 0 5 1 v' n xs → ∃ ao' n' cap', v' = .slice ao' n' cap' := by
    intro v' w1 n xs hown
    rcases hown.2 with ⟨rfl, _⟩ | ⟨g, cap, cur, rfl, _⟩
    · exact ⟨_, _, _, rfl⟩
    · exact ⟨_, _, _, rfl⟩
  obtain ⟨ao1, n1, c1, he, hn, h2, ⟨h3, h3'⟩, h4, h5, h6⟩ := id hr
  cases he
  subst hn
  cases ao with
  | none =>
    have hc0 := h4 rfl
    have hp : p = [] := List.eq_nil_of_length_eq_zero (by omega)
    subst hp
    subst hc0
    have hrun := run_append_owned_none (P := Tryd.prog) (w := w) 0 24 24 5 i0 1 Tryd.underlying24 hi v bs.length (bs.map u8) h.own
    obtain ⟨ao', n', cap', rfl⟩ := shape v w _ _ h.own
    exact ⟨ao', n', cap', w, hrun, fin _ _ (by simpa using h.own) (World.grownBy.refl _ _) (.inl rfl)⟩
  | some ad =>
    have hnews : ∀ j u, (p.map u8)[j]? = some u → w.cell? (ad.add j) = some u := by
      intro j u hj
      by_cases h0 : 0 < (p.map u8).length
      · obtain ⟨ad', e, hc⟩ := hr.src h0
        cases e
        exact hc j u hj
      · have : p.map u8 = [] := List.eq_nil_of_length_eq_zero (by omega)
        rw [this] at hj; simp at hj
    obtain ⟨v', w1, hrun, hown, hgrow, _, hat⟩ := run_append_own_at (P := Tryd.prog) w 0 24 24 5 i0 (.int .u8 0) 1 1 Tryd.underlying24 hi hz0 hz1 hz2 rfl (by decide)
      v bs.length (bs.map u8) h.own ad p.length c (p.map u8) (by simp) hnews (u8_oneCell p) (by unfold maxLen; omega) (by omega) (Nat.zero_le _)
    obtain ⟨ao', n', cap', rfl⟩ := shape v' w1 _ _ hown
    exact ⟨ao', n', cap', w1, hrun, fin _ _ hown hgrow hat⟩

theorem wpList_pushAll {ops : Array Oper} {rest : List Oper} {o : Oper} {a : Act} {Q : Exit → Act → World → Prop} (hgd : o.guard = none) (s x : Operand)
    (ho : o.op = .call { callee := .builtin .append, args := #[s, x], argTypes := #[24, 24] }) (hty : o.type = 24)
    (w : World) (b : Nat) (v : Value) (bs p : List Nat) (ao : Option Addr) (n c : Nat) (h : WrAt w b v bs) (hr : Rd w (.slice ao n c) p) (hl : bs.length + p.length ≤ 140737488355328)
    (hs : a.eval s = v) (hx : a.eval x = .slice ao n c)
    (hK : ∀ ao' n' cap' w1, w1.cell? ⟨b, 0, none⟩ = some v → w1.frozen? ⟨b, 0, none⟩ = false →
      Hid (WrAt (w1.setCell ⟨b, 0, none⟩ (.slice ao' n' cap')) b (.slice ao' n' cap') (bs ++ p)) →
      Hid (Grew b v (.slice ao' n' cap') w (w1.setCell ⟨b, 0, none⟩ (.slice ao' n' cap'))) →
      wpList Tryd.prog ops Q rest (a.put o.dst (.slice ao' n' cap')) w1) :
    wpList Tryd.prog ops Q (o :: rest) a w := by
  obtain ⟨ao', n', cap', w1, hrun, hb1, h2, h3⟩ := pushAll w b v bs p ao n c h hr hl
  refine wpList_plain hgd fun K hK' => ?_
  unfold Oper.wp execOp
  simp only [ho, hty, resolve, invoke, builtin, Sem.run_bind, Sem.run_pure, Result.andThen_ok, List.map_toArray, List.map_cons, List.map_nil, hs, hx, hrun]
  exact hK' _ _ (hK ao' n' cap' w1 (cell_of_one hb1) (free_of_one hb1) h2 h3)

set_option maxRecDepth 100000 in
theorem wraw_any (b : Nat) (v pv : Value) (bs p : List Nat) (w : World) (hw : WrAt w b v bs) (hr : Rd w pv p) (hl : bs.length + p.length ≤ 140737488355328) :
    Calls Tryd.prog 74 #[.pointer (some ⟨b, 0, none⟩), pv] w fun e w' => e = .returned (.tuple #[]) ∧ ∃ v', WrAt w' b v' (bs ++ p) ∧ Grew b v v' w w' := by
  obtain ⟨ao, n, c, rfl⟩ : ∃ ao n c, pv = .slice ao n c := by obtain ⟨ao, n, c, rfl, _⟩ := hr; exact ⟨ao, n, c, rfl⟩
  have HW := hide hw
  have HR := hide hr
  have hc0 := cell_of_one hw.at_
  clear hw hr
  go_enter Tryd.func74, Tryd.ntmps74
  go_wp2_with (at_builtin; go_must (refine wpList_pushAll rfl (.tmp 10) (.tmp 11) rfl rfl _ b v bs p ao n c (unhide HW) (unhide HR) hl rfl rfl ?_; intro ao' n' cap' w1 hc1 hf1 HW1 HG1))
  go_end0
  exact ⟨rfl, _, unhide HW1, unhide HG1⟩

set_option maxRecDepth 100000 in
theorem wblob_any (b : Nat) (v pv : Value) (bs p : List Nat) (w : World) (hw : WrAt w b v bs) (hr : ∀ w', Kept (b :: v.ownBlock.toList) w w' → Rd w' pv p) (hl : bs.length + 10 + p.length ≤ 140737488355328) :
    Calls Tryd.prog 77 #[.pointer (some ⟨b, 0, none⟩), pv] w fun e w' => e = .returned (.tuple #[]) ∧ ∃ v', WrAt w' b v' (bs ++ (uv p.length ++ p)) ∧ Grew b v v' w w' := by
  have hr0 := hr w (Kept.refl _ _)
  have hpl : p.length ≤ 140737488355328 := hr0.len
  have HR := hide hr
  clear hr
  obtain ⟨ao, n, c, rfl, rfl, _⟩ := hr0
  have HW := hide hw
  have hul := uv_len p.length (by omega)
  clear hw
  go_enter Tryd.func77, Tryd.ntmps77
  go_wp2_with fail
  refine (wuvar_any b v bs p.length _ (unhide HW) (by omega) (by omega)).mono ?_
  rintro e w1 ⟨rfl, v1, h1, k1⟩
  have HR1 := hide (unhide HR _ k1.kept)
  have HW1 := hide h1
  have HG1 := hide k1
  clear h1 k1
  go_wp2_with fail
  refine (wraw_any b v1 _ _ p _ (unhide HW1) (unhide HR1) (by simp only [List.length_append]; omega)).mono ?_
  rintro e w2 ⟨rfl, v2, h2, k2⟩
  rw [List.append_assoc] at h2
  have HW2 := hide h2
  have HG2 := hide ((unhide HG1).trans k2)
  clear h2 k2
  go_wp2
  go_end0
  exact ⟨rfl, v2, unhide HW2, unhide HG2⟩
end Go.Proofs.YtgnbigijpneebaaDoor
namespace Go.Proofs.YtgnbigijpneebaaDoor
open Go.RowKit
set_option linter.unusedVariables false
set_option maxRecDepth 100000
set_option linter.unusedSimpArgs false

theorem owns_shape {w : World} {base : Nat} {v : Value} {n : Nat} {xs : List Value} (h : w.ownsRow base 5 1 v n xs) : ∃ ao cap, v = .slice ao n cap := by
  rcases h.2 with ⟨rfl, rfl⟩ | ⟨g, cap, cur, rfl, _⟩
  · exact ⟨_, _, rfl⟩
  · exact ⟨_, _, rfl⟩

/-- What owns bytes reads as them. -/
theorem rd_owns {w : World} {base : Nat} {v : Value} {bs : List Nat} (h : w.ownsRow base 5 1 v bs.length (bs.map u8)) (hb : ∀ x ∈ bs, x < 256) (hl : bs.length ≤ 140737488355328) : Rd w v bs := by
  rcases h.2 with ⟨rfl, h0⟩ | ⟨g, cap, cur, rfl, _, hg, hc, hm, hs, ht⟩
  · have : bs = [] := List.eq_nil_of_length_eq_zero h0
    subst this
    exact Rd.nil w
  · refine ⟨_, _, _, rfl, rfl, hc, ⟨by unfold maxLen at hm; omega, hl⟩, by simp, hb, fun _ => ⟨g, 0, rfl, fun i hi => ?_⟩⟩
    have := h.cells (g := g) rfl i (u8 (bs.getD i 0)) (by rw [List.getElem?_map, List.getD_eq_getElem?_getD, List.getElem?_eq_getElem hi]; rfl)
    rw [Addr.add_mid] at this; exact this

/-- All of a slice behind a row that is owned. -/
theorem appendAll (w : World) (base : Nat) (v : Value) (bs p : List Nat) (ao : Option Addr) (n c : Nat) (h : w.ownsRow base 5 1 v bs.length (bs.map u8)) (hr : Rd w (.slice ao n c) p) (hl : bs.length + p.length ≤ 140737488355328) (hb : base ≤ w.heap.size) :
    ∃ ao' cap' w1, (Builtin.append_ #[24, 24] 24 #[v, .slice ao n c]).run Tryd.prog w = .ok (.slice ao' (bs.length + p.length) cap') w1 ∧
      w1.ownsRow base 5 1 (.slice ao' (bs.length + p.length) cap') (bs ++ p).length ((bs ++ p).map u8) ∧ w.grownBy w1 v.ownBlock ∧
      ((Value.slice ao' (bs.length + p.length) cap').ownBlock = v.ownBlock ∨ (Value.slice ao' (bs.length + p.length) cap').ownBlock = some w.heap.size) := by
  obtain ⟨i0, hi, hz0, hz1, hz2⟩ := info_parts Tryd.info5
  obtain ⟨ao1, n1, c1, he, hn, h2, ⟨h3, h3'⟩, h4, h5, h6⟩ := id hr
  cases he
  subst hn
  cases ao with
  | none =>
    have hc0 := h4 rfl
    have hp : p = [] := List.eq_nil_of_length_eq_zero (by omega)
    subst hp
    subst hc0
    have hrun := run_append_owned_none (P := Tryd.prog) (w := w) base 24 24 5 i0 1 Tryd.underlying24 hi v bs.length (bs.map u8) h
    obtain ⟨ao', cap', rfl⟩ := owns_shape h
    exact ⟨ao', cap', w, hrun, by simpa using h, World.grownBy.refl _ _, .inl rfl⟩
  | some ad =>
    have hnews : ∀ j u, (p.map u8)[j]? = some u → w.cell? (ad.add j) = some u := by
      intro j u hj
      by_cases h0 : 0 < (p.map u8).length
      · obtain ⟨ad', e, hc⟩ := hr.src h0
        cases e
        exact hc j u hj
      · have : p.map u8 = [] := List.eq_nil_of_length_eq_zero (by omega)
        rw [this] at hj; simp at hj
    obtain ⟨v', w1, hrun, hown, hgrow, _, hat⟩ := run_append_own_at (P := Tryd.prog) w base 24 24 5 i0 (.int .u8 0) 1 1 Tryd.underlying24 hi hz0 hz1 hz2 rfl (by decide)
      v bs.length (bs.map u8) h ad p.length c (p.map u8) (by simp) hnews (u8_oneCell p) (by unfold maxLen; omega) (by omega) hb
    obtain ⟨ao', cap', rfl⟩ := owns_shape hown
    exact ⟨ao', cap', w1, hrun, by rw [List.length_append, List.map_append]; exact hown, hgrow, hat⟩

theorem wpList_appendAll {ops : Array Oper} {rest : List Oper} {o : Oper} {a : Act} {Q : Exit → Act → World → Prop} (hgd : o.guard = none) (s x : Operand)
    (ho : o.op = .call { callee := .builtin .append, args := #[s, x], argTypes := #[24, 24] }) (hty : o.type = 24)
    (w : World) (base : Nat) (v : Value) (bs p : List Nat) (ao : Option Addr) (n c : Nat) (h : w.ownsRow base 5 1 v bs.length (bs.map u8)) (hr : Rd w (.slice ao n c) p) (hl : bs.length + p.length ≤ 140737488355328) (hb : base ≤ w.heap.size)
    (hs : a.eval s = v) (hx : a.eval x = .slice ao n c)
    (hK : ∀ ao' cap' w1, Hid (w1.ownsRow base 5 1 (.slice ao' (bs.length + p.length) cap') (bs ++ p).length ((bs ++ p).map u8)) → Hid (w.grownBy w1 v.ownBlock) →
      Hid ((Value.slice ao' (bs.length + p.length) cap').ownBlock = v.ownBlock ∨ (Value.slice ao' (bs.length + p.length) cap').ownBlock = some w.heap.size) →
      wpList Tryd.prog ops Q rest (a.put o.dst (.slice ao' (bs.length + p.length) cap')) w1) :
    wpList Tryd.prog ops Q (o :: rest) a w := by
  obtain ⟨ao', cap', w1, hrun, h2, h3, h4⟩ := appendAll w base v bs p ao n c h hr hl hb
  refine wpList_plain hgd fun K hK' => ?_
  unfold Oper.wp execOp
  simp only [ho, hty, resolve, invoke, builtin, Sem.run_bind, Sem.run_pure, Result.andThen_ok, List.map_toArray, List.map_cons, List.map_nil, hs, hx, hrun]
  exact hK' _ _ (hK ao' cap' w1 h2 h3 h4)

set_option maxRecDepth 100000 in
set_option maxHeartbeats 1000000 in
theorem join_any (u v : Value) (p q : List Nat) (w : World) (hu : Rd w u p) (hv : Rd w v q) (hl : p.length + q.length ≤ 140737488355328) :
    Calls Tryd.prog 80 #[u, v] w fun e w' => ∃ lv, e = .returned lv ∧ Rd w' lv (p ++ q) ∧ Kept [] w w' ∧ ∀ x ∈ blk lv, w.heap.size ≤ x := by
  have HU := hide hu
  have HV := hide hv
  obtain ⟨a1, n1, c1, rfl, hn1, _⟩ := hu
  obtain ⟨a2, n2, c2, rfl, hn2, _⟩ := hv
  subst hn1
  subst hn2
  obtain ⟨i0, hi, hz0, hz1, hz2⟩ := info_parts Tryd.info5
  have hmk : ∀ W : World, (Instr.makeSlice 24 (.int .i64 0) (.int .i64 ((p.length : Int) + q.length))).run Tryd.prog W =
      .ok (.slice (some ⟨W.heap.size, 0, none⟩) 0 (p.length + q.length)) (W.alloc (.cells (zeros (p.length + q.length)).toArray 5)) := fun W => by
    have h := run_make (P := Tryd.prog) W 24 5 i0 (.int .u8 0) Tryd.underlying24 hi hz0 .i64 .i64 0 ((p.length : Int) + q.length) (by omega) (by omega) (by rw [hz2]; omega) (by omega)
    have e : ((p.length : Int) + q.length).toNat = p.length + q.length := by omega
    rw [e] at h
    simpa [hz1, Value.cells, madeZeros] using h
  clear hi hz0 hz1 hz2
  have HO := hide (World.ownsRow_made (base := w.heap.size) (e := 5) (size := 1) w (zeros (p.length + q.length)).toArray (p.length + q.length) (Nat.le_refl _) (by unfold maxLen; omega) (by simp [zeros]))
  have HU1 := hide ((unhide HU).old ((Kept.refl [] w).alloc (.cells (zeros (p.length + q.length)).toArray 5)) (by simp))
  go_enter Tryd.func80, Tryd.ntmps80
  go_wp2_with (at_builtin; first
    | (refine wpList_appendAll rfl (.tmp 12) (.tmp 13) rfl rfl _ w.heap.size (.slice (some ⟨w.heap.size, 0, none⟩) 0 (p.length + q.length)) [] p a1 p.length c1 (by exact unhide HO) (by exact unhide HU1) (by simp; omega) (by simp) rfl rfl ?_; intro ao1 cap1 w1 HO1 HG1 HA1; simp only [List.nil_append, List.length_nil, Nat.zero_add] at HO1 HA1; have HK1 := hide (((Kept.refl [] w).alloc _).grown (unhide HG1) (by intro k hk; right; simp [Value.ownBlock] at hk; omega)); have HA1' := hide (show ∀ g, (Value.slice ao1 p.length cap1).ownBlock = some g → w.heap.size ≤ g from fun g hg => ((unhide HO1).lt g hg).1); clear HG1 HA1)
    | (refine wpList_appendAll rfl (.tmp 15) (.tmp 16) rfl rfl _ w.heap.size (.slice ao1 p.length cap1) p q a2 q.length c2 (by exact unhide HO1) (by exact (unhide HV).old (unhide HK1) (by simp)) hl (by have := (unhide HK1).size; omega) (by simp [Act.eval]) (by simp [Act.eval]) ?_; intro ao2 cap2 w2 HO2 HG2 HA2; have HK2 := hide ((unhide HK1).grown (unhide HG2) (by intro k hk; right; exact unhide HA1' k hk)); clear HG2 HA2))
  go_ret
  refine ⟨_, rfl, rd_owns (unhide HO2) (by intro x hx; simp at hx; rcases hx with hx | hx; exact (unhide HU).byte x hx; exact (unhide HV).byte x hx) (by simp; omega), unhide HK2, ?_⟩
  intro x hx
  cases ao2 with
  | none => simp [blk] at hx
  | some a => simp [blk] at hx; subst hx; exact ((unhide HO2).lt a.block rfl).1

end Go.Proofs.YtgnbigijpneebaaDoor
namespace Go.Proofs.YtgnbigijpneebaaDoor
open Go.RowKit
theorem rd_lit {w : World} {g : Nat} {bs : List Nat} {cs : Array Value} (h : w.heap[g]? = some (.cells cs 5 (0, 0))) (hc : cs = (bs.map u8).toArray) (hb : ∀ x ∈ bs, x < 256) (n : Nat) (hn : bs.length = n) (hl : n ≤ 140737488355328) :
    Rd w (.slice (some ⟨g, 0, none⟩) n n) bs := by
  subst hc; subst hn; exact rd_fresh h hb hl
end Go.Proofs.YtgnbigijpneebaaDoor
