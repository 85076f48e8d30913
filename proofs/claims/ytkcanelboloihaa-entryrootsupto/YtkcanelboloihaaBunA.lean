import Derived.WalkKit
import Derived.WalkSpells
import Derived.Deep.AppendLies
import Derived.Laws.CopyOwn
import Derived.Deep.Draws
import Derived.Deep.OwnRows
import Derived.Deep.LoopGhost
import Derived.Deep.QuietTactic
import Derived.BigQuiet
import Derived.Deep.RegionHeld3
import Derived.Deep.DeepMust
import Derived.WalkLawsBesides
import Derived.Deep.DrawnRows
import Derived.Laws.BitsAllLaws
import Derived.Test.YtkcanelboloihaaRows
/-
  What is kept: a world but for a list of blocks; bytes of a row; small facts on lists. No program is named here.
-/
namespace Go.Proofs.Ytkcanelboloihaa
open Go.RowKit

theorem hide {p : Prop} (h : p) : Hid p := h
theorem unhide {p : Prop} (h : Hid p) : p := h

/-- w' is w with new blocks, and with writes to the blocks of L alone. -/
structure Kept (L : List Nat) (w w' : World) : Prop where
  os : w'.os = w.os
  tape : w'.tape = w.tape
  output : w'.output = w.output
  size : w.heap.size ≤ w'.heap.size
  block : ∀ k, k < w.heap.size → k ∉ L → w'.heap[k]? = w.heap[k]?

theorem Kept.refl (L : List Nat) (w : World) : Kept L w w := ⟨rfl, rfl, rfl, Nat.le_refl _, fun _ _ _ => rfl⟩

theorem Kept.trans {L M : List Nat} {a b c : World} (h : Kept L a b) (k : Kept M b c) (hM : ∀ x ∈ M, x ∈ L ∨ a.heap.size ≤ x) : Kept L a c :=
  ⟨k.os.trans h.os, k.tape.trans h.tape, k.output.trans h.output, Nat.le_trans h.size k.size, fun i hi hn =>
    (k.block i (Nat.lt_of_lt_of_le hi h.size) (fun hm => by rcases hM i hm with h1 | h1; exact hn h1; omega)).trans (h.block i hi hn)⟩

theorem Kept.mono {L M : List Nat} {a b : World} (h : Kept L a b) (hM : ∀ x ∈ L, x ∈ M) : Kept M a b :=
  ⟨h.os, h.tape, h.output, h.size, fun i hi hn => h.block i hi (fun x => hn (hM i x))⟩

theorem Kept.drew {L : List Nat} {a w : World} (h : Kept L a w) : Kept L a w.drew := ⟨h.os, h.tape, h.output, h.size, h.block⟩
theorem Kept.drewN {L : List Nat} {a w : World} (h : Kept L a w) (n : Nat) : Kept L a (w.drewN n) := ⟨h.os, h.tape, h.output, h.size, h.block⟩

theorem Kept.alloc {L : List Nat} {a w : World} (h : Kept L a w) (o : Obj) : Kept L a (w.alloc o) :=
  h.trans (M := []) ⟨rfl, rfl, rfl, by simp, fun k hk _ => Below.heap_alloc _ _ _ hk⟩ (by simp)

theorem Kept.setCell {L : List Nat} {a w : World} (h : Kept L a w) {p : Addr} (hp : p.block ∈ L ∨ a.heap.size ≤ p.block) (u : Value) : Kept L a (w.setCell p u) :=
  h.trans (M := [p.block]) ⟨rfl, rfl, rfl, by simp [World.setCell], fun k _ hn => Below.heap_setCell _ _ _ _ (by simpa using hn)⟩ (by simpa using hp)

theorem Kept.grown {L : List Nat} {a w w' : World} {row : Option Nat} (h : Kept L a w) (hg : w.grownBy w' row) (hr : ∀ k, row = some k → k ∈ L ∨ a.heap.size ≤ k) : Kept L a w' :=
  h.trans (M := row.toList) ⟨hg.os, hg.tape, hg.output, hg.size, fun k hk hn => hg.block k hk (fun e => hn (by simp [← e]))⟩ (by
    intro x hx; exact hr x (by simpa using hx))

theorem Kept.ofBelow {B : Nat} {w w' : World} (h : Below B w w') (hB : w.heap.size ≤ B) : Kept [] w w' :=
  ⟨h.os, h.tape, h.output, h.size, fun k hk _ => h.block k (Nat.lt_of_lt_of_le hk hB)⟩

theorem Kept.below {L : List Nat} {B : Nat} {w w' : World} (h : Kept L w w') (hB : B ≤ w.heap.size) (hL : ∀ k ∈ L, B ≤ k) : Below B w w' :=
  ⟨h.os, h.tape, h.output, h.size, fun k hk => h.block k (Nat.lt_of_lt_of_le hk hB) (fun hm => by have := hL k hm; omega)⟩

theorem Kept.cell {L : List Nat} {w w' : World} (h : Kept L w w') {a : Addr} {v : Value} (hc : w.cell? a = some v) (hn : a.block ∉ L) : w'.cell? a = some v :=
  (World.cell?_of_block (h.block a.block (block_lt_of_cell hc) hn)).trans hc

theorem Kept.heap {L : List Nat} {w w' : World} (h : Kept L w w') {b : Nat} {o : Obj} (hc : w.heap[b]? = some o) (hn : b ∉ L) : w'.heap[b]? = some o :=
  (h.block b (lt_of_block hc) hn).trans hc

theorem Kept.owns {L : List Nat} {w w' : World} (h : Kept L w w') {base : Nat} {e : TypeId} {size : Nat} {v : Value} {n : Nat} {xs : List Value} (ho : w.ownsRow base e size v n xs)
    (hn : ∀ k, v.ownBlock = some k → k ∉ L) : w'.ownsRow base e size v n xs := by
  obtain ⟨h1, h2⟩ := ho
  refine ⟨h1, ?_⟩
  rcases h2 with h2 | ⟨g, cap, cur, hv, hg, hh, r⟩
  · exact Or.inl h2
  · exact Or.inr ⟨g, cap, cur, hv, hg, h.heap hh (hn g (by rw [hv]; rfl)), r⟩

/-- A byte as a value. -/
abbrev u8 (n : Nat) : Value := .int .u8 (n : Int)

/-- The slice value v reads as the bytes bs. -/
def Rd (w : World) (v : Value) (bs : List Nat) : Prop :=
  ∃ (ao : Option Addr) (len cap : Nat), v = .slice ao len cap ∧ bs.length = len ∧ len ≤ cap ∧ (cap ≤ 9223372036854775807 ∧ len ≤ 140737488355328) ∧ (ao = none → cap = 0) ∧
    (∀ x ∈ bs, x < 256) ∧ (0 < len → ∃ b off, ao = some ⟨b, off, none⟩ ∧ ∀ i, i < len → w.cell? ⟨b, off + i, none⟩ = some (u8 (bs.getD i 0)))

/-- The blocks in which a slice value's cells lie. -/
def blk : Value → List Nat
  | .slice (some a) _ _ => [a.block]
  | _ => []

theorem Rd.kept {L : List Nat} {w w' : World} {v : Value} {bs : List Nat} (h : Rd w v bs) (k : Kept L w w') (hn : ∀ x ∈ blk v, x ∉ L) : Rd w' v bs := by
  obtain ⟨ao, len, cap, rfl, h1, h2, h3, h4, h5, h6⟩ := h
  refine ⟨ao, len, cap, rfl, h1, h2, h3, h4, h5, fun hp => ?_⟩
  obtain ⟨b, off, rfl, hc⟩ := h6 hp
  exact ⟨b, off, rfl, fun i hi => k.cell (hc i hi) (hn b (by simp [blk]))⟩

/-- What was there at w0 reads as it did where new blocks alone have turned. -/
theorem Rd.old {L : List Nat} {w0 w : World} {v : Value} {bs : List Nat} (h : Rd w0 v bs) (k : Kept L w0 w) (hL : ∀ x ∈ L, w0.heap.size ≤ x) : Rd w v bs := by
  obtain ⟨ao, len, cap, rfl, h1, h2, h3, h4, h5, h6⟩ := h
  refine ⟨ao, len, cap, rfl, h1, h2, h3, h4, h5, fun hp => ?_⟩
  obtain ⟨b, off, rfl, hc⟩ := h6 hp
  exact ⟨b, off, rfl, fun i hi => k.cell (hc i hi) (fun hm => by have h7 := block_lt_of_cell (hc i hi); have h8 := hL b hm; simp at h7; omega)⟩

theorem Rd.nil (w : World) : Rd w (.slice none 0 0) [] := ⟨none, 0, 0, rfl, rfl, Nat.le_refl _, ⟨by omega, by omega⟩, fun _ => rfl, by simp, fun h => by omega⟩

end Go.Proofs.Ytkcanelboloihaa
/-
  Plain reckoning: numbers in groups of seven bits, numbers in bytes. No program, no model.
-/
namespace Go.Proofs.Ytkcanelboloihaa

/-- v in groups of seven bits, the lowest first. -/
def uv (v : Nat) : List Nat := if _h : v < 128 then [v] else (v % 128 + 128) :: uv (v / 128)

theorem uv_lt {v : Nat} (h : v < 128) : uv v = [v] := by rw [uv, dif_pos h]
theorem uv_ge {v : Nat} (h : 128 ≤ v) : uv v = (v % 128 + 128) :: uv (v / 128) := by rw [uv, dif_neg (by omega)]
theorem uv_pos (v : Nat) : 0 < (uv v).length := by rw [uv]; split <;> simp
theorem uv_byte (v : Nat) : ∀ x ∈ uv v, x < 256 := by
  induction v using uv.induct with
  | case1 v h => rw [uv_lt h]; simp; omega
  | case2 v h ih => rw [uv_ge (by omega)]; intro x hx; simp at hx; rcases hx with rfl | hx; omega; exact ih x hx

/-- One group more for each 128. -/
theorem uv_len_le (k : Nat) : ∀ v, v < 128 ^ (k + 1) → (uv v).length ≤ k + 1 := by
  induction k with
  | zero => intro v h; rw [uv_lt (by simpa using h)]; simp
  | succ k ih =>
    intro v h
    by_cases hv : v < 128
    · rw [uv_lt hv]; simp
    · rw [uv_ge (by omega)]
      have := ih (v / 128) (by rw [Nat.div_lt_iff_lt_mul (by omega)]; rw [Nat.pow_succ] at h; exact h)
      simp; omega
theorem uv_len (v : Nat) (h : v < 18446744073709551616) : (uv v).length ≤ 10 := uv_len_le 9 v (by omega)

/-- The byte at place i. -/
theorem uv_at (v : Nat) : ∀ i, i < (uv v).length → (uv v).getD i 0 = v / 128 ^ i % 128 + if i + 1 < (uv v).length then 128 else 0 := by
  induction v using uv.induct with
  | case1 v h => intro i hi; rw [uv_lt h] at hi ⊢; simp at hi; subst hi; simp; omega
  | case2 v h ih =>
    intro i hi
    rw [uv_ge (by omega)] at hi ⊢
    cases i with
    | zero => have := uv_pos (v / 128); rw [if_pos (by simp only [List.length_cons]; omega)]; simp
    | succ i =>
      simp only [List.length_cons] at hi
      have := ih i (by omega)
      simp only [List.getD_cons_succ, List.length_cons]
      rw [this, Nat.pow_succ, Nat.mul_comm, ← Nat.div_div_eq_div_mul]
      by_cases h1 : i + 1 < (uv (v / 128)).length
      · rw [if_pos h1, if_pos (by omega)]
      · rw [if_neg h1, if_neg (by omega)]

/-- Behind the last group nothing is left; the last group of several is not 0. -/
theorem uv_end (v : Nat) : v / 128 ^ (uv v).length = 0 := by
  induction v using uv.induct with
  | case1 v h => rw [uv_lt h]; simp; omega
  | case2 v h ih =>
    rw [uv_ge (by omega)]
    simp only [List.length_cons]
    rw [Nat.pow_succ, Nat.mul_comm, ← Nat.div_div_eq_div_mul]; exact ih
theorem uv_last (v : Nat) (h : 1 < (uv v).length) : 0 < v / 128 ^ ((uv v).length - 1) := by
  induction v using uv.induct with
  | case1 v h1 => rw [uv_lt h1] at h; simp at h
  | case2 v h1 ih =>
    rw [uv_ge (by omega)] at h ⊢
    simp only [List.length_cons, Nat.add_sub_cancel] at h ⊢
    by_cases h2 : 1 < (uv (v / 128)).length
    · have := ih h2
      have hp := uv_pos (v / 128)
      obtain ⟨k, hk⟩ : ∃ k, (uv (v / 128)).length = k + 1 := ⟨(uv (v / 128)).length - 1, by omega⟩
      rw [hk] at this ⊢
      simp only [Nat.add_sub_cancel] at this
      rw [Nat.pow_succ, Nat.mul_comm, ← Nat.div_div_eq_div_mul]; exact this
    · have hp := uv_pos (v / 128)
      have e : (uv (v / 128)).length = 1 := by omega
      rw [e]; simp; omega

/-- How many groups. -/
theorem uv_count {v k : Nat} (h : 0 < v / 128 ^ k) : k < (uv v).length := by
  rcases Nat.lt_or_ge k (uv v).length with h1 | h1
  · exact h1
  · exfalso
    have e := uv_end v
    have : v / 128 ^ k = 0 := by
      rw [show k = (uv v).length + (k - (uv v).length) from by omega, Nat.pow_add, ← Nat.div_div_eq_div_mul, e]; simp
    omega

/-- The program's byte(v) | 128. -/
theorem nat_or128 (a : Nat) (h : a < 256) : a ||| 128 = a % 128 + 128 := by
  rcases Nat.lt_or_ge a 128 with h1 | h1
  · rw [Nat.or_comm, nat_join 7 128 a (by decide) h1, Nat.mod_eq_of_lt h1, Nat.add_comm]
  · obtain ⟨c, rfl⟩ : ∃ c, a = 128 + c := ⟨a - 128, by omega⟩
    have hc : c < 128 := by omega
    have e : 128 + c = 128 ||| c := (nat_join 7 128 c (by decide) hc).symm
    rw [e, Nat.or_assoc, Nat.or_comm c 128, ← Nat.or_assoc, Nat.or_self, ← e]; omega
theorem or128 (x : Int) (h0 : 0 ≤ x) (h1 : x < 256) : bits .or .u8 x 128 = x % 128 + 128 := by
  obtain ⟨a, rfl⟩ := Int.eq_ofNat_of_zero_le h0
  rw [show (128 : Int) = ((128 : Nat) : Int) from rfl, u8_or_nat a 128 (by omega) (by omega), nat_or128 a (by omega)]; omega

/-- The size lowest bytes of v, the highest first. -/
def wide (v : Nat) : Nat → List Nat
  | 0 => []
  | k + 1 => (v / 256 ^ k % 256) :: wide v k

theorem wide_len (v k : Nat) : (wide v k).length = k := by induction k with | zero => rfl | succ k ih => simp [wide, ih]
theorem wide_byte (v k : Nat) : ∀ x ∈ wide v k, x < 256 := by
  induction k with
  | zero => simp [wide]
  | succ k ih => intro x hx; simp only [wide, List.mem_cons] at hx; rcases hx with rfl | hx; exact Nat.mod_lt _ (by omega); exact ih x hx

end Go.Proofs.Ytkcanelboloihaa
/-
  Closed facts of the program: the byte type's row of the table.
-/
namespace Go.Proofs.Ytkcanelboloihaa
open Go.RowKit
theorem Try.info5 : (Try.prog.info? 5).map (fun i => (i.zero, i.size, i.bytes)) = some (some (.int .u8 0), 1, 1) := by kernel_rfl
theorem Try.size5 : (Try.prog.info? 5).map (·.size) = some 1 := by kernel_rfl
end Go.Proofs.Ytkcanelboloihaa
namespace Go.Proofs.Ytkcanelboloihaa
open Go.RowKit

/-- What 'make' lays, under a name. -/
def zeros (n : Nat) : List Value := List.replicate n (.int .u8 0)
theorem madeZeros (n : Nat) : madeCells #[(.int .u8 0 : Value)] n = (zeros n).toArray := by
  apply Array.toList_inj.1; rw [toList_madeCells_one]; rfl
theorem u8_oneCell (bs : List Nat) : ∀ v ∈ bs.map u8, v.oneCell' = true := by
  intro v hv; obtain ⟨x, _, rfl⟩ := List.mem_map.1 hv; rfl
theorem Rd.src {w : World} {ao : Option Addr} {len cap : Nat} {bs : List Nat} (h : Rd w (.slice ao len cap) bs) (hp : 0 < (bs.map u8).length) :
    ∃ ad, ao = some ad ∧ ∀ j v, (bs.map u8)[j]? = some v → w.cell? (ad.add j) = some v := by
  obtain ⟨ao', len', cap', he, rfl, h2, h3, h4, h5, h6⟩ := h
  cases he
  obtain ⟨b, off, rfl, hc⟩ := h6 (by simpa using hp)
  refine ⟨_, rfl, fun j v hj => ?_⟩
  rw [List.getElem?_map] at hj
  obtain ⟨x, hx, rfl⟩ := Option.map_eq_some_iff.1 hj
  have hlt : j < bs.length := by
    rcases Nat.lt_or_ge j bs.length with h | h
    · exact h
    · rw [List.getElem?_eq_none h] at hx; cases hx
  rw [Addr.add_mid, hc j hlt, List.getD_eq_getElem?_getD, hx]; rfl

/-- 'copy' of all of a slice over the head of a row that is known whole. -/
theorem run_copy_head {P : Program} (dT sT ty elem : TypeId) (hu : P.underlying dT = some (.slice elem)) (hsz : (P.info? elem).map (·.size) = some 1)
    (w : World) (g dLen dCap sCap : Nat) (sp : Option Addr) (bs : List Nat) (cur : List Value) (t : TypeId) (hg : w.heap[g]? = some (.cells cur.toArray t (0, 0)))
    (hs : Rd w (.slice sp bs.length sCap) bs) (hd : bs.length ≤ dLen) (hfit : bs.length ≤ cur.length) :
    ∃ w2, (Builtin.copy_ #[dT, sT] ty #[.slice (some ⟨g, 0, none⟩) dLen dCap, .slice sp bs.length sCap]).run P w = .ok (goInt bs.length) w2 ∧
      w2.heap[g]? = some (.cells (bs.map u8 ++ cur.drop bs.length).toArray t (0, 0)) ∧ Kept [g] w w2 := by
  by_cases h0 : bs = []
  · subst h0
    exact ⟨w, run_copy_none (P := P) w dT sT ty elem _ sp dLen dCap 0 sCap hu hsz (by simp), by simpa using hg, Kept.refl _ _⟩
  · have hp : 0 < (bs.map u8).length := by rw [List.length_map]; exact List.length_pos_iff.2 h0
    obtain ⟨ad, rfl, hc⟩ := hs.src hp
    have hr := run_copy_row (P := P) w dT sT ty elem g 0 dLen dCap ad bs.length sCap cur.toArray t (bs.map u8) hu hsz hg (by rw [List.length_map]; exact (Nat.min_eq_left hd).symm) hc (by simpa using hfit) (u8_oneCell bs)
    refine ⟨_, by simpa using hr, ?_, ?_⟩
    · exact setRow_heap w g _ _ t _ hg
    · exact ⟨rfl, rfl, rfl, by simp [World.setRow], fun k _ hn => setRow_other w g k _ (by simpa using hn)⟩

/-- A row that was just made reads as its bytes. -/
theorem rd_fresh {w : World} {g : Nat} {bs : List Nat} (h : w.heap[g]? = some (.cells (bs.map u8).toArray 5 (0, 0))) (hb : ∀ x ∈ bs, x < 256) (hl : bs.length ≤ 140737488355328) :
    Rd w (.slice (some ⟨g, 0, none⟩) bs.length bs.length) bs := by
  refine ⟨_, _, _, rfl, rfl, Nat.le_refl _, ⟨by omega, hl⟩, by simp, hb, fun _ => ⟨g, 0, rfl, fun i hi => ?_⟩⟩
  rw [cell_of_row w g (0 + i) _ 5 (0, 0) h]
  simp [List.getD_eq_getElem?_getD, List.getElem?_eq_getElem hi]

set_option maxHeartbeats 400000 in
theorem cloned_any (v : Value) (bs : List Nat) (w : World) (h : Rd w v bs) :
    Calls Try.prog 98 #[v] w fun e w' => e = .returned (.slice (some ⟨w.heap.size, 0, none⟩) bs.length bs.length) ∧ Kept [] w w' ∧
      w'.heap[w.heap.size]? = some (.cells (bs.map u8).toArray 5 (0, 0)) := by
  have hk : Rd (w.alloc (.cells (zeros bs.length).toArray 5)) v bs := h.kept ((Kept.refl [] w).alloc _) (by simp)
  obtain ⟨ao, len, cap, rfl, rfl, h2, ⟨h3, h3'⟩, h4, h5, h6⟩ := h
  have hmk := run_make_row' (P := Try.prog) 24 5 (.int .u8 0) 1 Try.underlying24 Try.info5 rfl .i64 .i64 bs.length (by omega) (by omega)
  simp only [madeZeros] at hmk
  obtain ⟨w2, hrun, hg, hw⟩ := run_copy_head 24 24 3 5 Try.underlying24 Try.size5 _ w.heap.size bs.length bs.length cap ao bs (zeros bs.length) 5 (heap_alloc_new w _) hk (Nat.le_refl _) (by simp [zeros])
  have HG := hide hg
  have HW := hide hw
  clear hg hw hk h6
  go_enter Try.func98, Try.ntmps98
  go_wp2
  go_ret
  refine ⟨rfl, ((Kept.refl [] w).alloc _).trans (unhide HW) (by simp), ?_⟩
  rw [unhide HG]; simp [zeros]
end Go.Proofs.Ytkcanelboloihaa
namespace Go.Proofs.Ytkcanelboloihaa
open Go.RowKit
set_option linter.unusedVariables false
set_option linter.unusedSimpArgs false

theorem take_succ_eq {p q : List Nat} {k : Nat} (h : p.take k = q.take k) (hp : k < p.length) (hq : k < q.length) (e : p.getD k 0 = q.getD k 0) : p.take (k + 1) = q.take (k + 1) := by
  rw [List.take_succ_eq_append_getElem hp, List.take_succ_eq_append_getElem hq, h]
  rw [List.getD_eq_getElem?_getD, List.getD_eq_getElem?_getD, List.getElem?_eq_getElem hp, List.getElem?_eq_getElem hq] at e
  simp only [Option.getD_some] at e
  rw [e]
theorem drewN_drewN (w : World) (n m : Nat) : (w.drewN n).drewN m = w.drewN (n + m) := by simp [World.drewN, Nat.add_assoc]
theorem ne_of_getD {p q : List Nat} {k : Nat} (e : p.getD k 0 ≠ q.getD k 0) : p ≠ q := fun h => e (by rw [h])

set_option maxRecDepth 100000 in
set_option maxHeartbeats 1000000 in
theorem same_any (u v : Value) (p q : List Nat) (w : World) (hu : Rd w u p) (hv : Rd w v q) :
    Calls Try.prog 12 #[u, v] w fun e w' => e = .returned (.bool (decide (p = q))) ∧ ∃ n, w' = w.drewN n := by
  obtain ⟨ao, len, cap, rfl, rfl, h2, ⟨h3, h3'⟩, h4, h5, h6⟩ := hu
  obtain ⟨ao', len', cap', rfl, rfl, g2, ⟨g3, g3'⟩, g4, g5, g6⟩ := hv
  have H6 := hide h6
  have G6 := hide g6
  clear h6 g6 h4 g4 h5 g5
  by_cases hl : p.length = q.length
  · have hl' : ((p.length : Int) != q.length) = false := by simp [hl]
    have Hl := hide hl
    clear hl
    go_enter Try.func12, Try.ntmps12
    go_wp2_with fail
    go_loopw [5, 13] (fun t i wr => ∃ k : Nat, k ≤ p.length ∧ i = .int .i64 k ∧ Hid (p.take k = q.take k) ∧ ∃ n, wr = w.drewN n) (fun _ i _ => p.length - (intOf i).toNat)
    case atStart => exact ⟨0, Nat.zero_le _, rfl, (by show _ = _; simp), 0, rfl⟩
    case round =>
      obtain ⟨k, hk, rfl, Ht, n, rfl⟩ := hrel
      by_cases hlt : k < p.length
      · obtain ⟨ba, oa, rfl, ha⟩ := unhide H6 (by omega)
        obtain ⟨bb, ob, rfl, hb⟩ := unhide G6 (by have := unhide Hl; omega)
        have ca := ha k hlt
        have cb := hb k (by have := unhide Hl; omega)
        have hq : (k : Int) < (q.length : Int) := by have := unhide Hl; omega
        have hp : (k : Int) < (p.length : Int) := by omega
        clear ha hb
        by_cases e : p.getD k 0 = q.getD k 0
        · have Hn := hide (take_succ_eq (unhide Ht) hlt (by have := unhide Hl; omega) e)
          rw [← e] at cb
          obtain ⟨x, hx⟩ : ∃ x, x = p.getD k 0 := ⟨_, rfl⟩
          rw [← hx] at ca cb
          clear e hx
          go_wp2_with fail
          go_quiet (fail)
          go_wp2
          go_roundw
          case rel => exact ⟨k + 1, by omega, by go_num, Hn, _, rfl⟩
          case measure => simp [intOf]; omega
        · have Hn := hide (ne_of_getD e)
          have hne : ((p.getD k 0 : Int) != (q.getD k 0 : Int)) = true := by rw [bne_iff_ne]; omega
          obtain ⟨x, hx⟩ : ∃ x, x = p.getD k 0 := ⟨_, rfl⟩
          obtain ⟨y, hy⟩ : ∃ y, y = q.getD k 0 := ⟨_, rfl⟩
          rw [← hx] at ca hne
          rw [← hy] at cb hne
          clear e hx hy
          go_wp2_with fail
          go_quiet (fail)
          go_wp2
          go_ret
          exact ⟨by simp [unhide Hn], _, drewN_drewN _ _ _⟩
      · go_wp2
        go_ret
        have e : p = q := by
          have h1 := unhide Ht
          have h2 := unhide Hl
          rwa [List.take_of_length_le (by omega), List.take_of_length_le (by omega)] at h1
        exact ⟨by simp [e], _, rfl⟩
  · have hl' : ((p.length : Int) != q.length) = true := by rw [bne_iff_ne]; omega
    have Hl := hide hl
    clear hl
    go_enter Try.func12, Try.ntmps12
    go_wp2
    go_ret
    exact ⟨by simp; intro h; exact unhide Hl (by rw [h]), 0, rfl⟩
end Go.Proofs.Ytkcanelboloihaa
