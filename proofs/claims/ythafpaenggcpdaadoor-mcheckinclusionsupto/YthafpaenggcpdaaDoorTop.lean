import Derived.Test.YthafpaenggcpdaaDoorDChk
import Derived.Lib.Strings
import Derived.Lib.Slices
import Derived.Lib.Small
import Derived.Lib.Walk
import Derived.Lib.BitFns
import Derived.Deep.Light
import Derived.Test.YthafpaenggcpdaaDoorQKeep
import Derived.Deep.MidRow
import Derived.Deep.RegionHeld3
import Derived.Test.YthafpaenggcpdaaDoorBase
import Derived.Test.YthafpaenggcpdaaDoorCards
import Derived.Test.YthafpaenggcpdaaDoorTie
import Derived.ProofKit
import Derived.OpenShut
import Derived.Deep.Slices
import Derived.SizedLaws
import Derived.Test.YthafpaenggcpdaaDoorRowz

namespace Go.Proofs.YthafpaenggcpdaaDoor
open Go.RowKit Go.BigFrame
set_option linter.unusedVariables false
set_option linter.unusedSimpArgs false

def sunD (e : Nat) (z : Int) (p : List Nat) : List Nat := if e = 0 then sumD z p else List.replicate 32 0
def sunE (e : Nat) (z : Int) : Nat := if e = 0 then sumE z else e
theorem sunD_len (e : Nat) (z : Int) (p : List Nat) : (sunD e z p).length = 32 := by
  unfold sunD; split
  · exact sumD_len _ _
  · simp

set_option maxRecDepth 100000 in
set_option maxHeartbeats 1000000 in
theorem sumUnless_any (f : Nat) (z : Int) (v : Value) (p : List Nat) (w : World) (hz : -9223372036854775808 ≤ z ∧ z ≤ 9223372036854775807) (h : Rd w v p) (hT : Tabs w) :
    Calls Tryd.prog 72 #[.int .i64 f, .int .i64 z, v] w fun e w' => e = .returned (.tuple #[.agg (brow (sunD f z p)), .int .i64 (sunE f z)]) ∧ Kept [] w w' := by
  have H := hide h
  obtain ⟨a0, m0, c0, hu0, hm0, _⟩ := id h
  subst hu0
  subst hm0
  have HT := hide hT
  clear h hT
  have hcl := sunD_len f z p
  obtain ⟨D, hD⟩ : ∃ D, sunD f z p = D := ⟨_, rfl⟩
  have HD := hide hD
  rw [hD] at hcl ⊢
  clear hD
  obtain ⟨E, hE⟩ : ∃ E, sunE f z = E := ⟨_, rfl⟩
  have HE := hide hE
  rw [hE]
  clear hE
  have HL := hide (unhide H).len
  go_enter Tryd.func72, Tryd.ntmps72
  by_cases hf : f = 0
  · have hb : ((f : Int) != 0) = false := by rw [hf]; rfl
    have HD2 := hide (by rw [← unhide HD]; unfold sunD; rw [if_pos hf] : D = sumD z p)
    have HE2 := hide (by rw [← unhide HE]; unfold sunE; rw [if_pos hf] : E = sumE z)
    have HF := hide hf
    clear hf
    go_wp2_with fail
    rw [zb32]
    refine Calls.mono (dsum_all z _ [p] _ hz (RdL.one (alloc_at _ _ _) ((unhide H).old (((Kept.refl [] w).alloc _).alloc _) (by simp))) (by have h9 := unhide HL; simpa using h9) ((unhide HT).k (((Kept.refl [] w).alloc _).alloc _))) ?_
    rintro e w2 ⟨rfl, k2⟩
    rw [show ([p] : List (List Nat)).flatten = p by simp, ← unhide HD2, ← unhide HE2]
    have HZ2 := hide (k2.heap (((Kept.refl [] (w.alloc (.cells (zb 32) 23))).alloc (.cells #[.slice a0 p.length c0] 103)).heap (heap_alloc_new w (.cells (zb 32) 23)) (by simp)) (by simp))
    have HK2 := hide ((((Kept.refl [] w).alloc _).alloc _).trans k2 (by simp))
    clear k2
    go_wp2_with (refine wpList_store_row rfl 23 _ _ rfl w.heap.size (brow D) rfl rfl _ (zb 32) (unhide HZ2) (by rw [brow_size, hcl]; exact Tryd.size_dig) (by rw [zb_size, brow_size, hcl]) (brow_one _) ?_)
    refine bodyPost_ret (v := .tuple #[.agg (brow D), .int .i64 E]) ?_ rfl ⟨rfl, (unhide HK2).setRow (by simp) _⟩
    exact results_cell_tmp rfl _ _ w.heap.size _ (brow D) (0, 0) _ rfl (setRow_heap _ _ _ _ _ _ (unhide HZ2)) Tryd.underlying23 rfl (by rw [brow_size, hcl]; exact Tryd.size_dig) _ rfl
  · have hb : ((f : Int) != 0) = true := by rw [bne_iff_ne]; omega
    have HD2 := hide (by rw [← unhide HD]; unfold sunD; rw [if_neg hf] : D = List.replicate 32 0)
    have HE2 := hide (by rw [← unhide HE]; unfold sunE; rw [if_neg hf] : E = f)
    have HF := hide hf
    clear hf
    go_wp2_with (rw [zb32]; refine wpList_store_row rfl 23 _ _ rfl w.heap.size (zb 32) rfl rfl _ (zb 32) (heap_alloc_new _ _) (by rw [zb_size]; exact Tryd.size_dig) rfl (brow_one _) ?_)
    rw [unhide HD2, unhide HE2]
    refine bodyPost_ret (v := .tuple #[.agg (zb 32), .int .i64 f]) ?_ rfl ⟨rfl, ((Kept.refl [] w).alloc _).setRow (by simp) _⟩
    exact results_cell_tmp rfl _ _ w.heap.size _ (zb 32) (0, 0) _ rfl (setRow_heap _ _ _ _ _ _ (heap_alloc_new _ _)) Tryd.underlying23 rfl (by rw [zb_size]; exact Tryd.size_dig) _ rfl
end Go.Proofs.YthafpaenggcpdaaDoor
namespace Go.Proofs.YthafpaenggcpdaaDoor
open Go.RowKit Go.BigFrame
set_option linter.unusedVariables false
set_option linter.unusedSimpArgs false

end Go.Proofs.YthafpaenggcpdaaDoor
namespace Go.Proofs.YthafpaenggcpdaaDoor
open Go.RowKit Go.BigFrame
set_option linter.unusedVariables false
set_option linter.unusedSimpArgs false

set_option maxRecDepth 100000 in
set_option maxHeartbeats 1000000 in
theorem node_all (z : Int) (l m : List Nat) (w : World) (hz : -9223372036854775808 ≤ z ∧ z ≤ 9223372036854775807) (hl : l.length = 32) (hm : m.length = 32) (hlb : ∀ x ∈ l, x < 256) (hmb : ∀ x ∈ m, x < 256) (hT : Tabs w) :
    Calls Tryd.prog 64 #[.int .i64 z, .agg (brow l), .agg (brow m)] w fun e w' => e = .returned (.tuple #[.agg (brow (sunD (formedE z [l, m]) z (nodeB z l m))), .int .i64 (sunE (formedE z [l, m]) z)]) ∧ Kept [] w w' := by
  have HT := hide hT
  have HB := hide hlb
  have HB2 := hide hmb
  clear hT hlb hmb
  have hcl := sunD_len (formedE z [l, m]) z (nodeB z l m)
  have HX := hide (by unfold sunD; by_cases h9 : formedE z [l, m] = 0; rw [if_pos h9, if_pos h9, if_pos h9]; rw [if_neg h9, if_neg h9] : sunD (formedE z [l, m]) z (if formedE z [l, m] = 0 then nodeB z l m else []) = sunD (formedE z [l, m]) z (nodeB z l m))
  obtain ⟨f, hf⟩ : ∃ f, formedE z [l, m] = f := ⟨_, rfl⟩
  have HF := hide hf
  rw [hf] at hcl HX ⊢
  clear hf
  obtain ⟨D, hD⟩ : ∃ D, sunD f z (nodeB z l m) = D := ⟨_, rfl⟩
  have HD := hide hD
  rw [hD] at hcl HX ⊢
  clear hD
  obtain ⟨E, hE⟩ : ∃ E, sunE f z = E := ⟨_, rfl⟩
  have HE := hide hE
  rw [hE]
  clear hE
  go_enter Tryd.func64, Tryd.ntmps64
  have HK0 := hide ((((Kept.refl [] w).alloc (.cells (brow l) 23)).alloc (.cells (brow m) 23)).alloc (.cells (zb 32) 23))
  have HGZ := hide (alloc3_at w (.cells (brow l) 23) (.cells (brow m) 23) (.cells (zb 32) 23))
  have HGM := hide (((Kept.refl [] ((w.alloc (.cells (brow l) 23)).alloc (.cells (brow m) 23))).alloc (.cells (zb 32) 23)).heap (alloc_at w (.cells (brow l) 23) (.cells (brow m) 23)) (by simp))
  have HGL := hide ((((Kept.refl [] (w.alloc (.cells (brow l) 23))).alloc (.cells (brow m) 23)).alloc (.cells (zb 32) 23)).heap (heap_alloc_new w (.cells (brow l) 23)) (by simp))
  have HSL := hide (by rw [List.length_map, hl]; exact Tryd.size_dig : (Tryd.prog.info? 23).map (·.size) = some (l.map u8).length)
  have HSM := hide (by rw [List.length_map, hm]; exact Tryd.size_dig : (Tryd.prog.info? 23).map (·.size) = some (m.map u8).length)
  go_wp2_with (first
    | (refine wpList_load_mid rfl 23 _ rfl w.heap.size 0 rfl (l.map u8) _ (range_row (unhide HGL)) Tryd.underlying23 rfl (unhide HSL) ?_)
    | (refine wpList_load_mid rfl 23 _ rfl (w.heap.size + 1) 0 rfl (m.map u8) _ (range_row (unhide HGM)) Tryd.underlying23 rfl (unhide HSM) ?_))
  refine Calls.mono (nodeInput_any z l m _ hz hl hm (unhide HB) (unhide HB2)) ?_
  rintro e w1 ⟨v1, rfl, n1, k1⟩
  rw [unhide HF] at n1 ⊢
  have HR1 := hide n1.1
  obtain ⟨a1, m1, c1, hu1, hm1, _⟩ := id n1.1
  subst hu1
  have HZ1 := hide (k1.heap (unhide HGZ) (by simp))
  have HK1 := hide ((unhide HK0).trans k1 (by simp))
  clear n1 k1 hm1 HGL HGM
  go_wp2_with fail
  refine Calls.mono (sumUnless_any f z _ _ w1 hz (unhide HR1) ((unhide HT).k (unhide HK1))) ?_
  rintro e w2 ⟨rfl, k2⟩
  rw [unhide HX, unhide HE]
  have HZ2 := hide (k2.heap (unhide HZ1) (by simp))
  have HK2 := hide ((unhide HK1).trans k2 (by simp))
  clear k2
  go_wp2_with (refine wpList_store_row rfl 23 _ _ rfl (w.heap.size + 1 + 1) (brow D) rfl rfl _ (zb 32) (unhide HZ2) (by rw [brow_size, hcl]; exact Tryd.size_dig) (by rw [zb_size, brow_size, hcl]) (brow_one _) ?_)
  refine bodyPost_ret (v := .tuple #[.agg (brow D), .int .i64 E]) ?_ rfl ⟨rfl, (unhide HK2).setRow (by simp; omega) _⟩
  exact results_cell_tmp rfl _ _ (w.heap.size + 1 + 1) _ (brow D) (0, 0) _ rfl (setRow_heap _ _ _ _ _ _ (unhide HZ2)) Tryd.underlying23 rfl (by rw [brow_size, hcl]; exact Tryd.size_dig) _ rfl

end Go.Proofs.YthafpaenggcpdaaDoor
namespace Go.Proofs.YthafpaenggcpdaaDoor
open Go.RowKit Go.BigFrame
set_option linter.unusedVariables false
set_option linter.unusedSimpArgs false

/-- The greatest power of two below n. -/
def spl (n : Nat) : Nat := 2 ^ (n - 1).log2
theorem spl_lt {n : Nat} (h : 2 ≤ n) : spl n < n := by
  have := Nat.log2_self_le (n := n - 1) (by omega)
  unfold spl; omega
theorem spl_pos (n : Nat) : 1 ≤ spl n := Nat.one_le_two_pow
theorem spl_two {n : Nat} (h : 2 ≤ n) : n ≤ 2 * spl n := by
  have h1 := Nat.lt_log2_self (n := n - 1)
  unfold spl
  rw [Nat.pow_succ] at h1
  omega
/-- A digest's row. -/
def Dg (d : List Nat) : Prop := d.length = 32 ∧ ∀ x ∈ d, x < 256
def zD : List Nat := List.replicate 32 0
theorem zD_dg : Dg zD := ⟨by simp [zD], fun x hx => by simp [zD] at hx; omega⟩
def nodS (z : Int) (l r : List Nat) : List Nat := sumD z (nodeB z l r)
theorem nodS_dg (z : Int) (l r : List Nat) : Dg (nodS z l r) := by
  refine ⟨sumD_len _ _, ?_⟩
  unfold nodS sumD
  split
  · exact cutL_byte _ _ (hash_byte _)
  · intro x hx; simp at hx; omega
theorem cutL_cutL (k : Nat) (d : List Nat) (hk : k ≤ d.length) : cutL k (cutL k d) = cutL k d := by
  unfold cutL
  rw [List.take_append_of_le_length (by simp; omega), List.take_take, Nat.min_self]
theorem nodS_form {z : Int} (hw : widthB z = true) (l r : List Nat) : formB z (nodS z l r) = true := by
  have hz : 1 ≤ z ∧ z ≤ 32 := by simpa [widthB] using hw
  unfold formB nodS sumD
  simp only [hw, if_true, Bool.true_and, decide_eq_true_eq]
  exact cutL_cutL _ _ (by rw [hash_len]; omega)
/-- The root to which a proof leads, the proof turned round: its last digest first. -/
def clD (z : Int) (leaf : List Nat) : List (List Nat) → Nat → Nat → Option (List Nat)
  | [], _, n => if n = 1 then some leaf else none
  | d :: rest, i, n => if n = 1 then none else if i < spl n then (clD z leaf rest i (spl n)).map (fun x => nodS z x d) else (clD z leaf rest (i - spl n) (n - spl n)).map (fun x => nodS z d x)
/-- The two roots. -/
def twD (z : Int) (old : List Nat) : List (List Nat) → Nat → Nat → Bool → Option (List Nat × List Nat)
  | [], m, n, whole => if m = n ∧ whole = true then some (old, old) else none
  | d :: rest, m, n, whole => if m = n then (if whole = false ∧ rest = [] then some (d, d) else none)
    else if m ≤ spl n then (twD z old rest m (spl n) whole).map (fun x => (x.1, nodS z x.2 d)) else (twD z old rest (m - spl n) (n - spl n) false).map (fun x => (nodS z d x.1, nodS z d x.2))
theorem clD_ok {z : Int} (hw : widthB z = true) {leaf : List Nat} (hl : Dg leaf) (hf : formB z leaf = true) : ∀ (p : List (List Nat)) (i n : Nat) (d : List Nat), clD z leaf p i n = some d → Dg d ∧ formB z d = true
  | [], i, n, d, h => by
    unfold clD at h
    split at h
    · simp only [Option.some.injEq] at h; subst h; exact ⟨hl, hf⟩
    · simp at h
  | x :: r, i, n, d, h => by
    unfold clD at h
    split at h
    · simp at h
    · split at h
      · obtain ⟨y, _, rfl⟩ := Option.map_eq_some_iff.1 h
        exact ⟨nodS_dg _ _ _, nodS_form hw _ _⟩
      · obtain ⟨y, _, rfl⟩ := Option.map_eq_some_iff.1 h
        exact ⟨nodS_dg _ _ _, nodS_form hw _ _⟩
theorem twD_ok {z : Int} (hw : widthB z = true) {old : List Nat} (hl : Dg old) (hf : formB z old = true) : ∀ (p : List (List Nat)) (m n : Nat) (b : Bool) (d : List Nat × List Nat), (∀ x ∈ p, Dg x ∧ formB z x = true) → twD z old p m n b = some d → (Dg d.1 ∧ formB z d.1 = true) ∧ (Dg d.2 ∧ formB z d.2 = true)
  | [], m, n, b, d, hp, h => by
    unfold twD at h
    split at h
    · simp only [Option.some.injEq] at h; subst h; exact ⟨⟨hl, hf⟩, ⟨hl, hf⟩⟩
    · simp at h
  | x :: r, m, n, b, d, hp, h => by
    unfold twD at h
    split at h
    · split at h
      · simp only [Option.some.injEq] at h; subst h; exact ⟨hp x (by simp), hp x (by simp)⟩
      · simp at h
    · split at h
      · obtain ⟨y, hy, rfl⟩ := Option.map_eq_some_iff.1 h
        exact ⟨(twD_ok hw hl hf r _ _ _ y (fun u hu => hp u (by simp [hu])) hy).1, ⟨nodS_dg _ _ _, nodS_form hw _ _⟩⟩
      · obtain ⟨y, hy, rfl⟩ := Option.map_eq_some_iff.1 h
        exact ⟨⟨nodS_dg _ _ _, nodS_form hw _ _⟩, ⟨nodS_dg _ _ _, nodS_form hw _ _⟩⟩
/-- What RootOf answers. -/
def clO (z : Int) (leaf : List Nat) (i n : Nat) (p : List (List Nat)) : Option (List Nat) := clD z leaf p.reverse i n
def rootE (z : Int) (leaf : List Nat) (i n : Nat) (p : List (List Nat)) : Nat := if formedE z (leaf :: p) ≠ 0 then formedE z (leaf :: p) else if n ≤ i then 4 else if (clO z leaf i n p).isSome then 0 else 10
def rootD (z : Int) (leaf : List Nat) (i n : Nat) (p : List (List Nat)) : List Nat := if rootE z leaf i n p = 0 then (clO z leaf i n p).getD zD else zD
/-- What RootsOf answers. -/
def twO (z : Int) (old : List Nat) (m n : Nat) (b : Bool) (p : List (List Nat)) : Option (List Nat × List Nat) := twD z old p.reverse m n b
def rootsE (z : Int) (old : List Nat) (m n : Nat) (p : List (List Nat)) : Nat := if formedE z (old :: p) ≠ 0 then formedE z (old :: p) else if m = 0 ∨ n ≤ m then 4 else if (twO z old m n true p).isSome then 0 else 10
def rootsD (z : Int) (old : List Nat) (m n : Nat) (p : List (List Nat)) : List Nat × List Nat := if rootsE z old m n p = 0 then (twO z old m n true p).getD (zD, zD) else (zD, zD)
/-- What Inclusion answers. -/
def incE (z : Int) (leaf : List Nat) (i n : Nat) (p : List (List Nat)) (root : List Nat) : Nat := if formedE z (leaf :: root :: p) ≠ 0 then formedE z (leaf :: root :: p) else if rootE z leaf i n p ≠ 0 then rootE z leaf i n p else if rootD z leaf i n p = root then 0 else 10
/-- What Consistency answers. -/
def conE (z : Int) (m n : Nat) (old root : List Nat) (p : List (List Nat)) : Nat :=
  if formedE z (old :: root :: p) ≠ 0 then formedE z (old :: root :: p) else if n < m then 4 else if m = n then (if p = [] ∧ old = root then 0 else 10) else if m = 0 then (if p = [] ∧ old = sumD z [] then 0 else 10) else
    if rootsE z old m n p ≠ 0 then rootsE z old m n p else if (rootsD z old m n p).1 = old ∧ (rootsD z old m n p).2 = root then 0 else 10
theorem formedE_cases (z : Int) (ds : List (List Nat)) : formedE z ds = 0 ∨ formedE z ds = 1 ∨ formedE z ds = 3 := by
  unfold formedE; split; simp; split <;> simp
theorem formedE_zero {z : Int} {ds : List (List Nat)} (h : formedE z ds = 0) : widthB z = true ∧ ∀ d ∈ ds, formB z d = true := by
  unfold formedE at h
  split at h
  · simp at h
  · rename_i h1
    split at h
    · rename_i h2
      exact ⟨by simpa using h1, List.all_eq_true.1 h2⟩
    · simp at h
end Go.Proofs.YthafpaenggcpdaaDoor
namespace Go.Proofs.YthafpaenggcpdaaDoor
open Go.RowKit Go.BigFrame
set_option linter.unusedVariables false
set_option linter.unusedSimpArgs false

/-- A question: its width, leaf, two numbers, proof, root. -/
structure AskD where
  z : Int
  l : List Nat
  i : Nat
  n : Nat
  p : List (List Nat)
  r : List Nat
def askC (q : AskD) (pv : Value) : List Value := [.int .i64 q.z] ++ (q.l.map u8 ++ ([.int .u64 (q.i : Int), .int .u64 (q.n : Int), pv] ++ (q.r.map u8 ++ [])))
def zask : Array Value := (askC ⟨0, zD, 0, 0, [], zD⟩ (.slice none 0 0)).toArray
structure OkA (w : World) (q : AskD) (pv : Value) : Prop where
  z : -9223372036854775808 ≤ q.z ∧ q.z ≤ 9223372036854775807
  l : Dg q.l
  i : q.i < 18446744073709551616
  n : q.n < 18446744073709551616
  p : RdD w pv q.p
  pl : q.p.length ≤ 1048576
  r : Dg q.r
theorem OkA.old {w w' : World} {q : AskD} {pv : Value} (h : OkA w q pv) (k : Kept [] w w') : OkA w' q pv :=
  ⟨h.z, h.l, h.i, h.n, h.p.old k, h.pl, h.r⟩
theorem a_mid {w : World} {g n : Nat} {t : TypeId} {fr : Nat × Nat} (a b c : List Value) (h : w.heap[g]? = some (.cells (a ++ (b ++ c)).toArray t fr)) (hn : a.length = n) : w.rangeAt g n b := by
  subst hn
  intro j v hv
  have hj := (List.getElem?_eq_some_iff.1 hv).1
  rw [cell_of_row w g _ _ t fr h, List.getElem?_toArray, List.getElem?_append_right (by omega), Nat.add_sub_cancel_left, List.getElem?_append_left hj, hv]
theorem ask_cells {w : World} {g : Nat} {t : TypeId} {fr : Nat × Nat} {q : AskD} {pv : Value} (h : w.heap[g]? = some (.cells (askC q pv).toArray t fr)) (hl : q.l.length = 32) :
    w.cell? ⟨g, 0, none⟩ = some (.int .i64 q.z) ∧ w.rangeAt g 1 (q.l.map u8) ∧ (w.cell? ⟨g, 33, none⟩ = some (.int .u64 (q.i : Int)) ∧ w.cell? ⟨g, 34, none⟩ = some (.int .u64 (q.n : Int)) ∧ w.cell? ⟨g, 35, none⟩ = some pv) ∧ w.rangeAt g 36 (q.r.map u8) := by
  unfold askC at h
  have h1 := a_mid (n := 1) _ _ _ h rfl
  have h33 := a_mid (n := 33) ([.int .i64 q.z] ++ q.l.map u8) [.int .u64 (q.i : Int), .int .u64 (q.n : Int), pv] _ (by simpa using h) (by simp [hl])
  have h36 := a_mid (n := 36) ([.int .i64 q.z] ++ q.l.map u8 ++ [.int .u64 (q.i : Int), .int .u64 (q.n : Int), pv]) (q.r.map u8) [] (by simpa using h) (by simp [hl])
  have c : ∀ j v, ([.int .i64 q.z] : List Value)[j]? = some v → w.cell? ⟨g, j, none⟩ = some v := by
    intro j v hv
    rw [cell_of_row w g _ _ t fr h, List.getElem?_toArray, List.getElem?_append_left (List.getElem?_eq_some_iff.1 hv).1, hv]
  exact ⟨c 0 _ rfl, h1, ⟨h33 0 _ rfl, h33 1 _ rfl, h33 2 _ rfl⟩, h36⟩
end Go.Proofs.YthafpaenggcpdaaDoor
namespace Go.Proofs.YthafpaenggcpdaaDoor
open Go.RowKit Go.BigFrame
set_option linter.unusedVariables false
set_option linter.unusedSimpArgs false

theorem bitLen_log (x : Nat) : x ≠ 0 → x < 2 ^ 64 → Lib.bitLen x = x.log2 + 1 := by
  induction x using Nat.strongRecOn with
  | _ x ih =>
    intro h0 h
    rw [Lib.bitLen_half x h0 h]
    by_cases h1 : x < 2
    · have : x = 1 := by omega
      subst this; rfl
    · rw [ih (x / 2) (by omega) (by omega) (by omega), Nat.log2_def x, if_pos (by omega)]
      omega

set_option maxRecDepth 100000 in
theorem l8_size : (Lib.len8tab.size : Int) = 256 := by
  have : Lib.len8tab.size = 256 := by decide
  omega
theorem l8_add (k a b : Nat) (hk : k ≤ 56) (ha : a ≤ 8) (hb : b = k + a) : RowKit.wrap64 ((k : Int) + RowKit.wrap64 (a : Int)) = (b : Int) := by
  unfold RowKit.wrap64
  omega
theorem l8_two (a : Nat) (ha : a ≤ 8) : RowKit.wrap64 (RowKit.wrap64 (a : Int)) = (a : Int) := by
  unfold RowKit.wrap64
  omega
theorem l8_one (a : Nat) (ha : a ≤ 8) : RowKit.wrap64 (a : Int) = (a : Int) := by
  unfold RowKit.wrap64
  omega
theorem l8_get (y : Int) (h : y.toNat < Lib.len8tab.size) : ((Lib.len8tab[y.toNat]'h).toNat : Int) = Lib.len8 y := by
  unfold Lib.len8
  rw [getElem?_pos Lib.len8tab y.toNat h]
  rfl

set_option maxRecDepth 1000000 in
set_option maxHeartbeats 4000000 in
theorem len64_int (x : Int) (w : World) (h0 : 0 ≤ x) (h1 : x ≤ 18446744073709551615) :
    Calls Tryd.prog 61 #[.int .u64 x] w fun e w' => e = .returned (.int .i64 (Lib.bitLen x.toNat)) ∧ Kept [] w w' := by
  go_enter Tryd.func61, Tryd.ntmps61
  go_wp2_with fail
  all_goals first
    | (go_ret; refine ⟨congrArg Ending.returned (congrArg (Value.int IntKind.i64) ?_), Kept.refl _ _⟩; go_light)
    | (exfalso
       go_light
       have hs := l8_size
       omega)
  all_goals first
    | (rw [l8_get (x / 4294967296 / 65536 / 256) _, Lib.len8_of (x / 4294967296 / 65536 / 256) (by omega) (by omega)]
       have e : (x / 4294967296 / 65536 / 256).toNat = x.toNat / 72057594037927936 := by omega
       have l := Lib.bitLen_le8' (x / 4294967296 / 65536 / 256) (by omega) (by omega)
       have s := Lib.bitLen_shift56 x.toNat (by omega) (by omega)
       rw [e] at l ⊢
       exact l8_add 56 _ _ (by decide) l s)
    | (rw [l8_get (x / 4294967296 / 65536) _, Lib.len8_of (x / 4294967296 / 65536) (by omega) (by omega)]
       have e : (x / 4294967296 / 65536).toNat = x.toNat / 281474976710656 := by omega
       have l := Lib.bitLen_le8' (x / 4294967296 / 65536) (by omega) (by omega)
       have s := Lib.bitLen_shift48 x.toNat (by omega) (by omega)
       rw [e] at l ⊢
       exact l8_add 48 _ _ (by decide) l s)
    | (rw [l8_get (x / 4294967296 / 256) _, Lib.len8_of (x / 4294967296 / 256) (by omega) (by omega)]
       have e : (x / 4294967296 / 256).toNat = x.toNat / 1099511627776 := by omega
       have l := Lib.bitLen_le8' (x / 4294967296 / 256) (by omega) (by omega)
       have s := Lib.bitLen_shift40 x.toNat (by omega) (by omega)
       rw [e] at l ⊢
       exact l8_add 40 _ _ (by decide) l s)
    | (rw [l8_get (x / 4294967296) _, Lib.len8_of (x / 4294967296) (by omega) (by omega)]
       have e : (x / 4294967296).toNat = x.toNat / 4294967296 := by omega
       have l := Lib.bitLen_le8' (x / 4294967296) (by omega) (by omega)
       have s := Lib.bitLen_shift32 x.toNat (by omega) (by omega)
       rw [e] at l ⊢
       exact l8_add 32 _ _ (by decide) l s)
    | (rw [l8_get (x / 65536 / 256) _, Lib.len8_of (x / 65536 / 256) (by omega) (by omega)]
       have e : (x / 65536 / 256).toNat = x.toNat / 16777216 := by omega
       have l := Lib.bitLen_le8' (x / 65536 / 256) (by omega) (by omega)
       have s := Lib.bitLen_shift24 x.toNat (by omega) (by omega)
       rw [e] at l ⊢
       exact l8_add 24 _ _ (by decide) l s)
    | (rw [l8_get (x / 65536) _, Lib.len8_of (x / 65536) (by omega) (by omega)]
       have e : (x / 65536).toNat = x.toNat / 65536 := by omega
       have l := Lib.bitLen_le8' (x / 65536) (by omega) (by omega)
       have s := Lib.bitLen_shift16 x.toNat (by omega) (by omega)
       rw [e] at l ⊢
       exact l8_add 16 _ _ (by decide) l s)
    | (rw [l8_get (x / 256) _, Lib.len8_of (x / 256) (by omega) (by omega)]
       have e : (x / 256).toNat = x.toNat / 256 := by omega
       have l := Lib.bitLen_le8' (x / 256) (by omega) (by omega)
       have s := Lib.bitLen_shift8 x.toNat (by omega) (by omega)
       rw [e] at l ⊢
       exact l8_add 8 _ _ (by decide) l s)
    | (rw [l8_get x _, Lib.len8_of x (by omega) (by omega)]
       have l := Lib.bitLen_le8' x (by omega) (by omega)
       first | exact l8_two _ l | exact l8_add 0 _ _ (by decide) l (by omega) | exact l8_one _ l)

theorem len64_any (x : Nat) (w : World) (hx : x < 18446744073709551616) :
    Calls Tryd.prog 61 #[.int .u64 x] w fun e w' => e = .returned (.int .i64 (Lib.bitLen x)) ∧ Kept [] w w' := by
  have := len64_int (x : Int) w (by omega) (by omega)
  simpa using this

theorem shl1_run (P : Program) (t : TypeId) (m : Nat) (hm : m < 64) (W : World) : (Op.shift .shl .u64 1 .i64 (m : Int)).run P W = .ok (.int .u64 ((2 ^ m : Nat) : Int)) W := by
  rw [shift_shl_any .u64 .i64 1 (m : Int) (by omega)]
  have hmin : min (m : Int).toNat IntKind.u64.bits = (m : Int).toNat := by simp [IntKind.bits]; omega
  rw [hmin]
  have h1 : 2 ^ m < 2 ^ 64 := Nat.pow_lt_pow_right (by decide) hm
  have e : IntKind.u64.wrap (1 * 2 ^ (m : Int).toNat) = ((2 ^ m : Nat) : Int) := by
    rw [Int.toNat_natCast, Int.one_mul]
    have h2 : ((2 : Int) ^ m) = ((2 ^ m : Nat) : Int) := by simp
    rw [h2]
    generalize 2 ^ m = y at h1 ⊢
    simp [IntKind.wrap, IntKind.signed, IntKind.bits]
    omega
  rw [e]
  rfl
theorem wpList_shl1 {P : Program} {ops : Array Oper} {rest : List Oper} {o : Oper} {a : Act} {w : World} {Q : Exit → Act → World → Prop} (hgd : o.guard = none) (t t2 : TypeId) (y : Operand)
    (ho : o.op = .binOp .shl t (.const (.int .u64 1)) y t2) (m : Nat) (hm : m < 64) (hy : a.eval y = .int .i64 (m : Int)) (hK : wpList P ops Q rest (a.put o.dst (.int .u64 ((2 ^ m : Nat) : Int))) w) : wpList P ops Q (o :: rest) a w := by
  refine wpList_plain hgd fun K hK' => ?_
  unfold Oper.wp execOp
  have h1 : a.eval (.const (.int .u64 1)) = .int .u64 1 := rfl
  simp only [ho, hy, h1, eqGuard_shl, binOp_shl, Sem.run_bind, Sem.run_pure, Result.andThen_ok, shl1_run P t m hm]
  exact hK' _ _ hK

set_option maxRecDepth 100000 in
set_option maxHeartbeats 1000000 in
theorem split_any (n : Nat) (w : World) (h2 : 2 ≤ n) (hn : n < 18446744073709551616) :
    Calls Tryd.prog 41 #[.int .u64 n] w fun e w' => e = .returned (.int .u64 (spl n)) ∧ Kept [] w w' := by
  have hb := bitLen_log (n - 1) (by omega) (by omega)
  have hl : (n - 1).log2 < 64 := (Nat.log2_lt (by omega)).2 (by omega)
  have hn0 : (1 : Int) ≤ n := by omega
  obtain ⟨S, hS⟩ : ∃ S, spl n = S := ⟨_, rfl⟩
  rw [hS]
  unfold spl at hS
  go_enter Tryd.func41, Tryd.ntmps41
  go_wp2_with fail
  refine Calls.mono (len64_int ((n : Int) - 1) _ (by omega) (by omega)) ?_
  rintro e w1 ⟨rfl, k1⟩
  have HK1 := hide k1
  clear k1
  have e2 : ((n : Int) - 1).toNat = n - 1 := by omega
  rw [e2, hb]
  have q1 : ((((n - 1).log2 + 1 : Nat)) : Int) - 1 = (((n - 1).log2 : Nat) : Int) := by omega
  obtain ⟨m, hm⟩ : ∃ m, (n - 1).log2 = m := ⟨_, rfl⟩
  rw [hm] at hl q1 hS ⊢
  clear hm hb e2
  have HP := hide hS
  have q2 : wrap64 (((m + 1 : Nat) : Int) - 1) = (m : Int) := by unfold wrap64; omega
  clear hS
  go_wp2_with (refine wpList_shl1 rfl 24 3 (.tmp 6) rfl m hl (by simp [Act.eval, q2]) ?_; rw [unhide HP])
  go_ret
  exact ⟨rfl, unhide HK1⟩

end Go.Proofs.YthafpaenggcpdaaDoor
/-
  A row in the midst of a block, read within a quiet walk.
-/
namespace Go.Proofs.YthafpaenggcpdaaDoor
open Go Go.RowKit Go.BigFrame

theorem wpQuiet_mid {P : Program} {ops : Array Oper} {C : World → Prop} {Q : Act → Prop} {a : Act} {o : Oper} {rest : List Oper} (hw : Region.wanted o (yielded ops a.tmps) = true) (ty : TypeId) (x : Operand) (ho : o.op = .load ty x)
    (b off : Nat) (hx : a.eval x = .pointer (some ⟨b, off, none⟩)) (cs : List Value) (d : TypeDesc) (hg : ∀ w, C w → w.rangeAt b off cs)
    (hu : P.underlying ty = some d) (hd : d.isRow = true) (hi : (P.info? ty).map (·.size) = some cs.length)
    (h : wpQuiet P ops C Q rest (a.put o.dst (.agg cs.toArray))) : wpQuiet P ops C Q (o :: rest) a := by
  refine wpQuiet_want hw fun K hK => ⟨.agg cs.toArray, fun w hw => ?_, hK _ h⟩
  unfold Oper.quietAt execOp
  simp only [ho]
  have := run_loadVar_mid (P := P) w b off ty cs d (hg w hw) hu hd hi
  simp only [hx, Instr.loadAt, Instr.sureAddr, Sem.run_bind, Sem.run_pure, Result.andThen_ok, this, Oper.quietUpon, and_self]
end Go.Proofs.YthafpaenggcpdaaDoor
namespace Go.Proofs.YthafpaenggcpdaaDoor
open Go.RowKit Go.BigFrame
set_option linter.unusedVariables false
set_option linter.unusedSimpArgs false

theorem RdD.upto {w : World} {ao : Option Addr} {len cap : Nat} {ds : List (List Nat)} (h : RdD w (.slice ao len cap) ds) (k : Nat) (hk : k ≤ len) : RdD w (.slice ao k cap) (ds.take k) := by
  obtain ⟨ao', len', cap', e, h1, h2, h3, h4, h5⟩ := h
  cases e
  refine ⟨ao, k, cap, rfl, by rw [List.length_take]; omega, by omega, h3, fun d hd => h4 d (List.mem_of_mem_take hd), fun hp => ?_⟩
  obtain ⟨b, off, rfl, hc⟩ := h5 (by omega)
  refine ⟨b, off, rfl, fun i hi => ?_⟩
  rw [List.getD_eq_getElem?_getD, List.getElem?_take_of_lt hi, ← List.getD_eq_getElem?_getD]
  exact hc i (by omega)
theorem RdD.dg {w : World} {v : Value} {ds : List (List Nat)} (h : RdD w v ds) {d : List Nat} (hd : d ∈ ds) : Dg d := by
  obtain ⟨ao', len', cap', e, h1, h2, h3, h4, h5⟩ := h
  exact h4 d hd
/-- What stands ahead of the last, and that one. -/
theorem last_cut {ds : List (List Nat)} {x : List Nat} {r : List (List Nat)} (h : ds.reverse = x :: r) : ds = r.reverse ++ [x] ∧ ds.length = r.length + 1 := by
  have h2 := congrArg List.reverse h
  simp only [List.reverse_reverse, List.reverse_cons] at h2
  refine ⟨h2, ?_⟩
  rw [h2]; simp

theorem results_tmp_cell {P : Program} {fn : Func} {p q : Tmp} {ty : TypeId} (h : fn.results = #[.tmp q, .cell p ty]) (tmps : Array Value) (w : World) (g : Nat) (t : TypeId) (cs : Array Value) (fr : Nat × Nat) (d : TypeDesc)
    (hp : tmps.getD p undef = .pointer (some ⟨g, 0, none⟩)) (hg : w.heap[g]? = some (.cells cs t fr))
    (hu : P.underlying ty = some d) (hd : (match d with | .struct _ | .array _ _ => true | _ => false) = true) (hi : (P.info? ty).map (·.size) = some cs.size) (v : Value) (hq : tmps.getD q undef = v) :
    (results fn tmps).run P w = .ok (.tuple #[v, .agg cs]) w := by
  have hp' : tmps[p]?.getD undef = .pointer (some ⟨g, 0, none⟩) := by simpa using hp
  have hq' : tmps[q]?.getD undef = v := by simpa using hq
  simp [results, h, hp', hq', asAddr, run_loadVar_row w g t ty cs fr d hg hu hd hi]
theorem formedE_two {z : Int} {l m : List Nat} (hw : widthB z = true) (hl : formB z l = true) (hm : formB z m = true) : formedE z [l, m] = 0 := by simp [formedE, hw, hl, hm]

set_option maxRecDepth 100000 in
set_option maxHeartbeats 1000000 in
theorem parted_any (v : Value) (ds r : List (List Nat)) (x : List Nat) (w : World) (hv : RdD w v ds) (hr : ds.reverse = x :: r) :
    Calls Tryd.prog 40 #[v] w fun e w' => ∃ u, e = .returned (.tuple #[u, .agg (brow x)]) ∧ RdD w' u r.reverse ∧ Kept [] w w' := by
  obtain ⟨e1, e2⟩ := last_cut hr
  have HV := hide hv
  obtain ⟨ao, len, cap, rfl, h1, h2, h3, h4, h5⟩ := hv
  have hlen : len = r.length + 1 := by omega
  obtain ⟨b, off, rfl, hc⟩ := h5 (by omega)
  have HX := hide (unhide HV |>.dg (show x ∈ ds by rw [e1]; simp))
  have HRG := hide (by have := hc r.length (by omega); rwa [e1, List.getD_eq_getElem?_getD, List.getElem?_append_right (by simp), List.length_reverse, Nat.sub_self] at this : w.rangeAt b (off + r.length * 32) (x.map u8))
  have HU := hide (by have := (unhide HV).upto r.length (by omega); rwa [e1, List.take_append_of_le_length (by simp), List.take_of_length_le (by simp)] at this : RdD w (.slice (some ⟨b, off, none⟩) r.length cap) r.reverse)
  have hxl := (unhide HX).1
  clear hc h4 e1 hr h1 HV
  subst hlen
  go_enter Tryd.func40, Tryd.ntmps40
  go_wp2_with fail
  rw [zb32]
  have HGZ := hide (heap_alloc_new w (.cells (zb 32) 23))
  have HK0 := hide ((Kept.refl [] w).alloc (.cells (zb 32) 23))
  have HR2 := hide (range_kept (unhide HRG) (unhide HK0) (by simp))
  obtain ⟨W, hW⟩ : ∃ W, w.alloc (.cells (zb 32) 23) = W := ⟨_, rfl⟩
  rw [hW] at HGZ HK0 HR2 ⊢
  have HL := hide (by rw [List.length_map, hxl]; exact Tryd.size_dig : (Tryd.prog.info? 23).map (·.size) = some (x.map u8).length)
  have hcI : ((r.length : Int)) ≤ cap := by omega
  refine wp_quiet_tail 8 (by kernel_rfl) (by kernel_rfl) ?_
  simp only [List.take_succ_cons, List.take_zero, List.drop_succ_cons, List.drop_zero]
  repeat (go_big_quiet_step (fail))
  refine wpQuiet_mid rfl 23 _ rfl b (off + r.length * 32) rfl (x.map u8) _ (fun w' hw' => by obtain ⟨n, rfl⟩ := hw'; exact unhide HR2) Tryd.underlying23 rfl (unhide HL) ?_
  simp only [Act.put, List.setIfInBounds_toArray, List.set_cons_succ, List.set_cons_zero]
  repeat (go_big_quiet_step (fail))
  refine wpQuiet_nil ?_
  rintro _ ⟨n1, rfl⟩
  go_wp2_with (first
    | (refine wpList_store_row rfl 23 _ _ rfl w.heap.size (brow x) rfl rfl _ (zb 32) (unhide HGZ) (by rw [brow_size, hxl]; exact Tryd.size_dig) (by rw [zb_size, brow_size, hxl]) (brow_one _) ?_))
  have kk := ((unhide HK0).drewN n1).setRow (L := []) (g := w.heap.size) (Or.inr (Nat.le_refl _)) (brow x)
  refine bodyPost_ret (v := .tuple #[.slice (some ⟨b, off, none⟩) r.length cap, .agg (brow x)]) ?_ rfl ⟨_, rfl, (unhide HU).old kk, kk⟩
  exact results_tmp_cell (P := Tryd.prog) (by rfl) _ ((W.drewN n1).setRow w.heap.size (brow x)) w.heap.size _ (brow x) (0, 0) _ (by rfl) (setRow_heap (W.drewN n1) _ _ _ _ _ (unhide HGZ)) Tryd.underlying23 rfl (by rw [brow_size, hxl]; exact Tryd.size_dig) _ (by rfl)

set_option maxRecDepth 100000 in
set_option maxHeartbeats 1000000 in
theorem ended_any (v : Value) (ds r : List (List Nat)) (x : List Nat) (w : World) (hv : RdD w v ds) (hr : ds.reverse = x :: r) :
    Calls Tryd.prog 45 #[v] w fun e w' => ∃ u, e = .returned (.tuple #[u, .agg (brow x)]) ∧ RdD w' u r.reverse ∧ Kept [] w w' := by
  obtain ⟨e1, e2⟩ := last_cut hr
  have HV := hide hv
  obtain ⟨ao, len, cap, rfl, h1, h2, h3, h4, h5⟩ := hv
  have hlen : len = r.length + 1 := by omega
  obtain ⟨b, off, rfl, hc⟩ := h5 (by omega)
  have HX := hide (unhide HV |>.dg (show x ∈ ds by rw [e1]; simp))
  have HRG := hide (by have := hc r.length (by omega); rwa [e1, List.getD_eq_getElem?_getD, List.getElem?_append_right (by simp), List.length_reverse, Nat.sub_self] at this : w.rangeAt b (off + r.length * 32) (x.map u8))
  have HU := hide (by have := (unhide HV).upto r.length (by omega); rwa [e1, List.take_append_of_le_length (by simp), List.take_of_length_le (by simp)] at this : RdD w (.slice (some ⟨b, off, none⟩) r.length cap) r.reverse)
  have hxl := (unhide HX).1
  clear hc h4 e1 hr h1 HV
  subst hlen
  go_enter Tryd.func45, Tryd.ntmps45
  go_wp2_with fail
  rw [zb32]
  have HGZ := hide (heap_alloc_new w (.cells (zb 32) 23))
  have HK0 := hide ((Kept.refl [] w).alloc (.cells (zb 32) 23))
  have HR2 := hide (range_kept (unhide HRG) (unhide HK0) (by simp))
  obtain ⟨W, hW⟩ : ∃ W, w.alloc (.cells (zb 32) 23) = W := ⟨_, rfl⟩
  rw [hW] at HGZ HK0 HR2 ⊢
  have HL := hide (by rw [List.length_map, hxl]; exact Tryd.size_dig : (Tryd.prog.info? 23).map (·.size) = some (x.map u8).length)
  have hcI : ((r.length : Int)) ≤ cap := by omega
  refine wp_quiet_tail 8 (by kernel_rfl) (by kernel_rfl) ?_
  simp only [List.take_succ_cons, List.take_zero, List.drop_succ_cons, List.drop_zero]
  repeat (go_big_quiet_step (fail))
  refine wpQuiet_mid rfl 23 _ rfl b (off + r.length * 32) rfl (x.map u8) _ (fun w' hw' => by obtain ⟨n, rfl⟩ := hw'; exact unhide HR2) Tryd.underlying23 rfl (unhide HL) ?_
  simp only [Act.put, List.setIfInBounds_toArray, List.set_cons_succ, List.set_cons_zero]
  repeat (go_big_quiet_step (fail))
  refine wpQuiet_nil ?_
  rintro _ ⟨n1, rfl⟩
  go_wp2_with (first
    | (refine wpList_store_row rfl 23 _ _ rfl w.heap.size (brow x) rfl rfl _ (zb 32) (unhide HGZ) (by rw [brow_size, hxl]; exact Tryd.size_dig) (by rw [zb_size, brow_size, hxl]) (brow_one _) ?_))
  have kk := ((unhide HK0).drewN n1).setRow (L := []) (g := w.heap.size) (Or.inr (Nat.le_refl _)) (brow x)
  refine bodyPost_ret (v := .tuple #[.slice (some ⟨b, off, none⟩) r.length cap, .agg (brow x)]) ?_ rfl ⟨_, rfl, (unhide HU).old kk, kk⟩
  exact results_tmp_cell (P := Tryd.prog) (by rfl) _ ((W.drewN n1).setRow w.heap.size (brow x)) w.heap.size _ (brow x) (0, 0) _ (by rfl) (setRow_heap (W.drewN n1) _ _ _ _ _ (unhide HGZ)) Tryd.underlying23 rfl (by rw [brow_size, hxl]; exact Tryd.size_dig) _ (by rfl)

set_option maxRecDepth 100000 in
set_option maxHeartbeats 1000000 in
theorem over_bad (f : Nat) (z : Int) (l m : List Nat) (w : World) (hf : f ≠ 0) :
    Calls Tryd.prog 42 #[.int .i64 f, .int .i64 z, .agg (brow l), .agg (brow m)] w fun e w' => e = .returned (.tuple #[.agg (brow zD), .int .i64 f]) ∧ Kept [] w w' := by
  have hb : ((f : Int) != 0) = true := by simp; omega
  have HF := hide hf
  clear hf
  go_enter Tryd.func42, Tryd.ntmps42
  have HGZ := hide (alloc3_at w (.cells (brow l) 23) (.cells (brow m) 23) (.cells (zb 32) 23))
  have HK0 := hide ((((Kept.refl [] w).alloc (.cells (brow l) 23)).alloc (.cells (brow m) 23)).alloc (.cells (zb 32) 23))
  go_wp2_with (rw [zb32]; refine wpList_store_row rfl 23 _ _ rfl (w.heap.size + 1 + 1) (zb 32) rfl rfl _ (zb 32) (unhide HGZ) (by rw [zb_size]; exact Tryd.size_dig) rfl (brow_one _) ?_)
  refine bodyPost_ret (v := .tuple #[.agg (zb 32), .int .i64 f]) ?_ rfl ⟨rfl, (unhide HK0).setRow (Or.inr (by omega)) _⟩
  exact results_cell_tmp rfl _ _ (w.heap.size + 1 + 1) _ (zb 32) (0, 0) _ rfl (setRow_heap _ _ _ _ _ _ (unhide HGZ)) Tryd.underlying23 rfl (by rw [zb_size]; exact Tryd.size_dig) _ rfl

set_option maxRecDepth 100000 in
set_option maxHeartbeats 1000000 in
theorem over_ok (z : Int) (l m : List Nat) (w : World) (hz : -9223372036854775808 ≤ z ∧ z ≤ 9223372036854775807) (hw : widthB z = true) (hl : Dg l) (hm : Dg m) (hlf : formB z l = true) (hmf : formB z m = true) (hT : Tabs w) :
    Calls Tryd.prog 42 #[.int .i64 0, .int .i64 z, .agg (brow l), .agg (brow m)] w fun e w' => e = .returned (.tuple #[.agg (brow (nodS z l m)), .int .i64 0]) ∧ Kept [] w w' := by
  have HE := hide (by rw [formedE_two hw hlf hmf]; unfold nodS sunD; rw [if_pos rfl] : sunD (formedE z [l, m]) z (nodeB z l m) = nodS z l m)
  have HE2 := hide (by rw [formedE_two hw hlf hmf]; simp [sunE, sumE, hw] : sunE (formedE z [l, m]) z = 0)
  obtain ⟨D, hD⟩ : ∃ D, nodS z l m = D := ⟨_, rfl⟩
  have hcl : D.length = 32 := by rw [← hD]; exact (nodS_dg z l m).1
  rw [hD] at HE ⊢
  clear hD
  have HL := hide hl
  have HM := hide hm
  have HT := hide hT
  clear hl hm hT hlf hmf hw
  go_enter Tryd.func42, Tryd.ntmps42
  have HK0 := hide ((((Kept.refl [] w).alloc (.cells (brow l) 23)).alloc (.cells (brow m) 23)).alloc (.cells (zb 32) 23))
  have HGZ := hide (alloc3_at w (.cells (brow l) 23) (.cells (brow m) 23) (.cells (zb 32) 23))
  have HGM := hide (((Kept.refl [] ((w.alloc (.cells (brow l) 23)).alloc (.cells (brow m) 23))).alloc (.cells (zb 32) 23)).heap (alloc_at w (.cells (brow l) 23) (.cells (brow m) 23)) (by simp))
  have HGL := hide ((((Kept.refl [] (w.alloc (.cells (brow l) 23))).alloc (.cells (brow m) 23)).alloc (.cells (zb 32) 23)).heap (heap_alloc_new w (.cells (brow l) 23)) (by simp))
  have HSL := hide (by rw [List.length_map, (unhide HL).1]; exact Tryd.size_dig : (Tryd.prog.info? 23).map (·.size) = some (l.map u8).length)
  have HSM := hide (by rw [List.length_map, (unhide HM).1]; exact Tryd.size_dig : (Tryd.prog.info? 23).map (·.size) = some (m.map u8).length)
  go_wp2_with (first
    | (refine wpList_load_mid rfl 23 _ rfl w.heap.size 0 rfl (l.map u8) _ (range_row (unhide HGL)) Tryd.underlying23 rfl (unhide HSL) ?_)
    | (refine wpList_load_mid rfl 23 _ rfl (w.heap.size + 1) 0 rfl (m.map u8) _ (range_row (unhide HGM)) Tryd.underlying23 rfl (unhide HSM) ?_))
  refine Calls.mono (node_all z l m _ hz (unhide HL).1 (unhide HM).1 (unhide HL).2 (unhide HM).2 ((unhide HT).k (unhide HK0))) ?_
  rintro e w1 ⟨rfl, k1⟩
  rw [unhide HE, unhide HE2]
  have HZ2 := hide (k1.heap (unhide HGZ) (by simp))
  have HK2 := hide ((unhide HK0).trans k1 (by simp))
  clear k1 HGL HGM
  go_wp2_with (refine wpList_store_row rfl 23 _ _ rfl (w.heap.size + 1 + 1) (brow D) rfl rfl _ (zb 32) (unhide HZ2) (by rw [brow_size, hcl]; exact Tryd.size_dig) (by rw [zb_size, brow_size, hcl]) (brow_one _) ?_)
  refine bodyPost_ret (v := .tuple #[.agg (brow D), .int .i64 0]) ?_ rfl ⟨rfl, (unhide HK2).setRow (Or.inr (by omega)) _⟩
  exact results_cell_tmp rfl _ _ (w.heap.size + 1 + 1) _ (brow D) (0, 0) _ rfl (setRow_heap _ _ _ _ _ _ (unhide HZ2)) Tryd.underlying23 rfl (by rw [brow_size, hcl]; exact Tryd.size_dig) _ rfl

set_option maxRecDepth 100000 in
set_option maxHeartbeats 1000000 in
theorem refNode_any (k : Nat) (l m : List Nat) (w : World) (hk : 1 ≤ k ∧ k ≤ 32) (hl : Dg l) (hm : Dg m) :
    Calls Tryd.prog 47 #[.int .i64 k, .agg (brow l), .agg (brow m)] w fun e w' => e = .returned (.agg (brow (nodS k l m))) ∧ Kept [] w w' := by
  have HE := hide (by unfold nodS sumD; rw [if_pos (by simp [widthB]; omega), Int.toNat_natCast] : nodS (k : Int) l m = cutL k (hash (nodeB k l m)))
  obtain ⟨D, hD⟩ : ∃ D, nodS (k : Int) l m = D := ⟨_, rfl⟩
  have hcl : D.length = 32 := by rw [← hD]; exact (nodS_dg _ l m).1
  rw [hD] at HE ⊢
  clear hD
  have HL := hide hl
  have HM := hide hm
  clear hl hm
  go_enter Tryd.func47, Tryd.ntmps47
  have HK0 := hide ((((Kept.refl [] w).alloc (.cells (brow l) 23)).alloc (.cells (brow m) 23)).alloc (.cells (zb 32) 23))
  have HGZ := hide (alloc3_at w (.cells (brow l) 23) (.cells (brow m) 23) (.cells (zb 32) 23))
  have HGM := hide (((Kept.refl [] ((w.alloc (.cells (brow l) 23)).alloc (.cells (brow m) 23))).alloc (.cells (zb 32) 23)).heap (alloc_at w (.cells (brow l) 23) (.cells (brow m) 23)) (by simp))
  have HGL := hide ((((Kept.refl [] (w.alloc (.cells (brow l) 23))).alloc (.cells (brow m) 23)).alloc (.cells (zb 32) 23)).heap (heap_alloc_new w (.cells (brow l) 23)) (by simp))
  have HSL := hide (by rw [List.length_map, (unhide HL).1]; exact Tryd.size_dig : (Tryd.prog.info? 23).map (·.size) = some (l.map u8).length)
  have HSM := hide (by rw [List.length_map, (unhide HM).1]; exact Tryd.size_dig : (Tryd.prog.info? 23).map (·.size) = some (m.map u8).length)
  go_wp2_with (first
    | (refine wpList_load_mid rfl 23 _ rfl w.heap.size 0 rfl (l.map u8) _ (range_row (unhide HGL)) Tryd.underlying23 rfl (unhide HSL) ?_)
    | (refine wpList_load_mid rfl 23 _ rfl (w.heap.size + 1) 0 rfl (m.map u8) _ (range_row (unhide HGM)) Tryd.underlying23 rfl (unhide HSM) ?_))
  rw [zb32]
  refine Calls.mono (refNodeInput_any k l m _ hk (unhide HL).1 (unhide HM).1 (unhide HL).2 (unhide HM).2) ?_
  rintro e w1 ⟨v1, rfl, r1, k1⟩
  have HR1 := hide r1
  obtain ⟨a1, m1, c1, rfl, _⟩ := id r1
  have HZ1 := hide (k1.heap (unhide HGZ) (by simp))
  have HK1 := hide ((unhide HK0).trans k1 (by simp))
  clear k1 r1 HGL HGM
  go_wp2_with fail
  refine Calls.mono (refCut_any k _ (nodeB k l m) _ (unhide HR1) hk.2) ?_
  rintro e w2 ⟨rfl, k2⟩
  rw [← unhide HE]
  have HZ2 := hide (k2.heap (unhide HZ1) (by simp))
  have HK2 := hide ((unhide HK1).trans k2 (by simp))
  clear k2
  go_wp2_with (refine wpList_store_row rfl 23 _ _ rfl (w.heap.size + 1 + 1) (brow D) rfl rfl _ (zb 32) (unhide HZ2) (by rw [brow_size, hcl]; exact Tryd.size_dig) (by rw [zb_size, brow_size, hcl]) (brow_one _) ?_)
  refine bodyPost_ret (v := .agg (brow D)) ?_ rfl ⟨rfl, (unhide HK2).setRow (Or.inr (by omega)) _⟩
  exact results_cell_row rfl _ _ (w.heap.size + 1 + 1) _ (brow D) (0, 0) _ rfl (setRow_heap _ _ _ _ _ _ (unhide HZ2)) Tryd.underlying23 rfl (by rw [brow_size, hcl]; exact Tryd.size_dig)

theorem spl_of {n k : Nat} (h2 : 2 ≤ n) (j : Nat) (hk : k = 2 ^ j) (hlt : k < n) (hge : n ≤ 2 * k) : spl n = k := by
  subst hk
  unfold spl
  have : (n - 1).log2 = j := by
    have a1 : 2 ^ j ≤ n - 1 := by omega
    have a2 : n - 1 < 2 ^ (j + 1) := by rw [Nat.pow_succ]; omega
    exact (Nat.log2_eq_iff (by omega)).2 ⟨a1, a2⟩
  rw [this]

set_option maxRecDepth 100000 in
set_option maxHeartbeats 1000000 in
theorem refSplit_any (n : Nat) (w : World) (h2 : 2 ≤ n) (hn : n < 18446744073709551616) :
    Calls Tryd.prog 46 #[.int .u64 n] w fun e w' => e = .returned (.int .u64 (spl n)) ∧ Kept [] w w' := by
  obtain ⟨S, hS⟩ : ∃ S, spl n = S := ⟨_, rfl⟩
  rw [hS]
  have HS := hide hS
  clear hS
  go_enter Tryd.func46, Tryd.ntmps46
  go_wp2_with fail
  go_loopw [3] (fun t3 wr => ∃ (k : Nat), t3 = .int .u64 k ∧ Hid (∃ j, k = 2 ^ j) ∧ 1 ≤ k ∧ k < n ∧ Hid (Kept [] w wr)) (fun t _ => n - (intOf t).toNat)
  case atStart => exact ⟨1, rfl, hide ⟨0, rfl⟩, by omega, by omega, hide (Kept.refl _ _)⟩
  case round =>
    obtain ⟨k, rfl, HJ, hk1, hk2, HK⟩ := hrel
    have hn1 : (1 : Int) ≤ n := by omega
    by_cases hlt : k ≤ (n - 1) / 2
    · have hlt' : (k : Int) ≤ ((n : Int) - 1) / 2 := by omega
      have hq : (k : Int) * 2 ≤ 18446744073709551615 := by omega
      go_wp2
      refine ⟨⟨k * 2, by go_num, hide (by obtain ⟨j, rfl⟩ := unhide HJ; exact ⟨j + 1, by rw [Nat.pow_succ]⟩), by omega, by omega, HK⟩, ?_⟩
      simp [intOf]; omega
    · have hlt' : ¬ (k : Int) ≤ ((n : Int) - 1) / 2 := by omega
      have HE := hide (by obtain ⟨j, hj⟩ := unhide HJ; exact spl_of h2 j hj hk2 (by omega) : spl n = k)
      go_wp2
      go_ret
      exact ⟨by rw [← unhide HS, unhide HE]; rfl, unhide HK⟩
end Go.Proofs.YthafpaenggcpdaaDoor
namespace Go.Proofs.YthafpaenggcpdaaDoor
open Go.RowKit Go.BigFrame
set_option linter.unusedVariables false
set_option linter.unusedSimpArgs false

def opD (o : Option (List Nat)) : List Nat := o.getD zD
def opE (o : Option (List Nat)) : Nat := if o.isSome then 0 else 10
theorem RdD.nil_len {w : World} {ao : Option Addr} {len cap : Nat} {ds : List (List Nat)} (h : RdD w (.slice ao len cap) ds) : ds.length = len := by
  obtain ⟨_, _, _, e, h1, _⟩ := h
  cases e; exact h1

theorem opD_dg {o : Option (List Nat)} (h : ∀ d, o = some d → Dg d) : Dg (opD o) := by
  cases o with
  | none => exact zD_dg
  | some d => exact h d rfl
theorem over_l (z : Int) (O : Option (List Nat)) (x : List Nat) (w : World) (hz : -9223372036854775808 ≤ z ∧ z ≤ 9223372036854775807) (hw : widthB z = true) (hO : ∀ d, O = some d → Dg d ∧ formB z d = true) (hx : Dg x) (hxf : formB z x = true) (hT : Tabs w) :
    Calls Tryd.prog 42 #[.int .i64 (opE O), .int .i64 z, .agg (brow (opD O)), .agg (brow x)] w fun e w' => e = .returned (.tuple #[.agg (brow (opD (O.map (fun y => nodS z y x)))), .int .i64 (opE (O.map (fun y => nodS z y x)))]) ∧ Kept [] w w' := by
  cases O with
  | none => exact over_bad 10 z _ _ w (by decide)
  | some d => exact over_ok z d x w hz hw (hO d rfl).1 hx (hO d rfl).2 hxf hT
theorem over_r (z : Int) (O : Option (List Nat)) (x : List Nat) (w : World) (hz : -9223372036854775808 ≤ z ∧ z ≤ 9223372036854775807) (hw : widthB z = true) (hO : ∀ d, O = some d → Dg d ∧ formB z d = true) (hx : Dg x) (hxf : formB z x = true) (hT : Tabs w) :
    Calls Tryd.prog 42 #[.int .i64 (opE O), .int .i64 z, .agg (brow x), .agg (brow (opD O))] w fun e w' => e = .returned (.tuple #[.agg (brow (opD (O.map (fun y => nodS z x y)))), .int .i64 (opE (O.map (fun y => nodS z x y)))]) ∧ Kept [] w w' := by
  cases O with
  | none => exact over_bad 10 z _ _ w (by decide)
  | some d => exact over_ok z x d w hz hw hx (hO d rfl).1 hxf (hO d rfl).2 hT

set_option maxRecDepth 100000 in
set_option maxHeartbeats 2000000 in
theorem climb_any (z : Int) (leaf : List Nat) (hz : -9223372036854775808 ≤ z ∧ z ≤ 9223372036854775807) (hw : widthB z = true) (hl : Dg leaf) (hf : formB z leaf = true) : ∀ (rp : List (List Nat)) (i n : Nat) (pv : Value) (w : World), i < n → n < 18446744073709551616 → RdD w pv rp.reverse → (∀ x ∈ rp, formB z x = true) → Tabs w →
    Calls Tryd.prog 25 #[.int .i64 z, .agg (brow leaf), .int .u64 i, .int .u64 n, pv] w fun e w' => e = .returned (.tuple #[.agg (brow (opD (clD z leaf rp i n))), .int .i64 (opE (clD z leaf rp i n))]) ∧ Kept [] w w' := by
  intro rp
  induction rp with
  | nil =>
    intro i n pv w hi hn hp hpf hT
    obtain ⟨ao, len, cap, rfl, h1, h2, h3, h4, h5⟩ := hp
    have hlen : len = 0 := by simpa using h1.symm
    subst hlen
    clear h1 h2 h3 h4 h5 hpf hT
    have hll := hl.1
    have HL := hide hl
    go_enter Tryd.func25, Tryd.ntmps25
    have HGL := hide (((Kept.refl [] (w.alloc (.cells (brow leaf) 23))).alloc (.cells (zb 32) 23)).heap (heap_alloc_new w (.cells (brow leaf) 23)) (by simp))
    have HGZ := hide (alloc_at w (.cells (brow leaf) 23) (.cells (zb 32) 23))
    have HK0 := hide (((Kept.refl [] w).alloc (.cells (brow leaf) 23)).alloc (.cells (zb 32) 23))
    by_cases h1 : n = 1
    · have h1' : ((n : Int) == 1) = true := by simp; omega
      have HC := hide (by unfold clD; rw [if_pos h1]; exact ⟨rfl, rfl⟩ : opD (clD z leaf [] i n) = leaf ∧ opE (clD z leaf [] i n) = 0)
      go_wp2_with (first
        | (refine wpList_load_mid rfl 23 _ rfl w.heap.size 0 rfl (leaf.map u8) _ (range_row (unhide HGL)) Tryd.underlying23 rfl (by rw [List.length_map, hll]; exact Tryd.size_dig) ?_)
        | (rw [zb32]; refine wpList_store_row rfl 23 _ _ rfl (w.heap.size + 1) (brow leaf) rfl rfl _ (zb 32) (unhide HGZ) (by rw [brow_size, hll]; exact Tryd.size_dig) (by rw [zb_size, brow_size, hll]) (brow_one _) ?_))
      rw [(unhide HC).1, (unhide HC).2]
      refine bodyPost_ret (v := .tuple #[.agg (brow leaf), .int .i64 0]) ?_ rfl ⟨rfl, (unhide HK0).setRow (Or.inr (by omega)) _⟩
      exact results_cell_tmp rfl _ _ (w.heap.size + 1) _ (brow leaf) (0, 0) _ rfl (setRow_heap _ _ _ _ _ _ (unhide HGZ)) Tryd.underlying23 rfl (by rw [brow_size, hll]; exact Tryd.size_dig) _ rfl
    · have h1' : ((n : Int) == 1) = false := by simp; omega
      have HC := hide (by unfold clD; rw [if_neg h1]; exact ⟨rfl, rfl⟩ : opD (clD z leaf [] i n) = zD ∧ opE (clD z leaf [] i n) = 10)
      go_wp2_with (rw [zb32]; refine wpList_store_row rfl 23 _ _ rfl (w.heap.size + 1) (zb 32) rfl rfl _ (zb 32) (unhide HGZ) (by rw [zb_size]; exact Tryd.size_dig) rfl (brow_one _) ?_)
      rw [(unhide HC).1, (unhide HC).2]
      refine bodyPost_ret (v := .tuple #[.agg (zb 32), .int .i64 10]) ?_ rfl ⟨rfl, (unhide HK0).setRow (Or.inr (by omega)) _⟩
      exact results_cell_tmp rfl _ _ (w.heap.size + 1) _ (zb 32) (0, 0) _ rfl (setRow_heap _ _ _ _ _ _ (unhide HGZ)) Tryd.underlying23 rfl (by rw [zb_size]; exact Tryd.size_dig) _ rfl
  | cons x r ih =>
    intro i n pv w hi hn hp hpf hT
    have HP := hide hp
    obtain ⟨ao, len, cap, rfl, h1, h2, h3, h4, h5⟩ := hp
    have hlen : len = r.length + 1 := by rw [← h1]; simp
    subst hlen
    clear h1 h4 h5
    have HT := hide hT
    have HPF := hide hpf
    have hll := hl.1
    have HX := hide ((unhide HP).dg (show x ∈ (x :: r).reverse by simp))
    have hxl := (unhide HX).1
    clear hT hpf
    have hfl := (opD_dg (fun d hd => (clD_ok hw hl hf (x :: r) i n d hd).1)).1
    obtain ⟨F, hF⟩ : ∃ F, clD z leaf (x :: r) i n = F := ⟨_, rfl⟩
    have HFF := hide hF
    rw [hF] at hfl ⊢
    clear hF
    go_enter Tryd.func25, Tryd.ntmps25
    have HGL := hide (((Kept.refl [] (w.alloc (.cells (brow leaf) 23))).alloc (.cells (zb 32) 23)).heap (heap_alloc_new w (.cells (brow leaf) 23)) (by simp))
    have HGZ := hide (alloc_at w (.cells (brow leaf) 23) (.cells (zb 32) 23))
    have HK0 := hide (((Kept.refl [] w).alloc (.cells (brow leaf) 23)).alloc (.cells (zb 32) 23))
    by_cases h1 : n = 1
    · have h1' : ((n : Int) == 1) = true := by simp; omega
      have hne : (((r.length : Int) + 1) != 0) = true := by simp; omega
      have HC := hide (by rw [← unhide HFF]; unfold clD; rw [if_pos h1]; exact ⟨rfl, rfl⟩ : opD F = zD ∧ opE F = 10)
      go_wp2_with (rw [zb32]; refine wpList_store_row rfl 23 _ _ rfl (w.heap.size + 1) (zb 32) rfl rfl _ (zb 32) (unhide HGZ) (by rw [zb_size]; exact Tryd.size_dig) rfl (brow_one _) ?_)
      rw [(unhide HC).1, (unhide HC).2]
      refine bodyPost_ret (v := .tuple #[.agg (zb 32), .int .i64 10]) ?_ rfl ⟨rfl, (unhide HK0).setRow (Or.inr (by omega)) _⟩
      exact results_cell_tmp rfl _ _ (w.heap.size + 1) _ (zb 32) (0, 0) _ rfl (setRow_heap _ _ _ _ _ _ (unhide HGZ)) Tryd.underlying23 rfl (by rw [zb_size]; exact Tryd.size_dig) _ rfl
    · have h1' : ((n : Int) == 1) = false := by simp; omega
      have hne : (((r.length : Int) + 1) == 0) = false := by simp; omega
      go_wp2_with fail
      refine Calls.mono (parted_any _ (x :: r).reverse r x _ ((unhide HP).old (unhide HK0)) (by simp)) ?_
      rintro e w1 ⟨u1, rfl, d1, k1⟩
      have HD1 := hide d1
      have HG1 := hide (k1.heap (unhide HGL) (by simp))
      have HZ1 := hide (k1.heap (unhide HGZ) (by simp))
      have HK1 := hide ((unhide HK0).trans k1 (by simp))
      obtain ⟨a1, n1, c1, rfl, _⟩ := id d1
      clear d1 k1 HGL HGZ
      have HXW := hide (setRow_heap (w1.alloc (.cells (zb 32) 23)) w1.heap.size (zb 32) (brow x) 23 (0, 0) (heap_alloc_new _ _))
      have k2 := ((Kept.refl [] w1).alloc (.cells (zb 32) 23)).setRow (g := w1.heap.size) (Or.inr (Nat.le_refl _)) (brow x)
      have HSX := hide (by rw [brow_size, hxl]; exact Tryd.size_dig : (Tryd.prog.info? 23).map (·.size) = some (brow x).size)
      have HSXL := hide (by rw [List.length_map, hxl]; exact Tryd.size_dig : (Tryd.prog.info? 23).map (·.size) = some (x.map u8).length)
      have HSL := hide (by rw [List.length_map, hll]; exact Tryd.size_dig : (Tryd.prog.info? 23).map (·.size) = some (leaf.map u8).length)
      have HD2 := hide ((unhide HD1).old k2)
      have HG2 := hide (k2.heap (unhide HG1) (by simp))
      have HZ2 := hide (k2.heap (unhide HZ1) (by simp))
      have HK2 := hide ((unhide HK1).trans k2 (by simp))
      clear k2 HD1 HG1 HZ1
      go_wp2_with (rw [zb32]; refine wpList_store_row rfl 23 _ _ rfl w1.heap.size (brow x) rfl rfl _ (zb 32) (heap_alloc_new _ _) (unhide HSX) (by rw [zb_size, brow_size, hxl]) (brow_one _) ?_)
      refine Calls.mono (split_any n _ (by omega) hn) ?_
      rintro e w3 ⟨rfl, k3⟩
      have HX3 := hide (k3.heap (unhide HXW) (by simp))
      have HD3 := hide ((unhide HD2).old k3)
      have HG3 := hide (k3.heap (unhide HG2) (by simp))
      have HZ3 := hide (k3.heap (unhide HZ2) (by simp))
      have HK3 := hide ((unhide HK2).trans k3 (by simp))
      clear k3 HXW HD2 HG2 HZ2
      have hk1 := spl_pos n
      have hk2 := spl_lt (n := n) (by omega)
      have HK12 := hide (unhide HK1).size
      have HXF := hide (unhide HPF x (by simp))
      have HRF := hide (fun y hy => unhide HPF y (by simp [hy]) : ∀ y ∈ r, formB z y = true)
      by_cases hik : i < spl n
      · have hik' : (i : Int) < (spl n : Nat) := by omega
        have HC := hide (by rw [← unhide HFF]; conv => lhs; unfold clD; rw [if_neg h1, if_pos hik] : F = (clD z leaf r i (spl n)).map (fun y => nodS z y x))
        have IH := fun (w' : World) (h' : RdD w' (.slice a1 n1 c1) r.reverse) (t' : Tabs w') => ih i (spl n) (.slice a1 n1 c1) w' hik (by omega) h' (unhide HRF) t'
        have HOK := hide (clD_ok hw hl hf r i (spl n))
        generalize clD z leaf r i (spl n) = O at HC IH HOK
        go_wp2_with (refine wpList_load_mid rfl 23 _ rfl w.heap.size 0 rfl (leaf.map u8) _ (range_row (unhide HG3)) Tryd.underlying23 rfl (unhide HSL) ?_)
        refine Calls.mono (IH _ (unhide HD3) ((unhide HT).k (unhide HK3))) ?_
        rintro e w4 ⟨rfl, k4⟩
        have HX4 := hide (k4.heap (unhide HX3) (by simp))
        have HZ4 := hide (k4.heap (unhide HZ3) (by simp))
        have HK4 := hide ((unhide HK3).trans k4 (by simp))
        clear k4 HX3 HD3 HG3 HZ3 IH
        have hol := (opD_dg (fun d hd => (unhide HOK d hd).1)).1
        have HSO := hide (by rw [brow_size, hol]; exact Tryd.size_dig : (Tryd.prog.info? 23).map (·.size) = some (brow (opD O)).size)
        have HSOL := hide (by rw [List.length_map, hol]; exact Tryd.size_dig : (Tryd.prog.info? 23).map (·.size) = some ((opD O).map u8).length)
        have HNW := hide (setRow_heap (w4.alloc (.cells (zb 32) 23)) w4.heap.size (zb 32) (brow (opD O)) 23 (0, 0) (heap_alloc_new _ _))
        have k5 := ((Kept.refl [] w4).alloc (.cells (zb 32) 23)).setRow (g := w4.heap.size) (Or.inr (Nat.le_refl _)) (brow (opD O))
        have HX5 := hide (k5.heap (unhide HX4) (by simp))
        have HZ5 := hide (k5.heap (unhide HZ4) (by simp))
        have HK5 := hide ((unhide HK4).trans k5 (by simp))
        clear k5 HX4 HZ4
        go_wp2_with (first
          | (rw [zb32]; refine wpList_store_row rfl 23 _ _ rfl w4.heap.size (brow (opD O)) rfl rfl _ (zb 32) (heap_alloc_new _ _) (unhide HSO) (by rw [zb_size, brow_size, hol]) (brow_one _) ?_)
          | (refine wpList_load_mid rfl 23 _ rfl w4.heap.size 0 rfl ((opD O).map u8) _ (range_row (unhide HNW)) Tryd.underlying23 rfl (unhide HSOL) ?_)
          | (refine wpList_load_mid rfl 23 _ rfl w1.heap.size 0 rfl (x.map u8) _ (range_row (unhide HX5)) Tryd.underlying23 rfl (unhide HSXL) ?_))
        refine Calls.mono (over_l z O x _ hz hw (unhide HOK) (unhide HX) (unhide HXF) ((unhide HT).k (unhide HK5))) ?_
        rintro e w6 ⟨rfl, k6⟩
        rw [← unhide HC]
        have HZ6 := hide (k6.heap (unhide HZ5) (by simp))
        have HK6 := hide ((unhide HK5).trans k6 (by simp))
        clear k6 HX5 HZ5 HNW
        go_wp2_with (refine wpList_store_row rfl 23 _ _ rfl (w.heap.size + 1) (brow (opD F)) rfl rfl _ (zb 32) (unhide HZ6) (by rw [brow_size, hfl]; exact Tryd.size_dig) (by rw [zb_size, brow_size, hfl]) (brow_one _) ?_)
        refine bodyPost_ret (v := .tuple #[.agg (brow (opD F)), .int .i64 (opE F)]) ?_ rfl ⟨rfl, (unhide HK6).setRow (Or.inr (by omega)) _⟩
        exact results_cell_tmp rfl _ _ (w.heap.size + 1) _ (brow (opD F)) (0, 0) _ rfl (setRow_heap _ _ _ _ _ _ (unhide HZ6)) Tryd.underlying23 rfl (by rw [brow_size, hfl]; exact Tryd.size_dig) _ rfl
      · have hik' : ¬ (i : Int) < (spl n : Nat) := by omega
        have hs1 : ((i : Int) - (spl n : Nat)) = ((i - spl n : Nat) : Int) := by omega
        have hs2 : ((n : Int) - (spl n : Nat)) = ((n - spl n : Nat) : Int) := by omega
        have hb1 : ((spl n : Nat) : Int) ≤ i := by omega
        have hb2 : ((spl n : Nat) : Int) ≤ n := by omega
        have HC := hide (by rw [← unhide HFF]; conv => lhs; unfold clD; rw [if_neg h1, if_neg hik] : F = (clD z leaf r (i - spl n) (n - spl n)).map (fun y => nodS z x y))
        have IH := fun (w' : World) (h' : RdD w' (.slice a1 n1 c1) r.reverse) (t' : Tabs w') => ih (i - spl n) (n - spl n) (.slice a1 n1 c1) w' (by omega) (by omega) h' (unhide HRF) t'
        have HOK := hide (clD_ok hw hl hf r (i - spl n) (n - spl n))
        generalize clD z leaf r (i - spl n) (n - spl n) = O at HC IH HOK
        go_wp2_with (refine wpList_load_mid rfl 23 _ rfl w.heap.size 0 rfl (leaf.map u8) _ (range_row (unhide HG3)) Tryd.underlying23 rfl (unhide HSL) ?_)
        refine Calls.mono (IH _ (unhide HD3) ((unhide HT).k (unhide HK3))) ?_
        rintro e w4 ⟨rfl, k4⟩
        have HX4 := hide (k4.heap (unhide HX3) (by simp))
        have HZ4 := hide (k4.heap (unhide HZ3) (by simp))
        have HK4 := hide ((unhide HK3).trans k4 (by simp))
        clear k4 HX3 HD3 HG3 HZ3 IH
        have hol := (opD_dg (fun d hd => (unhide HOK d hd).1)).1
        have HSO := hide (by rw [brow_size, hol]; exact Tryd.size_dig : (Tryd.prog.info? 23).map (·.size) = some (brow (opD O)).size)
        have HSOL := hide (by rw [List.length_map, hol]; exact Tryd.size_dig : (Tryd.prog.info? 23).map (·.size) = some ((opD O).map u8).length)
        have HNW := hide (setRow_heap (w4.alloc (.cells (zb 32) 23)) w4.heap.size (zb 32) (brow (opD O)) 23 (0, 0) (heap_alloc_new _ _))
        have k5 := ((Kept.refl [] w4).alloc (.cells (zb 32) 23)).setRow (g := w4.heap.size) (Or.inr (Nat.le_refl _)) (brow (opD O))
        have HX5 := hide (k5.heap (unhide HX4) (by simp))
        have HZ5 := hide (k5.heap (unhide HZ4) (by simp))
        have HK5 := hide ((unhide HK4).trans k5 (by simp))
        clear k5 HX4 HZ4
        go_wp2_with (first
          | (rw [zb32]; refine wpList_store_row rfl 23 _ _ rfl w4.heap.size (brow (opD O)) rfl rfl _ (zb 32) (heap_alloc_new _ _) (unhide HSO) (by rw [zb_size, brow_size, hol]) (brow_one _) ?_)
          | (refine wpList_load_mid rfl 23 _ rfl w4.heap.size 0 rfl ((opD O).map u8) _ (range_row (unhide HNW)) Tryd.underlying23 rfl (unhide HSOL) ?_)
          | (refine wpList_load_mid rfl 23 _ rfl w1.heap.size 0 rfl (x.map u8) _ (range_row (unhide HX5)) Tryd.underlying23 rfl (unhide HSXL) ?_))
        refine Calls.mono (over_r z O x _ hz hw (unhide HOK) (unhide HX) (unhide HXF) ((unhide HT).k (unhide HK5))) ?_
        rintro e w6 ⟨rfl, k6⟩
        rw [← unhide HC]
        have HZ6 := hide (k6.heap (unhide HZ5) (by simp))
        have HK6 := hide ((unhide HK5).trans k6 (by simp))
        clear k6 HX5 HZ5 HNW
        go_wp2_with (refine wpList_store_row rfl 23 _ _ rfl (w.heap.size + 1) (brow (opD F)) rfl rfl _ (zb 32) (unhide HZ6) (by rw [brow_size, hfl]; exact Tryd.size_dig) (by rw [zb_size, brow_size, hfl]) (brow_one _) ?_)
        refine bodyPost_ret (v := .tuple #[.agg (brow (opD F)), .int .i64 (opE F)]) ?_ rfl ⟨rfl, (unhide HK6).setRow (Or.inr (by omega)) _⟩
        exact results_cell_tmp rfl _ _ (w.heap.size + 1) _ (brow (opD F)) (0, 0) _ rfl (setRow_heap _ _ _ _ _ _ (unhide HZ6)) Tryd.underlying23 rfl (by rw [brow_size, hfl]; exact Tryd.size_dig) _ rfl
end Go.Proofs.YthafpaenggcpdaaDoor
namespace Go.Proofs.YthafpaenggcpdaaDoor
open Go.RowKit Go.BigFrame
set_option linter.unusedVariables false
set_option linter.unusedSimpArgs false

set_option maxRecDepth 100000 in
set_option maxHeartbeats 2000000 in
theorem mformed_any (z : Int) (pv kv : Value) (ps ks : List (List Nat)) (w : World) (hz : -9223372036854775808 ≤ z ∧ z ≤ 9223372036854775807) (hp : RdD w pv ps) (hk : RdD w kv ks) :
    Calls Tryd.prog 24 #[.int .i64 z, pv, kv] w fun e w' => e = .returned (.int .i64 (formedE z (ks ++ ps))) ∧ Kept [] w w' := by
  have HP := hide hp
  have HK := hide hk
  obtain ⟨ao, len, cap, rfl, h1, h2, h3, h4, h5⟩ := hp
  obtain ⟨ao', len', cap', rfl, h1', h2', h3', h4', h5'⟩ := hk
  clear h4 h5 h4' h5'
  obtain ⟨E, hE⟩ : ∃ E, formedE z (ks ++ ps) = E := ⟨_, rfl⟩
  have HE := hide hE
  rw [hE]
  clear hE
  go_enter Tryd.func24, Tryd.ntmps24
  by_cases hw1 : z < 1
  · have HE1 := hide (by rw [← unhide HE]; unfold formedE widthB; rw [if_pos (by simp; omega)] : E = 1)
    go_wp2
    go_ret
    exact ⟨by rw [unhide HE1]; rfl, Kept.refl _ _⟩
  · by_cases hw2 : 32 < z
    · have HE1 := hide (by rw [← unhide HE]; unfold formedE widthB; rw [if_pos (by simp; omega)] : E = 1)
      go_wp2
      go_ret
      exact ⟨by rw [unhide HE1]; rfl, Kept.refl _ _⟩
    · have HW := hide (by simp [widthB]; omega : widthB z = true)
      go_wp2_with fail
      have HK0 := hide ((Kept.refl [] w).alloc (.cells #[.slice ao' len' cap', .slice ao len cap] 25))
      have HG0 := hide (heap_alloc_new w (.cells #[.slice ao' len' cap', .slice ao len cap] 25))
      obtain ⟨W0, hW0⟩ : ∃ W0, w.alloc (.cells #[.slice ao' len' cap', .slice ao len cap] 25) = W0 := ⟨_, rfl⟩
      rw [hW0] at HK0 HG0 ⊢
      clear hW0
      go_loopw [21] (fun t21 wr => ∃ (i : Nat), i ≤ 2 ∧ t21 = .int .i64 i ∧ Hid (1 ≤ i → ks.all (formB z) = true) ∧ Hid (2 ≤ i → ps.all (formB z) = true) ∧ Hid (Kept [] W0 wr)) (fun t _ => 2 - (intOf t).toNat)
      case atStart => exact ⟨0, by omega, rfl, hide (by omega), hide (by omega), hide (Kept.refl _ _)⟩
      case round =>
        obtain ⟨i, hi, rfl, HA, HB, HK1⟩ := hrel
        by_cases hlt : i < 2
        · have hlt' : (i : Int) < 2 := by omega
          obtain ⟨la, ll, lc, ls, HLS⟩ : ∃ la ll lc ls, Hid (wr.cell? ⟨w.heap.size, i, none⟩ = some (.slice la ll lc) ∧ RdD wr (.slice la ll lc) ls ∧ (ls.all (formB z) = true → (1 ≤ i + 1 → ks.all (formB z) = true) ∧ (2 ≤ i + 1 → ps.all (formB z) = true)) ∧ (∀ y ∈ ls, y ∈ ks ++ ps)) := by
            have hg := (unhide HK1).heap (unhide HG0) (by simp)
            rcases (by omega : i = 0 ∨ i = 1) with rfl | rfl
            · exact ⟨ao', len', cap', ks, hide ⟨by rw [cell_of_row _ _ _ _ _ _ hg]; rfl, ((unhide HK).old (unhide HK0)).old (unhide HK1), fun h => ⟨fun _ => h, by omega⟩, fun y hy => by simp [hy]⟩⟩
            · exact ⟨ao, len, cap, ps, hide ⟨by rw [cell_of_row _ _ _ _ _ _ hg]; rfl, ((unhide HP).old (unhide HK0)).old (unhide HK1), fun h => ⟨fun _ => unhide HA (by omega), fun _ => h⟩, fun y hy => by simp [hy]⟩⟩
          have hcl := (unhide HLS).1
          have hll := (unhide HLS).2.1.nil_len
          have HR := hide (unhide HLS).2.1
          have HQ := hide (unhide HLS).2.2
          clear HLS
          subst hll
          go_wp2_with fail
          obtain ⟨wo, hwo⟩ : ∃ wo, wo = wr := ⟨_, rfl⟩
          subst hwo
          go_loopw [27] (fun t27 wq => ∃ (j : Nat), j ≤ ls.length ∧ t27 = .int .i64 j ∧ Hid ((ls.take j).all (formB z) = true) ∧ Hid (Kept [] wo wq)) (fun t _ => ls.length - (intOf t).toNat)
          case atStart => exact ⟨0, Nat.zero_le _, rfl, hide (by simp), hide (Kept.refl _ _)⟩
          case round =>
            obtain ⟨j, hj, rfl, HAJ, HKJ⟩ := hrel
            by_cases hjl : j < ls.length
            · have hjl' : (j : Int) < ls.length := by omega
              obtain ⟨ra, rl, rc, re, r1, r2, r3, r4, r5⟩ := unhide HR
              cases re
              obtain ⟨b, o, rfl, hcell⟩ := r5 (by omega)
              have HD := hide (r4 (ls.getD j []) (by rw [List.getD_eq_getElem?_getD, List.getElem?_eq_getElem hjl]; exact List.getElem_mem hjl))
              have HRG := hide (fun u v hv => (unhide HKJ).cell (hcell j hjl u v hv) (by simp) : wr.rangeAt b (o + j * 32) ((ls.getD j []).map Go.Proofs.YthafpaenggcpdaaDoor.u8))
              have HN := hide (by rw [List.take_succ_eq_append_getElem hjl, List.all_append, unhide HAJ, List.getD_eq_getElem?_getD, List.getElem?_eq_getElem hjl]; simp : (ls.take (j + 1)).all (formB z) = formB z (ls.getD j []))
              have HM := hide (fun (h : formB z (ls.getD j []) = false) => by
                have : (ks ++ ps).all (formB z) = false := by
                  rw [List.all_eq_false]
                  exact ⟨ls.getD j [], (unhide HQ).2 _ (by rw [List.getD_eq_getElem?_getD, List.getElem?_eq_getElem hjl]; exact List.getElem_mem hjl), by rw [h]; decide⟩
                rw [← unhide HE]; unfold formedE; rw [if_neg (by rw [unhide HW]; simp), if_neg (by rw [this]; simp)] : formB z (ls.getD j []) = false → E = 3)
              clear hcell r4 r5
              obtain ⟨d, hd⟩ : ∃ d, ls.getD j [] = d := ⟨_, rfl⟩
              rw [hd] at HD HRG HN HM
              clear hd
              have hdl := (unhide HD).1
              have HSZ := hide (by rw [brow_size, hdl]; exact Tryd.size_dig : (Tryd.prog.info? 23).map (·.size) = some (brow d).size)
              have HNW := hide (setRow_heap (wr.alloc (.cells (zb 32) 23)) wr.heap.size (zb 32) (brow d) 23 (0, 0) (heap_alloc_new _ _))
              have HKN := hide (((unhide HKJ).alloc (.cells (zb 32) 23)).setRow (g := wr.heap.size) (Or.inr (unhide HKJ).size) (brow d))
              go_wp2_with (first
                | (refine wpList_load_mid rfl 23 (.tmp 29) rfl b (o + j * 32) rfl (d.map Go.Proofs.YthafpaenggcpdaaDoor.u8) _ (unhide HRG) Tryd.underlying23 rfl (by rw [List.length_map, hdl]; exact Tryd.size_dig) ?_)
                | (rw [zb32]; refine wpList_store_row rfl 23 (.tmp 10) _ rfl wr.heap.size (brow d) rfl rfl _ (zb 32) (heap_alloc_new _ _) (unhide HSZ) (by rw [zb_size, brow_size, hdl]) (brow_one _) ?_)
                | (refine wpList_load_row rfl 23 (.tmp 10) rfl wr.heap.size rfl _ (brow d) (0, 0) _ (unhide HNW) Tryd.underlying23 rfl (unhide HSZ) ?_))
              refine Calls.mono (form_any z d _ hz hdl (unhide HD).2) ?_
              rintro e w4 ⟨rfl, k4⟩
              have HK4 := hide ((unhide HKN).trans k4 (by simp))
              clear k4
              cases hf : formB z d with
              | true =>
                rw [hf] at HN
                clear hf
                go_wp2
                go_roundw
                case rel => exact ⟨j + 1, by omega, by go_num, HN, HK4⟩
                case measure => simp [intOf]; omega
              | false =>
                have HF := hide (unhide HM hf)
                clear hf
                go_wp2
                go_ret
                exact ⟨by rw [unhide HF]; rfl, ((unhide HK0).trans (unhide HK1) (by simp)).trans (unhide HK4) (by simp)⟩
            · have hjl' : ¬ (j : Int) < ls.length := by omega
              have hje : j = ls.length := by omega
              subst hje
              rw [List.take_length] at HAJ
              have HQQ := hide ((unhide HQ).1 (unhide HAJ))
              go_wp2
              go_roundw
              case rel => exact ⟨i + 1, by omega, by go_num, hide (unhide HQQ).1, hide (unhide HQQ).2, hide ((unhide HK1).trans (unhide HKJ) (by simp))⟩
              case measure => simp [intOf]; omega
        · have hlt' : ¬ (i : Int) < 2 := by omega
          have HE1 := hide (by rw [← unhide HE]; unfold formedE; rw [if_neg (by rw [unhide HW]; simp), if_pos (by rw [List.all_append, unhide HA (by omega), unhide HB (by omega)]; rfl)] : E = 0)
          go_wp2
          go_ret
          exact ⟨by rw [unhide HE1]; rfl, (unhide HK0).trans (unhide HK1) (by simp)⟩
end Go.Proofs.YthafpaenggcpdaaDoor
namespace Go.Proofs.YthafpaenggcpdaaDoor
open Go.RowKit Go.BigFrame
set_option linter.unusedVariables false
set_option linter.unusedSimpArgs false

theorem RdD.one {w : World} {g : Nat} {l : List Nat} {t : TypeId} {fr : Nat × Nat} (h : w.heap[g]? = some (.cells (brow l) t fr)) (hl : Dg l) : RdD w (.slice (some ⟨g, 0, none⟩) 1 1) [l] := by
  refine ⟨_, 1, 1, rfl, rfl, Nat.le_refl _, by omega, fun d hd => by simp at hd; subst hd; exact hl, fun _ => ⟨g, 0, rfl, fun i hi => ?_⟩⟩
  obtain rfl : i = 0 := by omega
  exact range_row h

theorem one_dig (l : List Nat) (hl : l.length = 32) : List.foldl (fun cs x => cs.setIfInBounds x.snd x.fst) (zb 32) (List.map u8 l).zipIdx = brow l := by
  have h := fold_put (l.map u8) (zb 32) 0 0 (by rw [zb_size]; simp [hl])
  simp only [Nat.zero_add] at h
  rw [h]
  unfold brow
  rw [List.take_zero, List.nil_append, List.drop_eq_nil_of_le (by rw [List.length_map, hl, Array.length_toList, zb_size]; exact Nat.le_refl _), List.append_nil]
theorem rootE_f {z : Int} {leaf : List Nat} {i n : Nat} {p : List (List Nat)} (h : formedE z (leaf :: p) ≠ 0) : rootE z leaf i n p = formedE z (leaf :: p) ∧ rootD z leaf i n p = zD := by
  have e : rootE z leaf i n p = formedE z (leaf :: p) := by unfold rootE; rw [if_pos h]
  exact ⟨e, by unfold rootD; rw [e, if_neg h]⟩
theorem rootE_r {z : Int} {leaf : List Nat} {i n : Nat} {p : List (List Nat)} (h : formedE z (leaf :: p) = 0) (hr : n ≤ i) : rootE z leaf i n p = 4 ∧ rootD z leaf i n p = zD := by
  have e : rootE z leaf i n p = 4 := by unfold rootE; rw [if_neg (by omega), if_pos hr]
  exact ⟨e, by unfold rootD; rw [e, if_neg (by decide)]⟩
theorem rootE_c {z : Int} {leaf : List Nat} {i n : Nat} {p : List (List Nat)} (h : formedE z (leaf :: p) = 0) (hr : ¬ n ≤ i) : rootE z leaf i n p = opE (clD z leaf p.reverse i n) ∧ rootD z leaf i n p = opD (clD z leaf p.reverse i n) := by
  have e : rootE z leaf i n p = opE (clD z leaf p.reverse i n) := by unfold rootE; rw [if_neg (by omega), if_neg hr]; rfl
  refine ⟨e, ?_⟩
  unfold rootD
  rw [e]
  unfold opE opD clO
  cases clD z leaf p.reverse i n <;> rfl
theorem rootD_dg {z : Int} {leaf : List Nat} {i n : Nat} {p : List (List Nat)} (hl : Dg leaf) : Dg (rootD z leaf i n p) := by
  by_cases h : formedE z (leaf :: p) = 0
  · obtain ⟨hw, hf⟩ := formedE_zero h
    by_cases hr : n ≤ i
    · rw [(rootE_r h hr).2]; exact zD_dg
    · rw [(rootE_c h hr).2]; exact opD_dg fun d hd => (clD_ok hw hl (hf leaf (by simp)) _ _ _ d hd).1
  · rw [(rootE_f h).2]; exact zD_dg

set_option maxRecDepth 100000 in
set_option maxHeartbeats 2000000 in
theorem rootOf_any (z : Int) (leaf : List Nat) (i n : Nat) (pv : Value) (p : List (List Nat)) (w : World) (hz : -9223372036854775808 ≤ z ∧ z ≤ 9223372036854775807) (hl : Dg leaf) (hi : i < 18446744073709551616) (hn : n < 18446744073709551616) (hp : RdD w pv p) (hT : Tabs w) :
    Calls Tryd.prog 9 #[.int .i64 z, .agg (brow leaf), .int .u64 i, .int .u64 n, pv] w fun e w' => e = .returned (.tuple #[.agg (brow (rootD z leaf i n p)), .int .i64 (rootE z leaf i n p)]) ∧ Kept [] w w' := by
  have HP := hide hp
  obtain ⟨ao, len, cap, rfl, h1, h2, h3, h4, h5⟩ := hp
  clear h4 h5
  have HT := hide hT
  have HL := hide hl
  have hll := hl.1
  clear hT
  have hDl : (rootD z leaf i n p).length = 32 := (rootD_dg hl).1
  obtain ⟨D, hD⟩ : ∃ D, rootD z leaf i n p = D := ⟨_, rfl⟩
  obtain ⟨E, hE⟩ : ∃ E, rootE z leaf i n p = E := ⟨_, rfl⟩
  have HD := hide hD
  have HE := hide hE
  rw [hD] at hDl
  rw [hD, hE]
  clear hD hE
  go_enter Tryd.func9, Tryd.ntmps9
  have HGL := hide (((Kept.refl [] (w.alloc (.cells (brow leaf) 23))).alloc (.cells (zb 32) 23)).heap (heap_alloc_new w (.cells (brow leaf) 23)) (by simp))
  have HGZ := hide (alloc_at w (.cells (brow leaf) 23) (.cells (zb 32) 23))
  have HK0 := hide (((Kept.refl [] w).alloc (.cells (brow leaf) 23)).alloc (.cells (zb 32) 23))
  go_wp2_with (refine wpList_load_mid rfl 23 _ rfl w.heap.size 0 rfl (leaf.map u8) _ (range_row (unhide HGL)) Tryd.underlying23 rfl (by rw [List.length_map, hll]; exact Tryd.size_dig) ?_)
  rw [zb32, one_dig leaf hll]
  have HGA := hide (alloc3_at w (.cells (brow leaf) 23) (.cells (zb 32) 23) (.cells (brow leaf) 23))
  have k0 := (Kept.refl [] ((w.alloc (.cells (brow leaf) 23)).alloc (.cells (zb 32) 23))).alloc (.cells (brow leaf) 23)
  refine Calls.mono (mformed_any z _ _ p [leaf] _ hz ((unhide HP).old ((unhide HK0).trans k0 (by simp))) (RdD.one (unhide HGA) (unhide HL))) ?_
  rintro e w1 ⟨rfl, k1⟩
  have k01 := k0.trans k1 (by simp)
  have HK1 := hide ((unhide HK0).trans k01 (by simp))
  have HL1 := hide (k01.heap (unhide HGL) (by simp))
  have HZ1 := hide (k01.heap (unhide HGZ) (by simp))
  clear k0 k1 k01 HGL HGZ HGA
  obtain ⟨f, hf⟩ : ∃ f, formedE z ([leaf] ++ p) = f := ⟨_, rfl⟩
  have HF := hide (show formedE z (leaf :: p) = f from hf)
  rw [hf]
  clear hf
  by_cases hf0 : f = 0
  · subst hf0
    obtain ⟨hw, hff⟩ := formedE_zero (unhide HF)
    have HFF := hide hff
    clear hff
    by_cases hr : n ≤ i
    · have hr' : (n : Int) ≤ i := by omega
      have HC := hide (by rw [← unhide HE, ← unhide HD]; exact rootE_r (unhide HF) hr : E = 4 ∧ D = zD)
      go_wp2_with (rw [zb32]; refine wpList_store_row rfl 23 _ _ rfl (w.heap.size + 1) (zb 32) rfl rfl _ (zb 32) (unhide HZ1) (by rw [zb_size]; exact Tryd.size_dig) rfl (brow_one _) ?_)
      rw [(unhide HC).1, (unhide HC).2]
      refine bodyPost_ret (v := .tuple #[.agg (zb 32), .int .i64 4]) ?_ rfl ⟨rfl, (unhide HK1).setRow (Or.inr (by omega)) _⟩
      exact results_cell_tmp rfl _ _ (w.heap.size + 1) _ (zb 32) (0, 0) _ rfl (setRow_heap _ _ _ _ _ _ (unhide HZ1)) Tryd.underlying23 rfl (by rw [zb_size]; exact Tryd.size_dig) _ rfl
    · have hr' : ¬ (n : Int) ≤ i := by omega
      have HC := hide (by rw [← unhide HE, ← unhide HD]; exact rootE_c (unhide HF) hr : E = opE (clD z leaf p.reverse i n) ∧ D = opD (clD z leaf p.reverse i n))
      go_wp2_with (refine wpList_load_mid rfl 23 _ rfl w.heap.size 0 rfl (leaf.map u8) _ (range_row (unhide HL1)) Tryd.underlying23 rfl (by rw [List.length_map, hll]; exact Tryd.size_dig) ?_)
      refine Calls.mono (climb_any z leaf hz hw (unhide HL) (unhide HFF leaf (by simp)) p.reverse i n _ _ (by omega) hn (by rw [List.reverse_reverse]; exact (unhide HP).old (unhide HK1)) (fun y hy => unhide HFF y (by simp at hy; simp [hy])) ((unhide HT).k (unhide HK1))) ?_
      rintro e w2 ⟨rfl, k2⟩
      rw [← (unhide HC).1, ← (unhide HC).2]
      have HZ2 := hide (k2.heap (unhide HZ1) (by simp))
      have HK2 := hide ((unhide HK1).trans k2 (by simp))
      clear k2 HZ1 HL1
      go_wp2_with (refine wpList_store_row rfl 23 _ _ rfl (w.heap.size + 1) (brow D) rfl rfl _ (zb 32) (unhide HZ2) (by rw [brow_size, hDl]; exact Tryd.size_dig) (by rw [zb_size, brow_size, hDl]) (brow_one _) ?_)
      refine bodyPost_ret (v := .tuple #[.agg (brow D), .int .i64 E]) ?_ rfl ⟨rfl, (unhide HK2).setRow (Or.inr (by omega)) _⟩
      exact results_cell_tmp rfl _ _ (w.heap.size + 1) _ (brow D) (0, 0) _ rfl (setRow_heap _ _ _ _ _ _ (unhide HZ2)) Tryd.underlying23 rfl (by rw [brow_size, hDl]; exact Tryd.size_dig) _ rfl
  · have hb : ((f : Int) != 0) = true := by simp; omega
    have HC := hide (by rw [← unhide HE, ← unhide HD, ← unhide HF]; exact rootE_f (by rw [unhide HF]; exact hf0) : E = f ∧ D = zD)
    go_wp2_with (rw [zb32]; refine wpList_store_row rfl 23 _ _ rfl (w.heap.size + 1) (zb 32) rfl rfl _ (zb 32) (unhide HZ1) (by rw [zb_size]; exact Tryd.size_dig) rfl (brow_one _) ?_)
    rw [(unhide HC).1, (unhide HC).2]
    refine bodyPost_ret (v := .tuple #[.agg (zb 32), .int .i64 f]) ?_ rfl ⟨rfl, (unhide HK1).setRow (Or.inr (by omega)) _⟩
    exact results_cell_tmp rfl _ _ (w.heap.size + 1) _ (zb 32) (0, 0) _ rfl (setRow_heap _ _ _ _ _ _ (unhide HZ1)) Tryd.underlying23 rfl (by rw [zb_size]; exact Tryd.size_dig) _ rfl
end Go.Proofs.YthafpaenggcpdaaDoor
namespace Go.Proofs.YthafpaenggcpdaaDoor
open Go.RowKit Go.BigFrame
set_option linter.unusedVariables false
set_option linter.unusedSimpArgs false

set_option maxRecDepth 100000 in
set_option maxHeartbeats 2000000 in
theorem path_any (k : Nat) (leaf : List Nat) (hk : 1 ≤ k ∧ k ≤ 32) (hl : Dg leaf) : ∀ (rp : List (List Nat)) (i n : Nat) (pv : Value) (w : World), i < n → n < 18446744073709551616 → RdD w pv rp.reverse →
    Calls Tryd.prog 27 #[.int .i64 k, .agg (brow leaf), .int .u64 i, .int .u64 n, pv] w fun e w' => ∃ d, e = .returned (.tuple #[.agg (brow d), .bool (clD k leaf rp i n).isSome]) ∧ Dg d ∧ (∀ x, clD k leaf rp i n = some x → d = x) ∧ Kept [] w w' := by
  intro rp
  induction rp with
  | nil =>
    intro i n pv w hi hn hp
    obtain ⟨ao, len, cap, rfl, h1, h2, h3, h4, h5⟩ := hp
    have hlen : len = 0 := by simpa using h1.symm
    subst hlen
    clear h1 h2 h3 h4 h5
    have hll := hl.1
    have HL := hide hl
    obtain ⟨F, hF⟩ : ∃ F, clD k leaf [] i n = F := ⟨_, rfl⟩
    have HFF := hide hF
    rw [hF]
    clear hF
    go_enter Tryd.func27, Tryd.ntmps27
    have HGL := hide (((Kept.refl [] (w.alloc (.cells (brow leaf) 23))).alloc (.cells (zb 32) 23)).heap (heap_alloc_new w (.cells (brow leaf) 23)) (by simp))
    have HGZ := hide (alloc_at w (.cells (brow leaf) 23) (.cells (zb 32) 23))
    have HK0 := hide (((Kept.refl [] w).alloc (.cells (brow leaf) 23)).alloc (.cells (zb 32) 23))
    by_cases h1 : n = 1
    · have h1' : ((n : Int) == 1) = true := by simp; omega
      have HC := hide (by rw [← unhide HFF]; unfold clD; rw [if_pos h1] : F = some leaf)
      go_wp2_with (first
        | (refine wpList_load_mid rfl 23 _ rfl w.heap.size 0 rfl (leaf.map u8) _ (range_row (unhide HGL)) Tryd.underlying23 rfl (by rw [List.length_map, hll]; exact Tryd.size_dig) ?_)
        | (rw [zb32]; refine wpList_store_row rfl 23 _ _ rfl (w.heap.size + 1) (brow leaf) rfl rfl _ (zb 32) (unhide HGZ) (by rw [brow_size, hll]; exact Tryd.size_dig) (by rw [zb_size, brow_size, hll]) (brow_one _) ?_))
      refine bodyPost_ret (v := .tuple #[.agg (brow leaf), .bool true]) ?_ rfl ⟨leaf, by rw [unhide HC]; rfl, unhide HL, (fun y hy => by rw [unhide HC] at hy; cases hy; rfl), (unhide HK0).setRow (Or.inr (by omega)) _⟩
      exact results_cell_tmp rfl _ _ (w.heap.size + 1) _ (brow leaf) (0, 0) _ rfl (setRow_heap _ _ _ _ _ _ (unhide HGZ)) Tryd.underlying23 rfl (by rw [brow_size, hll]; exact Tryd.size_dig) _ rfl
    · have h1' : ((n : Int) == 1) = false := by simp; omega
      have HC := hide (by rw [← unhide HFF]; unfold clD; rw [if_neg h1] : F = none)
      go_wp2_with (rw [zb32]; refine wpList_store_row rfl 23 _ _ rfl (w.heap.size + 1) (zb 32) rfl rfl _ (zb 32) (unhide HGZ) (by rw [zb_size]; exact Tryd.size_dig) rfl (brow_one _) ?_)
      refine bodyPost_ret (v := .tuple #[.agg (zb 32), .bool false]) ?_ rfl ⟨zD, by rw [unhide HC]; rfl, zD_dg, (fun y hy => by rw [unhide HC] at hy; cases hy), (unhide HK0).setRow (Or.inr (by omega)) _⟩
      exact results_cell_tmp rfl _ _ (w.heap.size + 1) _ (zb 32) (0, 0) _ rfl (setRow_heap _ _ _ _ _ _ (unhide HGZ)) Tryd.underlying23 rfl (by rw [zb_size]; exact Tryd.size_dig) _ rfl
  | cons x r ih =>
    intro i n pv w hi hn hp
    have HP := hide hp
    obtain ⟨ao, len, cap, rfl, h1, h2, h3, h4, h5⟩ := hp
    have hlen : len = r.length + 1 := by rw [← h1]; simp
    subst hlen
    clear h1 h4 h5
    have hll := hl.1
    have HL := hide hl
    have HX := hide ((unhide HP).dg (show x ∈ (x :: r).reverse by simp))
    have hxl := (unhide HX).1
    obtain ⟨F, hF⟩ : ∃ F, clD k leaf (x :: r) i n = F := ⟨_, rfl⟩
    have HFF := hide hF
    rw [hF]
    clear hF
    go_enter Tryd.func27, Tryd.ntmps27
    have HGL := hide (((Kept.refl [] (w.alloc (.cells (brow leaf) 23))).alloc (.cells (zb 32) 23)).heap (heap_alloc_new w (.cells (brow leaf) 23)) (by simp))
    have HGZ := hide (alloc_at w (.cells (brow leaf) 23) (.cells (zb 32) 23))
    have HK0 := hide (((Kept.refl [] w).alloc (.cells (brow leaf) 23)).alloc (.cells (zb 32) 23))
    by_cases h1 : n = 1
    · have h1' : ((n : Int) == 1) = true := by simp; omega
      have hne : (((r.length : Int) + 1) == 0) = false := by simp; omega
      have HC := hide (by rw [← unhide HFF]; unfold clD; rw [if_pos h1] : F = none)
      go_wp2_with (first
        | (refine wpList_load_mid rfl 23 _ rfl w.heap.size 0 rfl (leaf.map u8) _ (range_row (unhide HGL)) Tryd.underlying23 rfl (by rw [List.length_map, hll]; exact Tryd.size_dig) ?_)
        | (rw [zb32]; refine wpList_store_row rfl 23 _ _ rfl (w.heap.size + 1) (brow leaf) rfl rfl _ (zb 32) (unhide HGZ) (by rw [brow_size, hll]; exact Tryd.size_dig) (by rw [zb_size, brow_size, hll]) (brow_one _) ?_))
      refine bodyPost_ret (v := .tuple #[.agg (brow leaf), .bool false]) ?_ rfl ⟨leaf, by rw [unhide HC]; rfl, unhide HL, (fun y hy => by rw [unhide HC] at hy; cases hy), (unhide HK0).setRow (Or.inr (by omega)) _⟩
      exact results_cell_tmp rfl _ _ (w.heap.size + 1) _ (brow leaf) (0, 0) _ rfl (setRow_heap _ _ _ _ _ _ (unhide HGZ)) Tryd.underlying23 rfl (by rw [brow_size, hll]; exact Tryd.size_dig) _ rfl
    · have h1' : ((n : Int) == 1) = false := by simp; omega
      have hne : (((r.length : Int) + 1) == 0) = false := by simp; omega
      go_wp2_with fail
      refine Calls.mono (ended_any _ (x :: r).reverse r x _ ((unhide HP).old (unhide HK0)) (by simp)) ?_
      rintro e w1 ⟨u1, rfl, d1, k1⟩
      have HD1 := hide d1
      have HG1 := hide (k1.heap (unhide HGL) (by simp))
      have HZ1 := hide (k1.heap (unhide HGZ) (by simp))
      have HK1 := hide ((unhide HK0).trans k1 (by simp))
      obtain ⟨a1, n1, c1, rfl, _⟩ := id d1
      clear d1 k1 HGL HGZ
      have HXW := hide (setRow_heap (w1.alloc (.cells (zb 32) 23)) w1.heap.size (zb 32) (brow x) 23 (0, 0) (heap_alloc_new _ _))
      have k2 := ((Kept.refl [] w1).alloc (.cells (zb 32) 23)).setRow (g := w1.heap.size) (Or.inr (Nat.le_refl _)) (brow x)
      have HSX := hide (by rw [brow_size, hxl]; exact Tryd.size_dig : (Tryd.prog.info? 23).map (·.size) = some (brow x).size)
      have HSXL := hide (by rw [List.length_map, hxl]; exact Tryd.size_dig : (Tryd.prog.info? 23).map (·.size) = some (x.map u8).length)
      have HSL := hide (by rw [List.length_map, hll]; exact Tryd.size_dig : (Tryd.prog.info? 23).map (·.size) = some (leaf.map u8).length)
      have HD2 := hide ((unhide HD1).old k2)
      have HG2 := hide (k2.heap (unhide HG1) (by simp))
      have HZ2 := hide (k2.heap (unhide HZ1) (by simp))
      have HK2 := hide ((unhide HK1).trans k2 (by simp))
      clear k2 HD1 HG1 HZ1
      go_wp2_with (rw [zb32]; refine wpList_store_row rfl 23 _ _ rfl w1.heap.size (brow x) rfl rfl _ (zb 32) (heap_alloc_new _ _) (unhide HSX) (by rw [zb_size, brow_size, hxl]) (brow_one _) ?_)
      refine Calls.mono (refSplit_any n _ (by omega) hn) ?_
      rintro e w3 ⟨rfl, k3⟩
      have HX3 := hide (k3.heap (unhide HXW) (by simp))
      have HD3 := hide ((unhide HD2).old k3)
      have HG3 := hide (k3.heap (unhide HG2) (by simp))
      have HZ3 := hide (k3.heap (unhide HZ2) (by simp))
      have HK3 := hide ((unhide HK2).trans k3 (by simp))
      clear k3 HXW HD2 HG2 HZ2
      have hk1 := spl_pos n
      have hk2 := spl_lt (n := n) (by omega)
      have HK12 := hide (unhide HK1).size
      by_cases hik : i < spl n
      · have hik' : (i : Int) < (spl n : Nat) := by omega
        have HC := hide (by rw [← unhide HFF]; conv => lhs; unfold clD; rw [if_neg h1, if_pos hik] : F = (clD k leaf r i (spl n)).map (fun y => nodS k y x))
        have IH := fun (w' : World) (h' : RdD w' (.slice a1 n1 c1) r.reverse) => ih i (spl n) (.slice a1 n1 c1) w' hik (by omega) h'
        generalize clD k leaf r i (spl n) = O at HC IH
        go_wp2_with (refine wpList_load_mid rfl 23 _ rfl w.heap.size 0 rfl (leaf.map u8) _ (range_row (unhide HG3)) Tryd.underlying23 rfl (unhide HSL) ?_)
        refine Calls.mono (IH _ (unhide HD3)) ?_
        rintro e w4 ⟨d4, rfl, g4, q4, k4⟩
        have HOK := hide (And.intro g4 q4)
        have HX4 := hide (k4.heap (unhide HX3) (by simp))
        have HZ4 := hide (k4.heap (unhide HZ3) (by simp))
        have HK4 := hide ((unhide HK3).trans k4 (by simp))
        clear k4 HX3 HD3 HG3 HZ3 IH g4 q4
        have hol := (unhide HOK).1.1
        have HSO := hide (by rw [brow_size, hol]; exact Tryd.size_dig : (Tryd.prog.info? 23).map (·.size) = some (brow d4).size)
        have HSOL := hide (by rw [List.length_map, hol]; exact Tryd.size_dig : (Tryd.prog.info? 23).map (·.size) = some (d4.map u8).length)
        have HNW := hide (setRow_heap (w4.alloc (.cells (zb 32) 23)) w4.heap.size (zb 32) (brow d4) 23 (0, 0) (heap_alloc_new _ _))
        have k5 := ((Kept.refl [] w4).alloc (.cells (zb 32) 23)).setRow (g := w4.heap.size) (Or.inr (Nat.le_refl _)) (brow d4)
        have HX5 := hide (k5.heap (unhide HX4) (by simp))
        have HZ5 := hide (k5.heap (unhide HZ4) (by simp))
        have HK5 := hide ((unhide HK4).trans k5 (by simp))
        clear k5 HX4 HZ4
        go_wp2_with (first
          | (rw [zb32]; refine wpList_store_row rfl 23 _ _ rfl w4.heap.size (brow d4) rfl rfl _ (zb 32) (heap_alloc_new _ _) (unhide HSO) (by rw [zb_size, brow_size, hol]) (brow_one _) ?_)
          | (refine wpList_load_mid rfl 23 _ rfl w4.heap.size 0 rfl (d4.map u8) _ (range_row (unhide HNW)) Tryd.underlying23 rfl (unhide HSOL) ?_)
          | (refine wpList_load_mid rfl 23 _ rfl w1.heap.size 0 rfl (x.map u8) _ (range_row (unhide HX5)) Tryd.underlying23 rfl (unhide HSXL) ?_))
        refine Calls.mono (refNode_any k d4 x _ hk (unhide HOK).1 (unhide HX)) ?_
        rintro e w6 ⟨rfl, k6⟩
        have hfl := (nodS_dg k d4 x).1
        have HND := hide (nodS_dg k d4 x)
        have HEQ := hide (fun y (hy : F = some y) => by rw [unhide HC] at hy; obtain ⟨u, hu, rfl⟩ := Option.map_eq_some_iff.1 hy; rw [(unhide HOK).2 u hu] : ∀ y, F = some y → nodS k d4 x = y)
        have HIS := hide (by rw [unhide HC]; cases O <;> rfl : O.isSome = F.isSome)
        generalize nodS k d4 x = N at hfl HND HEQ
        have HZ6 := hide (k6.heap (unhide HZ5) (by simp))
        have HK6 := hide ((unhide HK5).trans k6 (by simp))
        clear k6 HX5 HZ5 HNW
        go_wp2_with (refine wpList_store_row rfl 23 _ _ rfl (w.heap.size + 1) (brow N) rfl rfl _ (zb 32) (unhide HZ6) (by rw [brow_size, hfl]; exact Tryd.size_dig) (by rw [zb_size, brow_size, hfl]) (brow_one _) ?_)
        refine bodyPost_ret (v := .tuple #[.agg (brow N), .bool O.isSome]) ?_ rfl ⟨N, by rw [unhide HIS], unhide HND, unhide HEQ, (unhide HK6).setRow (Or.inr (by omega)) _⟩
        exact results_cell_tmp rfl _ _ (w.heap.size + 1) _ (brow N) (0, 0) _ rfl (setRow_heap _ _ _ _ _ _ (unhide HZ6)) Tryd.underlying23 rfl (by rw [brow_size, hfl]; exact Tryd.size_dig) _ rfl
      · have hik' : ¬ (i : Int) < (spl n : Nat) := by omega
        have hs1 : ((i : Int) - (spl n : Nat)) = ((i - spl n : Nat) : Int) := by omega
        have hs2 : ((n : Int) - (spl n : Nat)) = ((n - spl n : Nat) : Int) := by omega
        have hb1 : ((spl n : Nat) : Int) ≤ i := by omega
        have hb2 : ((spl n : Nat) : Int) ≤ n := by omega
        have HC := hide (by rw [← unhide HFF]; conv => lhs; unfold clD; rw [if_neg h1, if_neg hik] : F = (clD k leaf r (i - spl n) (n - spl n)).map (fun y => nodS k x y))
        have IH := fun (w' : World) (h' : RdD w' (.slice a1 n1 c1) r.reverse) => ih (i - spl n) (n - spl n) (.slice a1 n1 c1) w' (by omega) (by omega) h'
        generalize clD k leaf r (i - spl n) (n - spl n) = O at HC IH
        go_wp2_with (refine wpList_load_mid rfl 23 _ rfl w.heap.size 0 rfl (leaf.map u8) _ (range_row (unhide HG3)) Tryd.underlying23 rfl (unhide HSL) ?_)
        refine Calls.mono (IH _ (unhide HD3)) ?_
        rintro e w4 ⟨d4, rfl, g4, q4, k4⟩
        have HOK := hide (And.intro g4 q4)
        have HX4 := hide (k4.heap (unhide HX3) (by simp))
        have HZ4 := hide (k4.heap (unhide HZ3) (by simp))
        have HK4 := hide ((unhide HK3).trans k4 (by simp))
        clear k4 HX3 HD3 HG3 HZ3 IH g4 q4
        have hol := (unhide HOK).1.1
        have HSO := hide (by rw [brow_size, hol]; exact Tryd.size_dig : (Tryd.prog.info? 23).map (·.size) = some (brow d4).size)
        have HSOL := hide (by rw [List.length_map, hol]; exact Tryd.size_dig : (Tryd.prog.info? 23).map (·.size) = some (d4.map u8).length)
        have HNW := hide (setRow_heap (w4.alloc (.cells (zb 32) 23)) w4.heap.size (zb 32) (brow d4) 23 (0, 0) (heap_alloc_new _ _))
        have k5 := ((Kept.refl [] w4).alloc (.cells (zb 32) 23)).setRow (g := w4.heap.size) (Or.inr (Nat.le_refl _)) (brow d4)
        have HX5 := hide (k5.heap (unhide HX4) (by simp))
        have HZ5 := hide (k5.heap (unhide HZ4) (by simp))
        have HK5 := hide ((unhide HK4).trans k5 (by simp))
        clear k5 HX4 HZ4
        go_wp2_with (first
          | (rw [zb32]; refine wpList_store_row rfl 23 _ _ rfl w4.heap.size (brow d4) rfl rfl _ (zb 32) (heap_alloc_new _ _) (unhide HSO) (by rw [zb_size, brow_size, hol]) (brow_one _) ?_)
          | (refine wpList_load_mid rfl 23 _ rfl w4.heap.size 0 rfl (d4.map u8) _ (range_row (unhide HNW)) Tryd.underlying23 rfl (unhide HSOL) ?_)
          | (refine wpList_load_mid rfl 23 _ rfl w1.heap.size 0 rfl (x.map u8) _ (range_row (unhide HX5)) Tryd.underlying23 rfl (unhide HSXL) ?_))
        refine Calls.mono (refNode_any k x d4 _ hk (unhide HX) (unhide HOK).1) ?_
        rintro e w6 ⟨rfl, k6⟩
        have hfl := (nodS_dg k x d4).1
        have HND := hide (nodS_dg k x d4)
        have HEQ := hide (fun y (hy : F = some y) => by rw [unhide HC] at hy; obtain ⟨u, hu, rfl⟩ := Option.map_eq_some_iff.1 hy; rw [(unhide HOK).2 u hu] : ∀ y, F = some y → nodS k x d4 = y)
        have HIS := hide (by rw [unhide HC]; cases O <;> rfl : O.isSome = F.isSome)
        generalize nodS k x d4 = N at hfl HND HEQ
        have HZ6 := hide (k6.heap (unhide HZ5) (by simp))
        have HK6 := hide ((unhide HK5).trans k6 (by simp))
        clear k6 HX5 HZ5 HNW
        go_wp2_with (refine wpList_store_row rfl 23 _ _ rfl (w.heap.size + 1) (brow N) rfl rfl _ (zb 32) (unhide HZ6) (by rw [brow_size, hfl]; exact Tryd.size_dig) (by rw [zb_size, brow_size, hfl]) (brow_one _) ?_)
        refine bodyPost_ret (v := .tuple #[.agg (brow N), .bool O.isSome]) ?_ rfl ⟨N, by rw [unhide HIS], unhide HND, unhide HEQ, (unhide HK6).setRow (Or.inr (by omega)) _⟩
        exact results_cell_tmp rfl _ _ (w.heap.size + 1) _ (brow N) (0, 0) _ rfl (setRow_heap _ _ _ _ _ _ (unhide HZ6)) Tryd.underlying23 rfl (by rw [brow_size, hfl]; exact Tryd.size_dig) _ rfl
end Go.Proofs.YthafpaenggcpdaaDoor
namespace Go.Proofs.YthafpaenggcpdaaDoor
open Go.RowKit Go.BigFrame
set_option linter.unusedVariables false
set_option linter.unusedSimpArgs false

/-- The cells of digests in a row. -/
def flatD (ds : List (List Nat)) : List Value := (ds.map fun d => d.map u8).flatten
theorem flatD_len {ds : List (List Nat)} (h : ∀ d ∈ ds, d.length = 32) : (flatD ds).length = ds.length * 32 := by
  induction ds with
  | nil => rfl
  | cons d r ih =>
    have := ih (fun x hx => h x (by simp [hx]))
    simp only [flatD, List.map_cons, List.flatten_cons, List.length_append, List.length_map, List.length_cons] at this ⊢
    rw [this, h d (by simp)]; omega
theorem flatD_app (a b : List (List Nat)) : flatD (a ++ b) = flatD a ++ flatD b := by simp [flatD]
theorem flatD_one (ds : List (List Nat)) : ∀ v ∈ flatD ds, v.oneCell' = true := by
  intro v hv
  simp only [flatD, List.mem_flatten, List.mem_map] at hv
  obtain ⟨l, ⟨d, _, rfl⟩, h⟩ := hv
  exact u8_oneCell d v h
theorem flatD_at {ds : List (List Nat)} (h : ∀ d ∈ ds, d.length = 32) : ∀ (i : Nat), i < ds.length → ∀ j, j < 32 → (flatD ds)[i * 32 + j]? = ((ds.getD i []).map u8)[j]? := by
  induction ds with
  | nil => intro i hi; simp at hi
  | cons d r ih =>
    intro i hi j hj
    have hd := h d (by simp)
    have e : flatD (d :: r) = d.map u8 ++ flatD r := by simp [flatD]
    rw [e]
    cases i with
    | zero =>
      rw [Nat.zero_mul, Nat.zero_add, List.getElem?_append_left (by simp [hd]; exact hj)]; rfl
    | succ i =>
      rw [List.getElem?_append_right (by simp [hd]; omega), List.length_map, hd, show (i + 1) * 32 + j - 32 = i * 32 + j by omega, ih (fun x hx => h x (by simp [hx])) i (by simpa using hi) j hj]
      rfl
theorem RdD.news {w : World} {b off n c : Nat} {ds : List (List Nat)} (h : RdD w (.slice (some ⟨b, off, none⟩) n c) ds) : ∀ j u, (flatD ds)[j]? = some u → w.cell? ((⟨b, off, none⟩ : Addr).add j) = some u := by
  obtain ⟨ao', len', cap', e, h1, h2, h3, h4, h5⟩ := h
  cases e
  intro j u hu
  have hl := flatD_len (fun d hd => (h4 d hd).1)
  have hj := (List.getElem?_eq_some_iff.1 hu).1
  have hp : 0 < n := by
    rcases Nat.eq_zero_or_pos n with h0 | h0
    · rw [hl, h1, h0] at hj; omega
    · exact h0
  obtain ⟨b', off', e, hc⟩ := h5 hp
  cases e
  have hi : j / 32 < ds.length := by omega
  have hq := flatD_at (fun d hd => (h4 d hd).1) (j / 32) hi (j % 32) (Nat.mod_lt _ (by decide))
  rw [show j / 32 * 32 + j % 32 = j by omega, hu] at hq
  have := hc (j / 32) (by omega) (j % 32) u hq.symm
  rw [Addr.add_mid]
  rw [show off + j / 32 * 32 + j % 32 = off + j by omega] at this
  exact this
theorem rdd_owns {w : World} {base : Nat} {v : Value} {ds : List (List Nat)} (h : w.ownsRow base 23 32 v ds.length (flatD ds)) (hd : ∀ d ∈ ds, Dg d) : RdD w v ds := by
  rcases h.2 with ⟨rfl, h0⟩ | ⟨g, cap, cur, rfl, _, hg, h1, h2, h3, h4⟩
  · exact ⟨none, 0, 0, rfl, h0, Nat.le_refl _, by omega, hd, fun h => by omega⟩
  · refine ⟨_, ds.length, cap, rfl, rfl, h1, by unfold maxLen at h2; omega, hd, fun hp => ⟨g, 0, rfl, fun i hi j v hv => ?_⟩⟩
    have hj : j < 32 := by
      have := (List.getElem?_eq_some_iff.1 hv).1
      rw [List.length_map, List.getD_eq_getElem?_getD, List.getElem?_eq_getElem hi] at this
      rw [← (hd ds[i] (List.getElem_mem hi)).1]; exact this
    have hq := flatD_at (fun d hd' => (hd d hd').1) i hi j hj
    rw [Nat.zero_add, cell_of_row _ _ _ _ _ _ hg, ← hv, ← hq, ← h4, List.getElem?_take_of_lt (by omega), Array.getElem?_toList]

theorem Tryd.infoD : (Tryd.prog.info? 23).map (fun i => (i.zero, i.size, i.bytes)) = some (some (.agg (zb 32)), 32, 32) := by kernel_rfl

theorem owns_form {w : World} {base : Nat} {e : TypeId} {size n : Nat} {v : Value} {xs : List Value} (h : w.ownsRow base e size v n xs) : ∃ ao cap, v = .slice ao n cap := by
  rcases h.2 with ⟨rfl, rfl⟩ | ⟨g, cap, cur, rfl, _⟩
  · exact ⟨none, 0, rfl⟩
  · exact ⟨_, cap, rfl⟩
theorem append_none {P : Program} {w : World} (base : Nat) (t ty e : TypeId) (i : TypeInfo) (size c : Nat) (ht : P.underlying t = some (.slice e)) (hi : P.info? e = some i)
    (v : Value) (n : Nat) (xs : List Value) (hown : w.ownsRow base e size v n xs) :
    (Builtin.append_ #[t, t] ty #[v, .slice none 0 c]).run P w = .ok v w := by
  rcases hown.2 with ⟨rfl, rfl⟩ | ⟨g, cap, cur, rfl, _, _, hnc, _⟩
  · simp [Builtin.append_, run_underlying ht, sizeOf, typeInfo, hi, Builtin.lenOf, Builtin.firstCells]
  · simp [Builtin.append_, run_underlying ht, sizeOf, typeInfo, hi, Builtin.lenOf, Builtin.firstCells, hnc, storeCells]

theorem appendD (w : World) (base : Nat) (v : Value) (ds ps : List (List Nat)) (ao : Option Addr) (n c : Nat) (h : w.ownsRow base 23 32 v ds.length (flatD ds)) (hr : RdD w (.slice ao n c) ps) (hl : ds.length + ps.length ≤ 1000000000000) (hb : base ≤ w.heap.size) :
    ∃ ao' cap' w1, (Builtin.append_ #[25, 25] 25 #[v, .slice ao n c]).run Tryd.prog w = .ok (.slice ao' (ds.length + ps.length) cap') w1 ∧
      w1.ownsRow base 23 32 (.slice ao' (ds.length + ps.length) cap') (ds ++ ps).length (flatD (ds ++ ps)) ∧ w.grownBy w1 v.ownBlock := by
  obtain ⟨i0, hi, hz0, hz1, hz2⟩ := info_parts Tryd.infoD
  have hn := hr.nil_len
  have hdg : ∀ d ∈ ps, d.length = 32 := fun d hd => (hr.dg hd).1
  rw [flatD_app, List.length_append]
  by_cases h0 : n = 0
  · subst h0
    have hp : ps = [] := List.eq_nil_of_length_eq_zero hn
    subst hp
    cases ao with
    | none =>
      have hrun := append_none (P := Tryd.prog) (w := w) base 25 25 23 i0 32 c Tryd.underlying25 hi v ds.length (flatD ds) h
      obtain ⟨ao', cap', rfl⟩ := owns_form h
      exact ⟨ao', cap', w, hrun, by simpa [flatD] using h, World.grownBy.refl _ _⟩
    | some ad =>
      obtain ⟨v', w1, hrun, hown, hgrow, _, hat⟩ := run_append_own_at (P := Tryd.prog) w base 25 25 23 i0 (.agg (zb 32)) 32 32 Tryd.underlying25 hi hz0 hz1 hz2 (by show (zb 32).size = 32; exact zb_size 32) (by decide)
        v ds.length (flatD ds) h ad 0 c (flatD []) (by simp [flatD]) (by intro j u hj; simp [flatD] at hj) (flatD_one _) (by unfold maxLen; omega) (by omega) hb
      obtain ⟨ao', cap', rfl⟩ := owns_form hown
      exact ⟨ao', cap', w1, hrun, hown, hgrow⟩
  · have hr' := hr
    obtain ⟨ao1, n1, c1, he, h1, h2, h3, h4, h5⟩ := hr'
    cases he
    obtain ⟨b, off, rfl, hc⟩ := h5 (by omega)
    obtain ⟨v', w1, hrun, hown, hgrow, _, hat⟩ := run_append_own_at (P := Tryd.prog) w base 25 25 23 i0 (.agg (zb 32)) 32 32 Tryd.underlying25 hi hz0 hz1 hz2 (by show (zb 32).size = 32; exact zb_size 32) (by decide)
      v ds.length (flatD ds) h ⟨b, off, none⟩ n c (flatD ps) (by rw [flatD_len hdg, hn]) hr.news (flatD_one _) (by unfold maxLen; omega) (by omega) hb
    subst h1
    obtain ⟨ao', cap', rfl⟩ := owns_form hown
    exact ⟨ao', cap', w1, hrun, hown, hgrow⟩

theorem wpList_appendD {ops : Array Oper} {rest : List Oper} {o : Oper} {a : Act} {Q : Exit → Act → World → Prop} (hgd : o.guard = none) (s x : Operand)
    (ho : o.op = .call { callee := .builtin .append, args := #[s, x], argTypes := #[25, 25] }) (hty : o.type = 25)
    (w : World) (base : Nat) (v : Value) (ds ps : List (List Nat)) (ao : Option Addr) (n c : Nat) (h : w.ownsRow base 23 32 v ds.length (flatD ds)) (hr : RdD w (.slice ao n c) ps) (hl : ds.length + ps.length ≤ 1000000000000) (hb : base ≤ w.heap.size)
    (hs : a.eval s = v) (hx : a.eval x = .slice ao n c)
    (hK : ∀ ao' cap' w1, Hid (w1.ownsRow base 23 32 (.slice ao' (ds.length + ps.length) cap') (ds ++ ps).length (flatD (ds ++ ps))) → Hid (w.grownBy w1 v.ownBlock) →
      wpList Tryd.prog ops Q rest (a.put o.dst (.slice ao' (ds.length + ps.length) cap')) w1) :
    wpList Tryd.prog ops Q (o :: rest) a w := by
  obtain ⟨ao', cap', w1, hrun, h2, h3⟩ := appendD w base v ds ps ao n c h hr hl hb
  refine wpList_plain hgd fun K hK' => ?_
  unfold Oper.wp execOp
  simp only [ho, hty, resolve, invoke, builtin, Sem.run_bind, Sem.run_pure, Result.andThen_ok, List.map_toArray, List.map_cons, List.map_nil, hs, hx, hrun]
  exact hK' _ _ (hK ao' cap' w1 h2 h3)

set_option maxRecDepth 100000 in
set_option maxHeartbeats 1000000 in
theorem twinD_any (v : Value) (ds : List (List Nat)) (w : World) (hv : RdD w v ds) (hl : ds.length ≤ 1048576) :
    Calls Tryd.prog 10 #[v] w fun e w' => ∃ u, e = .returned u ∧ RdD w' u ds ∧ Kept [] w w' ∧ w'.ownsRow w.heap.size 23 32 u ds.length (flatD ds) := by
  have HV := hide hv
  obtain ⟨ao, len, cap, rfl, h1, h2, h3, h4, h5⟩ := hv
  subst h1
  clear h4 h5
  go_enter Tryd.func10, Tryd.ntmps10
  have HO := hide (World.ownsRow_made (base := w.heap.size) (e := 23) (size := 32) w #[] 0 (Nat.le_refl _) (by unfold maxLen; omega) (by simp))
  have HV1 := hide ((unhide HV).old ((Kept.refl [] w).alloc (.cells #[] 23)))
  go_wp2_with (at_builtin; refine wpList_appendD rfl (.tmp 3) (.tmp 4) rfl rfl _ w.heap.size (.slice (some ⟨w.heap.size, 0, none⟩) 0 0) [] ds ao ds.length cap (by exact unhide HO) (by exact unhide HV1) (by simp; omega) (by simp) rfl rfl ?_; intro ao1 cap1 w1 HO1 HG1; simp only [List.nil_append, List.length_nil, Nat.zero_add] at HO1; have HK1 := hide (((Kept.refl [] w).alloc _).grown (unhide HG1) (by intro k hk; right; simp [Value.ownBlock] at hk; omega)); clear HG1; simp only [List.length_nil, Nat.zero_add])
  go_ret
  exact ⟨_, rfl, rdd_owns (unhide HO1) (fun d hd => (unhide HV).dg hd), unhide HK1, unhide HO1⟩
end Go.Proofs.YthafpaenggcpdaaDoor
namespace Go.Proofs.YthafpaenggcpdaaDoor
open Go.RowKit Go.BigFrame
set_option linter.unusedVariables false
set_option linter.unusedSimpArgs false

theorem own_lit1 (w : World) (l : List Nat) (hl : l.length = 32) : (w.alloc (.cells (brow l) 23)).ownsRow w.heap.size 23 32 (.slice (some ⟨w.heap.size, 0, none⟩) 1 1) ([l] : List (List Nat)).length (flatD [l]) := by
  have h := World.ownsRow_lit (base := w.heap.size) (e := 23) (size := 32) w (brow l) 1 (Nat.le_refl _) (by unfold maxLen; omega) (by rw [brow_size, hl])
  have e : (brow l).toList = flatD [l] := by simp [flatD, brow]
  rw [e] at h
  exact h

set_option maxRecDepth 100000 in
set_option maxHeartbeats 2000000 in
theorem docRootOf_any (z : Int) (leaf : List Nat) (i n : Nat) (pv : Value) (p : List (List Nat)) (w : World) (hz : -9223372036854775808 ≤ z ∧ z ≤ 9223372036854775807) (hl : Dg leaf) (hi : i < 18446744073709551616) (hn : n < 18446744073709551616) (hp : RdD w pv p) (hpl : p.length ≤ 1048576) :
    Calls Tryd.prog 11 #[.int .i64 z, .agg (brow leaf), .int .u64 i, .int .u64 n, pv] w fun e w' => e = .returned (.tuple #[.agg (brow (rootD z leaf i n p)), .int .i64 (rootE z leaf i n p)]) ∧ Kept [] w w' := by
  have HP := hide hp
  obtain ⟨ao, len, cap, rfl, h1, h2, h3, h4, h5⟩ := hp
  clear h4 h5
  subst h1
  have HL := hide hl
  have hll := hl.1
  have hDl : (rootD z leaf i n p).length = 32 := (rootD_dg hl).1
  obtain ⟨D, hD⟩ : ∃ D, rootD z leaf i n p = D := ⟨_, rfl⟩
  obtain ⟨E, hE⟩ : ∃ E, rootE z leaf i n p = E := ⟨_, rfl⟩
  have HD := hide hD
  have HE := hide hE
  rw [hD] at hDl
  rw [hD, hE]
  clear hD hE
  go_enter Tryd.func11, Tryd.ntmps11
  have HGL := hide (((Kept.refl [] (w.alloc (.cells (brow leaf) 23))).alloc (.cells (zb 32) 23)).heap (heap_alloc_new w (.cells (brow leaf) 23)) (by simp))
  have HGZ := hide (alloc_at w (.cells (brow leaf) 23) (.cells (zb 32) 23))
  have HK0 := hide (((Kept.refl [] w).alloc (.cells (brow leaf) 23)).alloc (.cells (zb 32) 23))
  obtain ⟨W0, hW0⟩ : ∃ W0, (w.alloc (.cells (brow leaf) 23)).alloc (.cells (zb 32) 23) = W0 := ⟨_, rfl⟩
  have hsz : w.heap.size + 1 + 1 = W0.heap.size := by rw [← hW0]; simp
  have HLIT := hide (by have := own_lit1 W0 leaf hll; rwa [← hsz, ← hW0] at this : (((w.alloc (.cells (brow leaf) 23)).alloc (.cells (zb 32) 23)).alloc (.cells (brow leaf) 23)).ownsRow (w.heap.size + 1 + 1) 23 32 (.slice (some ⟨w.heap.size + 1 + 1, 0, none⟩) 1 1) ([leaf] : List (List Nat)).length (flatD [leaf]))
  clear hW0 hsz W0
  have k0 := (Kept.refl [] ((w.alloc (.cells (brow leaf) 23)).alloc (.cells (zb 32) 23))).alloc (.cells (brow leaf) 23)
  have HK00 := hide k0
  have HP0 := hide ((unhide HP).old ((unhide HK0).trans k0 (by simp)))
  clear k0
  go_wp2_with (first
    | (refine wpList_load_mid rfl 23 _ rfl w.heap.size 0 rfl (leaf.map u8) _ (range_row (unhide HGL)) Tryd.underlying23 rfl (by rw [List.length_map, hll]; exact Tryd.size_dig) ?_)
    | (at_builtin; rw [zb32, one_dig leaf hll]; refine wpList_appendD rfl (.tmp 17) (.tmp 18) rfl rfl _ (w.heap.size + 1 + 1) (.slice (some ⟨w.heap.size + 1 + 1, 0, none⟩) 1 1) [leaf] p ao p.length cap (by exact unhide HLIT) (by exact unhide HP0) (by simp; omega) (by simp) rfl rfl ?_; intro ao1 cap1 w1 HO1 HG1; have HKG := hide ((unhide HK00).grown (unhide HG1) (by intro k hk; right; simp [Value.ownBlock] at hk; subst hk; simp)); clear HG1))
  have HR1 := hide (rdd_owns (unhide HO1) (fun d hd => by rcases List.mem_append.1 hd with h | h; simp at h; subst h; exact unhide HL; exact (unhide HP).dg h))
  have HK1' := hide ((unhide HK0).trans (unhide HKG) (by simp))
  have HL1' := hide ((unhide HKG).heap (unhide HGL) (by simp))
  have HZ1' := hide ((unhide HKG).heap (unhide HGZ) (by simp))
  clear HGL HGZ HO1 HKG HLIT HK00 HP0
  refine Calls.mono (refCheck_any z _ ([leaf] ++ p) _ hz (unhide HR1)) ?_
  rintro e w2 ⟨rfl, k2⟩
  have HK1 := hide ((unhide HK1').trans k2 (by simp))
  have HL1 := hide (k2.heap (unhide HL1') (by simp))
  have HZ1 := hide (k2.heap (unhide HZ1') (by simp))
  clear k2 HK1' HL1' HZ1' HR1
  obtain ⟨f, hf⟩ : ∃ f, formedE z ([leaf] ++ p) = f := ⟨_, rfl⟩
  have HF := hide (show formedE z (leaf :: p) = f from hf)
  rw [hf]
  clear hf
  by_cases hf0 : f = 0
  · subst hf0
    obtain ⟨hw, hff⟩ := formedE_zero (unhide HF)
    by_cases hr : n ≤ i
    · have hr' : (n : Int) ≤ i := by omega
      have HC := hide (by rw [← unhide HE, ← unhide HD]; exact rootE_r (unhide HF) hr : E = 4 ∧ D = zD)
      go_wp2_with (rw [zb32]; refine wpList_store_row rfl 23 _ _ rfl (w.heap.size + 1) (zb 32) rfl rfl _ (zb 32) (unhide HZ1) (by rw [zb_size]; exact Tryd.size_dig) rfl (brow_one _) ?_)
      rw [(unhide HC).1, (unhide HC).2]
      refine bodyPost_ret (v := .tuple #[.agg (zb 32), .int .i64 4]) ?_ rfl ⟨rfl, (unhide HK1).setRow (Or.inr (by omega)) _⟩
      exact results_cell_tmp rfl _ _ (w.heap.size + 1) _ (zb 32) (0, 0) _ rfl (setRow_heap _ _ _ _ _ _ (unhide HZ1)) Tryd.underlying23 rfl (by rw [zb_size]; exact Tryd.size_dig) _ rfl
    · have hr' : ¬ (n : Int) ≤ i := by omega
      have hwd : 1 ≤ z ∧ z ≤ 32 := by simpa [widthB] using hw
      obtain ⟨k, rfl⟩ : ∃ k : Nat, z = k := ⟨z.toNat, by omega⟩
      have HC := hide (by rw [← unhide HE, ← unhide HD]; exact rootE_c (unhide HF) hr : E = opE (clD k leaf p.reverse i n) ∧ D = opD (clD k leaf p.reverse i n))
      go_wp2_with (refine wpList_load_mid rfl 23 _ rfl w.heap.size 0 rfl (leaf.map u8) _ (range_row (unhide HL1)) Tryd.underlying23 rfl (by rw [List.length_map, hll]; exact Tryd.size_dig) ?_)
      refine Calls.mono (path_any k leaf ⟨by omega, by omega⟩ (unhide HL) p.reverse i n _ _ (by omega) hn (by rw [List.reverse_reverse]; exact (unhide HP).old (unhide HK1))) ?_
      rintro e w3 ⟨d3, rfl, g3, q3, k3⟩
      generalize clD k leaf p.reverse i n = O at HC q3
      have HQ := hide q3
      have HD3 := hide g3
      have hol := g3.1
      have HZ3 := hide (k3.heap (unhide HZ1) (by simp))
      have HK3 := hide ((unhide HK1).trans k3 (by simp))
      clear g3 q3 k3 HZ1 HL1
      have HSO := hide (by rw [brow_size, hol]; exact Tryd.size_dig : (Tryd.prog.info? 23).map (·.size) = some (brow d3).size)
      have HSOL := hide (by rw [List.length_map, hol]; exact Tryd.size_dig : (Tryd.prog.info? 23).map (·.size) = some (d3.map u8).length)
      have HNW := hide (setRow_heap (w3.alloc (.cells (zb 32) 23)) w3.heap.size (zb 32) (brow d3) 23 (0, 0) (heap_alloc_new _ _))
      have k5 := ((Kept.refl [] w3).alloc (.cells (zb 32) 23)).setRow (g := w3.heap.size) (Or.inr (Nat.le_refl _)) (brow d3)
      have HZ5 := hide (k5.heap (unhide HZ3) (by simp))
      have HK5 := hide ((unhide HK3).trans k5 (by simp))
      clear k5 HZ3
      cases O with
      | some d0 =>
        have HQ2 := hide (unhide HQ d0 rfl)
        have HE2 := hide (by rw [(unhide HC).1]; rfl : E = 0)
        have HD2 := hide (by rw [(unhide HC).2, unhide HQ2]; rfl : D = d3)
        go_wp2_with (first
          | (rw [zb32]; refine wpList_store_row rfl 23 _ _ rfl w3.heap.size (brow d3) rfl rfl _ (zb 32) (heap_alloc_new _ _) (unhide HSO) (by rw [zb_size, brow_size, hol]) (brow_one _) ?_)
          | (refine wpList_load_mid rfl 23 _ rfl w3.heap.size 0 rfl (d3.map u8) _ (range_row (unhide HNW)) Tryd.underlying23 rfl (unhide HSOL) ?_)
          | (refine wpList_store_row rfl 23 _ _ rfl (w.heap.size + 1) (brow d3) rfl rfl _ (zb 32) (unhide HZ5) (unhide HSO) (by rw [zb_size, brow_size, hol]) (brow_one _) ?_))
        rw [unhide HE2, unhide HD2]
        refine bodyPost_ret (v := .tuple #[.agg (brow d3), .int .i64 0]) ?_ rfl ⟨rfl, (unhide HK5).setRow (Or.inr (by omega)) _⟩
        exact results_cell_tmp rfl _ _ (w.heap.size + 1) _ (brow d3) (0, 0) _ rfl (setRow_heap _ _ _ _ _ _ (unhide HZ5)) Tryd.underlying23 rfl (unhide HSO) _ rfl
      | none =>
        have HE2 := hide (by rw [(unhide HC).1]; rfl : E = 10)
        have HD2 := hide (by rw [(unhide HC).2]; rfl : D = zD)
        go_wp2_with (first
          | (rw [zb32]; refine wpList_store_row rfl 23 _ _ rfl w3.heap.size (brow d3) rfl rfl _ (zb 32) (heap_alloc_new _ _) (unhide HSO) (by rw [zb_size, brow_size, hol]) (brow_one _) ?_)
          | (rw [zb32]; refine wpList_store_row rfl 23 _ _ rfl (w.heap.size + 1) (zb 32) rfl rfl _ (zb 32) (unhide HZ5) (by rw [zb_size]; exact Tryd.size_dig) rfl (brow_one _) ?_))
        rw [unhide HE2, unhide HD2]
        refine bodyPost_ret (v := .tuple #[.agg (zb 32), .int .i64 10]) ?_ rfl ⟨rfl, (unhide HK5).setRow (Or.inr (by omega)) _⟩
        exact results_cell_tmp rfl _ _ (w.heap.size + 1) _ (zb 32) (0, 0) _ rfl (setRow_heap _ _ _ _ _ _ (unhide HZ5)) Tryd.underlying23 rfl (by rw [zb_size]; exact Tryd.size_dig) _ rfl
  · have hb : ((f : Int) != 0) = true := by simp; omega
    have hb2 : ((f : Int) == 0) = false := by simp; omega
    have HC := hide (by rw [← unhide HE, ← unhide HD, ← unhide HF]; exact rootE_f (by rw [unhide HF]; exact hf0) : E = f ∧ D = zD)
    go_wp2_with (rw [zb32]; refine wpList_store_row rfl 23 _ _ rfl (w.heap.size + 1) (zb 32) rfl rfl _ (zb 32) (unhide HZ1) (by rw [zb_size]; exact Tryd.size_dig) rfl (brow_one _) ?_)
    rw [(unhide HC).1, (unhide HC).2]
    refine bodyPost_ret (v := .tuple #[.agg (zb 32), .int .i64 f]) ?_ rfl ⟨rfl, (unhide HK1).setRow (Or.inr (by omega)) _⟩
    exact results_cell_tmp rfl _ _ (w.heap.size + 1) _ (zb 32) (0, 0) _ rfl (setRow_heap _ _ _ _ _ _ (unhide HZ1)) Tryd.underlying23 rfl (by rw [zb_size]; exact Tryd.size_dig) _ rfl
end Go.Proofs.YthafpaenggcpdaaDoor
namespace Go.Proofs.YthafpaenggcpdaaDoor
open Go.RowKit Go.BigFrame
set_option linter.unusedVariables false
set_option linter.unusedSimpArgs false

def prE (b : Bool) : Nat := if b then 0 else 10

set_option maxRecDepth 100000 in
set_option maxHeartbeats 1000000 in
theorem proven_any (b : Bool) (w : World) :
    Calls Tryd.prog 28 #[.bool b] w fun e w' => e = .returned (.int .i64 (prE b)) ∧ w' = w := by
  go_enter Tryd.func28, Tryd.ntmps28
  cases b with
  | true =>
    go_wp2
    go_ret
    exact ⟨rfl, rfl⟩
  | false =>
    go_wp2
    go_ret
    exact ⟨rfl, rfl⟩

set_option maxRecDepth 100000 in
set_option maxHeartbeats 2000000 in
theorem inclusion_any (z : Int) (leaf : List Nat) (i n : Nat) (pv : Value) (p : List (List Nat)) (root : List Nat) (w : World) (hz : -9223372036854775808 ≤ z ∧ z ≤ 9223372036854775807) (hl : Dg leaf) (hr : Dg root) (hi : i < 18446744073709551616) (hn : n < 18446744073709551616) (hp : RdD w pv p) (hT : Tabs w) :
    Calls Tryd.prog 13 #[.int .i64 z, .agg (brow leaf), .int .u64 i, .int .u64 n, pv, .agg (brow root)] w fun e w' => e = .returned (.int .i64 (incE z leaf i n p root)) ∧ Kept [] w w' := by
  have HP := hide hp
  obtain ⟨ao, len, cap, rfl, h1, h2, h3, h4, h5⟩ := hp
  clear h4 h5
  have HT := hide hT
  have HL := hide hl
  have HR := hide hr
  have hll := hl.1
  have hrl := hr.1
  have hlb := hl.2
  have hrb := hr.2
  clear hT
  obtain ⟨E, hE⟩ : ∃ E, incE z leaf i n p root = E := ⟨_, rfl⟩
  have HE := hide hE
  rw [hE]
  clear hE
  go_enter Tryd.func13, Tryd.ntmps13
  have HGL := hide (((Kept.refl [] (w.alloc (.cells (brow leaf) 23))).alloc (.cells (brow root) 23)).heap (heap_alloc_new w (.cells (brow leaf) 23)) (by simp))
  have HGR := hide (alloc_at w (.cells (brow leaf) 23) (.cells (brow root) 23))
  have HK0 := hide (((Kept.refl [] w).alloc (.cells (brow leaf) 23)).alloc (.cells (brow root) 23))
  have HSL := hide (by rw [List.length_map, hll]; exact Tryd.size_dig : (Tryd.prog.info? 23).map (·.size) = some (leaf.map u8).length)
  have HSM := hide (by rw [List.length_map, hrl]; exact Tryd.size_dig : (Tryd.prog.info? 23).map (·.size) = some (root.map u8).length)
  have hfs : ∀ A : Array Value, (List.foldl (fun cs x => cs.setIfInBounds x.snd x.fst) A (List.map u8 leaf).zipIdx).size = A.size := fun A => fold_size _ A 0
  go_wp2_with (first
    | (refine wpList_load_mid rfl 23 _ rfl w.heap.size 0 rfl (leaf.map u8) _ (range_row (unhide HGL)) Tryd.underlying23 rfl (unhide HSL) ?_)
    | (refine wpList_load_mid rfl 23 _ rfl (w.heap.size + 1) 0 rfl (root.map u8) _ (range_row (unhide HGR)) Tryd.underlying23 rfl (unhide HSM) ?_))
  rw [zb64, two_digs leaf root hll hrl]
  clear hfs
  have k0 := (Kept.refl [] ((w.alloc (.cells (brow leaf) 23)).alloc (.cells (brow root) 23))).alloc (.cells (leaf.map u8 ++ root.map u8).toArray 23)
  refine Calls.mono (mformed_any z _ _ p [leaf, root] _ hz ((unhide HP).old ((unhide HK0).trans k0 (by simp))) (RdD.two (alloc3_at _ _ _ _) hll hrl hlb hrb)) ?_
  rintro e w1 ⟨rfl, k1⟩
  have k01 := k0.trans k1 (by simp)
  have HK1 := hide ((unhide HK0).trans k01 (by simp))
  have HL1 := hide (k01.heap (unhide HGL) (by simp))
  have HR1 := hide (k01.heap (unhide HGR) (by simp))
  clear k0 k1 k01 HGL HGR
  obtain ⟨f, hf⟩ : ∃ f, formedE z ([leaf, root] ++ p) = f := ⟨_, rfl⟩
  have HF := hide (show formedE z (leaf :: root :: p) = f from hf)
  rw [hf]
  clear hf
  by_cases hf0 : f = 0
  · subst hf0
    go_wp2_with (refine wpList_load_mid rfl 23 _ rfl w.heap.size 0 rfl (leaf.map u8) _ (range_row (unhide HL1)) Tryd.underlying23 rfl (unhide HSL) ?_)
    refine Calls.mono (rootOf_any z leaf i n _ p _ hz (unhide HL) hi hn ((unhide HP).old (unhide HK1)) ((unhide HT).k (unhide HK1))) ?_
    rintro e w2 ⟨rfl, k2⟩
    have HDG := hide (rootD_dg (z := z) (i := i) (n := n) (p := p) (unhide HL))
    obtain ⟨D, hD⟩ : ∃ D, rootD z leaf i n p = D := ⟨_, rfl⟩
    obtain ⟨G, hG⟩ : ∃ G, rootE z leaf i n p = G := ⟨_, rfl⟩
    rw [hD] at HDG
    have hdl := (unhide HDG).1
    have HD := hide hD
    have HG := hide hG
    rw [hD, hG]
    clear hD hG
    have HR2 := hide (k2.heap (unhide HR1) (by simp))
    have HK2 := hide ((unhide HK1).trans k2 (by simp))
    clear k2 HL1 HR1
    have HSO := hide (by rw [brow_size, hdl]; exact Tryd.size_dig : (Tryd.prog.info? 23).map (·.size) = some (brow D).size)
    have HSOL := hide (by rw [List.length_map, hdl]; exact Tryd.size_dig : (Tryd.prog.info? 23).map (·.size) = some (D.map u8).length)
    have HNW := hide (setRow_heap (w2.alloc (.cells (zb 32) 23)) w2.heap.size (zb 32) (brow D) 23 (0, 0) (heap_alloc_new _ _))
    have k5 := ((Kept.refl [] w2).alloc (.cells (zb 32) 23)).setRow (g := w2.heap.size) (Or.inr (Nat.le_refl _)) (brow D)
    have HR5 := hide (k5.heap (unhide HR2) (by simp))
    have HK5 := hide ((unhide HK2).trans k5 (by simp))
    clear k5 HR2
    by_cases hg0 : G = 0
    · subst hg0
      have hqd : ∀ W, (Op.equalIn 10000 23 (.agg (D.map u8).toArray) (.agg (root.map u8).toArray)).run Tryd.prog W = .ok (decide (D = root)) W := fun W => dig_eq W D root hdl hrl
      go_wp2_with (first
        | (rw [zb32]; refine wpList_store_row rfl 23 _ _ rfl w2.heap.size (brow D) rfl rfl _ (zb 32) (heap_alloc_new _ _) (unhide HSO) (by rw [zb_size, brow_size, hdl]) (brow_one _) ?_)
        | (refine wpList_load_mid rfl 23 _ rfl w2.heap.size 0 rfl (D.map u8) _ (range_row (unhide HNW)) Tryd.underlying23 rfl (unhide HSOL) ?_)
        | (refine wpList_load_mid rfl 23 _ rfl (w.heap.size + 1) 0 rfl (root.map u8) _ (range_row (unhide HR5)) Tryd.underlying23 rfl (unhide HSM) ?_))
      have HC := hide (by rw [← unhide HE]; unfold incE; rw [if_neg (by rw [unhide HF]; simp), if_neg (by rw [unhide HG]; simp), unhide HD] : E = if D = root then 0 else 10)
      refine Calls.mono (proven_any (decide (D = root)) _) ?_
      rintro e w6 ⟨rfl, rfl⟩
      have HC2 := hide (by rw [unhide HC]; by_cases h9 : D = root; rw [if_pos h9]; simp [prE, h9]; rw [if_neg h9]; simp [prE, h9] : E = prE (decide (D = root)))
      generalize decide (D = root) = B at HC2
      generalize prE B = R at HC2
      go_wp2
      go_ret
      exact ⟨by rw [unhide HC2]; rfl, unhide HK5⟩
    · have hb : ((G : Int) != 0) = true := by simp; omega
      have HC := hide (by rw [← unhide HE]; unfold incE; rw [if_neg (by rw [unhide HF]; simp), if_pos (by rw [unhide HG]; exact hg0), unhide HG] : E = G)
      go_wp2_with (rw [zb32]; refine wpList_store_row rfl 23 _ _ rfl w2.heap.size (brow D) rfl rfl _ (zb 32) (heap_alloc_new _ _) (unhide HSO) (by rw [zb_size, brow_size, hdl]) (brow_one _) ?_)
      go_ret
      exact ⟨by rw [unhide HC]; rfl, unhide HK5⟩
  · have hb : ((f : Int) != 0) = true := by simp; omega
    have HC := hide (by rw [← unhide HE, ← unhide HF]; unfold incE; rw [if_pos (by rw [unhide HF]; exact hf0)] : E = f)
    go_wp2
    go_ret
    exact ⟨by rw [unhide HC]; rfl, unhide HK1⟩
end Go.Proofs.YthafpaenggcpdaaDoor
namespace Go.Proofs.YthafpaenggcpdaaDoor
open Go.RowKit Go.BigFrame
set_option linter.unusedVariables false
set_option linter.unusedSimpArgs false

theorem Tryd.size_roots : (Tryd.prog.info? 59).map (·.size) = some 64 := by kernel_rfl
/-- A pair of roots. -/
def pw (d : List Nat × List Nat) : Array Value := (d.1.map u8 ++ d.2.map u8).toArray
def opP (o : Option (List Nat × List Nat)) : List Nat × List Nat := o.getD (zD, zD)
def opF (o : Option (List Nat × List Nat)) : Nat := if o.isSome then 0 else 10

theorem foldl_set (vs : List Value) : ∀ (pre mid post : List Value) (k : Nat), mid.length = vs.length → ((vs.zipIdx k).foldl (fun cs (p : Value × Nat) => cs.setIfInBounds (pre.length + p.2 - k) p.1) (pre ++ (mid ++ post)).toArray) = (pre ++ (vs ++ post)).toArray := by
  induction vs with
  | nil => intro pre mid post k h; have : mid = [] := List.eq_nil_of_length_eq_zero (by simpa using h); subst this; rfl
  | cons v r ih =>
    intro pre mid post k h
    obtain ⟨x, mid, rfl⟩ : ∃ x q, mid = x :: q := by cases mid with | nil => simp at h | cons x q => exact ⟨x, q, rfl⟩
    rw [List.zipIdx_cons, List.foldl_cons]
    have e1 : (pre ++ (x :: mid ++ post)).toArray.setIfInBounds (pre.length + k - k) v = ((pre ++ [v]) ++ (mid ++ post)).toArray := by rw [Nat.add_sub_cancel]; simp
    have h2 := ih (pre ++ [v]) mid post (k + 1) (by simpa using h)
    simp only [e1]
    rw [List.length_append, List.length_cons, List.length_nil] at h2
    have e2 : (fun (cs : Array Value) (p : Value × Nat) => cs.setIfInBounds (pre.length + p.2 - k) p.1) = fun cs p => cs.setIfInBounds (pre.length + (0 + 1) + p.2 - (k + 1)) p.1 := by funext cs p; congr 1; omega
    rw [e2, h2]; simp
theorem pw_size {d : List Nat × List Nat} (h1 : d.1.length = 32) (h2 : d.2.length = 32) : (pw d).size = 64 := by simp [pw, h1, h2]
theorem pw_one (d : List Nat × List Nat) : (pw d).all (·.oneCell') = true := by
  rw [Array.all_eq_true_iff_forall_mem]
  intro v hv
  simp [pw] at hv
  rcases hv with ⟨x, _, rfl⟩ | ⟨x, _, rfl⟩ <;> rfl
set_option maxRecDepth 100000 in
theorem Tryd.size_pz : (Tryd.prog.info? 59).map (·.size) = some (pw (zD, zD)).size := by rw [pw_size rfl rfl]; exact Tryd.size_roots
set_option maxRecDepth 100000 in
theorem built_pair (l m : List Nat) (hl : l.length = 32) (hm : m.length = 32) : Tryd.prog.built 59 [(0, .agg (l.map u8).toArray), (1, .agg (m.map u8).toArray)] = some (pw (l, m)) := by
  have hi : (Tryd.prog.info? 59).isSome = true := by kernel_rfl
  obtain ⟨it, hit⟩ := Option.isSome_iff_exists.1 hi
  have hz : (Tryd.prog.info? 59).bind (·.zero) = some (.agg (pw (zD, zD))) := by kernel_rfl
  rw [hit, Option.bind_some] at hz
  have hpl : ∀ fs, Tryd.prog.underlying 59 = some (.struct fs) → fs.toList.mapM (fun f => (Tryd.prog.info? f.type).map fun i => (f.offset, i.size)) = some [(0, 32), (32, 32)] := by
    intro fs hfs
    rw [Tryd.underlying59] at hfs
    injection hfs with hfs
    injection hfs with hfs
    subst hfs
    kernel_rfl
  have hex : ∃ fs, Tryd.prog.underlying 59 = some (.struct fs) := ⟨_, Tryd.underlying59⟩
  obtain ⟨fs, hfs⟩ := hex
  have hpl := hpl fs hfs
  unfold Program.built
  rw [hit, hfs]
  simp only [hz, hpl]
  have z1 : zD.length = 32 := zD_dg.1
  have f2 := foldl_set (l.map u8) [] (zD.map u8) (zD.map u8) 0 (by simp [hl, z1])
  have f3 := foldl_set (m.map u8) (l.map u8) (zD.map u8) [] 0 (by simp [hm, z1])
  simp [Instr.fill, Value.cells, pw, hl, hm, z1] at f2 f3 ⊢
  rw [f2]
  exact ⟨by simp [hl, z1], f3⟩

set_option maxRecDepth 100000 in
set_option maxHeartbeats 1000000 in
theorem lowest_any (old : List Nat) (b : Bool) (pv : Value) (p : List (List Nat)) (w : World) (ho : Dg old) (hp : RdD w pv p) (z : Int) (n : Nat) :
    Calls Tryd.prog 48 #[.agg (brow old), .bool b, pv] w fun e w' => e = .returned (.tuple #[.agg (pw (opP (twD z old p.reverse n n b))), .int .i64 (opF (twD z old p.reverse n n b))]) ∧ Kept [] w w' := by
  have HP := hide hp
  obtain ⟨ao, len, cap, rfl, h1, h2, h3, h4, h5⟩ := hp
  subst h1
  have H5 := hide h5
  clear h4 h5
  have HO := hide ho
  have hol := ho.1
  obtain ⟨F, hF⟩ : ∃ F, twD z old p.reverse n n b = F := ⟨_, rfl⟩
  have HF := hide hF
  rw [hF]
  clear hF
  go_enter Tryd.func48, Tryd.ntmps48
  have HGL := hide (((Kept.refl [] (w.alloc (.cells (brow old) 23))).alloc (.cells (zb 64) 59)).heap (heap_alloc_new w (.cells (brow old) 23)) (by simp))
  have HGZ := hide (alloc_at w (.cells (brow old) 23) (.cells (zb 64) 59))
  have HK0 := hide (((Kept.refl [] w).alloc (.cells (brow old) 23)).alloc (.cells (zb 64) 59))
  match p, HP, H5, HF, h2 with
  | [], HP, H5, HF, h2 =>
    clear H5
    simp only [List.length_nil] at *
    cases b with
    | true =>
      have HC := hide (by rw [← unhide HF]; simp [twD] : F = some (old, old))
      go_wp2_with (first
        | (refine wpList_load_mid rfl 23 _ rfl w.heap.size 0 rfl (old.map u8) _ (range_row (unhide HGL)) Tryd.underlying23 rfl (by rw [List.length_map, hol]; exact Tryd.size_dig) ?_)
        | (refine wpList_build_as rfl 59 _ rfl (pw (old, old)) (by simp only [List.map_toArray, List.map_cons, List.map_nil]; exact built_pair old old hol hol) ?_)
        | (rw [zb64]; refine wpList_store_row rfl 59 _ _ rfl (w.heap.size + 1) (pw (old, old)) rfl rfl _ (zb 64) (unhide HGZ) (by rw [pw_size hol hol]; exact Tryd.size_roots) (by rw [zb_size, pw_size hol hol]) (pw_one _) ?_))
      rw [unhide HC]
      refine bodyPost_ret (v := .tuple #[.agg (pw (old, old)), .int .i64 0]) ?_ rfl ⟨rfl, (unhide HK0).setRow (Or.inr (by omega)) _⟩
      exact results_cell_tmp rfl _ _ (w.heap.size + 1) _ (pw (old, old)) (0, 0) _ rfl (setRow_heap _ _ _ _ _ _ (unhide HGZ)) Tryd.underlying59 rfl (by rw [pw_size hol hol]; exact Tryd.size_roots) _ rfl
    | false =>
      have HC := hide (by rw [← unhide HF]; simp [twD] : F = none)
      go_wp2_with (first
        | (refine wpList_build_as rfl 59 #[] rfl (pw (zD, zD)) (by kernel_rfl) ?_)
        | (rw [zb64]; refine wpList_store_row rfl 59 _ _ rfl (w.heap.size + 1) (pw (zD, zD)) rfl rfl _ (zb 64) (unhide HGZ) Tryd.size_pz (by rw [zb_size, pw_size rfl rfl]) (pw_one _) ?_))
      rw [unhide HC]
      refine bodyPost_ret (v := .tuple #[.agg (pw (zD, zD)), .int .i64 10]) ?_ rfl ⟨rfl, (unhide HK0).setRow (Or.inr (by omega)) _⟩
      exact results_cell_tmp rfl _ _ (w.heap.size + 1) _ (pw (zD, zD)) (0, 0) _ rfl (setRow_heap _ _ _ _ _ _ (unhide HGZ)) Tryd.underlying59 rfl Tryd.size_pz _ rfl
  | [x], HP, H5, HF, h2 =>
    have hx := (unhide HP).dg (show x ∈ [x] by simp)
    have hxl := hx.1
    obtain ⟨b0, off, rfl, hc⟩ := unhide H5 (by simp)
    have HRG := hide (range_kept (by simpa using hc 0 (by simp) : w.rangeAt b0 off (x.map u8)) (unhide HK0) (by simp))
    clear H5 hc hx
    simp only [List.length_cons, List.length_nil, Nat.zero_add] at *
    cases b with
    | true =>
      have HC := hide (by rw [← unhide HF]; simp [twD] : F = none)
      go_wp2_with (first
        | (refine wpList_build_as rfl 59 #[] rfl (pw (zD, zD)) (by kernel_rfl) ?_)
        | (rw [zb64]; refine wpList_store_row rfl 59 _ _ rfl (w.heap.size + 1) (pw (zD, zD)) rfl rfl _ (zb 64) (unhide HGZ) Tryd.size_pz (by rw [zb_size, pw_size rfl rfl]) (pw_one _) ?_))
      rw [unhide HC]
      refine bodyPost_ret (v := .tuple #[.agg (pw (zD, zD)), .int .i64 10]) ?_ rfl ⟨rfl, (unhide HK0).setRow (Or.inr (by omega)) _⟩
      exact results_cell_tmp rfl _ _ (w.heap.size + 1) _ (pw (zD, zD)) (0, 0) _ rfl (setRow_heap _ _ _ _ _ _ (unhide HGZ)) Tryd.underlying59 rfl Tryd.size_pz _ rfl
    | false =>
      have HC := hide (by rw [← unhide HF]; simp [twD] : F = some (x, x))
      go_wp2_with fail
      rw [zb64]
      obtain ⟨W, hW⟩ : ∃ W, (w.alloc (.cells (brow old) 23)).alloc (.cells (zb 64) 59) = W := ⟨_, rfl⟩
      rw [hW] at HGZ HK0 HRG ⊢
      have HSX := hide (by rw [List.length_map, hxl]; exact Tryd.size_dig : (Tryd.prog.info? 23).map (·.size) = some (x.map u8).length)
      refine wp_quiet_tail 6 (by kernel_rfl) (by kernel_rfl) ?_
      simp only [List.take_succ_cons, List.take_zero, List.drop_succ_cons, List.drop_zero]
      repeat (go_big_quiet_step (fail))
      refine wpQuiet_mid rfl 23 _ rfl b0 off rfl (x.map u8) _ (fun w' hw' => by obtain ⟨n, rfl⟩ := hw'; exact unhide HRG) Tryd.underlying23 rfl (unhide HSX) ?_
      simp only [Act.put, List.setIfInBounds_toArray, List.set_cons_succ, List.set_cons_zero]
      repeat (go_big_quiet_step (fail))
      refine wpQuiet_mid rfl 23 _ rfl b0 off rfl (x.map u8) _ (fun w' hw' => by obtain ⟨n, rfl⟩ := hw'; exact unhide HRG) Tryd.underlying23 rfl (unhide HSX) ?_
      simp only [Act.put, List.setIfInBounds_toArray, List.set_cons_succ, List.set_cons_zero]
      refine wpQuiet_nil ?_
      rintro _ ⟨n1, rfl⟩
      go_wp2_with (first
        | (refine wpList_build_as rfl 59 _ rfl (pw (x, x)) (by simp only [List.map_toArray, List.map_cons, List.map_nil]; exact built_pair x x hxl hxl) ?_)
        | (refine wpList_store_row rfl 59 _ _ rfl (w.heap.size + 1) (pw (x, x)) rfl rfl _ (zb 64) (unhide HGZ) (by rw [pw_size hxl hxl]; exact Tryd.size_roots) (by rw [zb_size, pw_size hxl hxl]) (pw_one _) ?_))
      rw [unhide HC]
      refine bodyPost_ret (v := .tuple #[.agg (pw (x, x)), .int .i64 0]) ?_ rfl ⟨rfl, ((unhide HK0).drewN n1).setRow (Or.inr (by omega)) _⟩
      exact results_cell_tmp rfl _ ((W.drewN n1).setRow (w.heap.size + 1) (pw (x, x))) (w.heap.size + 1) _ (pw (x, x)) (0, 0) _ (by rfl) (setRow_heap (W.drewN n1) _ _ _ _ _ (unhide HGZ)) Tryd.underlying59 rfl (by rw [pw_size hxl hxl]; exact Tryd.size_roots) _ rfl
  | x :: y :: r, HP, H5, HF, h2 =>
    clear H5
    have hn0 : (((r.length + 1 + 1 : Nat) : Int) == 0) = false := by simp; omega
    have hn1 : (((r.length + 1 + 1 : Nat) : Int) == 1) = false := by simp; omega
    simp only [List.length_cons] at *
    have HC := hide (by
      rw [← unhide HF]
      obtain ⟨u, v, hu⟩ : ∃ u v, (x :: y :: r).reverse = u :: v := by
        cases h9 : (x :: y :: r).reverse with
        | nil => simp at h9
        | cons u v => exact ⟨u, v, rfl⟩
      have hv : v ≠ [] := by
        intro h
        have := congrArg List.length hu
        rw [h] at this
        simp at this
      rw [hu]
      simp [twD, hv] : F = none)
    cases b with
    | true =>
      go_wp2_with (first
        | (refine wpList_build_as rfl 59 #[] rfl (pw (zD, zD)) (by kernel_rfl) ?_)
        | (rw [zb64]; refine wpList_store_row rfl 59 _ _ rfl (w.heap.size + 1) (pw (zD, zD)) rfl rfl _ (zb 64) (unhide HGZ) Tryd.size_pz (by rw [zb_size, pw_size rfl rfl]) (pw_one _) ?_))
      rw [unhide HC]
      refine bodyPost_ret (v := .tuple #[.agg (pw (zD, zD)), .int .i64 10]) ?_ rfl ⟨rfl, (unhide HK0).setRow (Or.inr (by omega)) _⟩
      exact results_cell_tmp rfl _ _ (w.heap.size + 1) _ (pw (zD, zD)) (0, 0) _ rfl (setRow_heap _ _ _ _ _ _ (unhide HGZ)) Tryd.underlying59 rfl Tryd.size_pz _ rfl
    | false =>
      go_wp2_with (first
        | (refine wpList_build_as rfl 59 #[] rfl (pw (zD, zD)) (by kernel_rfl) ?_)
        | (rw [zb64]; refine wpList_store_row rfl 59 _ _ rfl (w.heap.size + 1) (pw (zD, zD)) rfl rfl _ (zb 64) (unhide HGZ) Tryd.size_pz (by rw [zb_size, pw_size rfl rfl]) (pw_one _) ?_))
      rw [unhide HC]
      refine bodyPost_ret (v := .tuple #[.agg (pw (zD, zD)), .int .i64 10]) ?_ rfl ⟨rfl, (unhide HK0).setRow (Or.inr (by omega)) _⟩
      exact results_cell_tmp rfl _ _ (w.heap.size + 1) _ (pw (zD, zD)) (0, 0) _ rfl (setRow_heap _ _ _ _ _ _ (unhide HGZ)) Tryd.underlying59 rfl Tryd.size_pz _ rfl
end Go.Proofs.YthafpaenggcpdaaDoor
namespace Go.Proofs.YthafpaenggcpdaaDoor
open Go.RowKit Go.BigFrame
set_option linter.unusedVariables false
set_option linter.unusedSimpArgs false

theorem opP_dg {o : Option (List Nat × List Nat)} (h : ∀ d, o = some d → Dg d.1 ∧ Dg d.2) : Dg (opP o).1 ∧ Dg (opP o).2 := by
  cases o with
  | none => exact ⟨zD_dg, zD_dg⟩
  | some d => exact h d rfl
theorem pw_ranges {w : World} {g : Nat} {t : TypeId} {fr : Nat × Nat} {d : List Nat × List Nat} (h : w.heap[g]? = some (.cells (pw d) t fr)) (h1 : d.1.length = 32) : w.rangeAt g 0 (d.1.map u8) ∧ w.rangeAt g 32 (d.2.map u8) := by
  unfold pw at h
  exact ⟨a_mid (n := 0) [] _ _ (by simpa using h) rfl, a_mid (n := 32) (d.1.map u8) (d.2.map u8) [] (by simpa using h) (by simp [h1])⟩
theorem opE_map (O : Option (List Nat × List Nat)) (f : List Nat × List Nat → List Nat) : opE (O.map f) = opF O := by cases O <;> rfl
theorem opD_fst (O : Option (List Nat × List Nat)) : opD (O.map (fun p => p.1)) = (opP O).1 := by cases O <;> rfl
theorem opD_snd (O : Option (List Nat × List Nat)) : opD (O.map (fun p => p.2)) = (opP O).2 := by cases O <;> rfl

theorem over_sl (z : Int) (O : Option (List Nat × List Nat)) (x : List Nat) (w : World) (hz : -9223372036854775808 ≤ z ∧ z ≤ 9223372036854775807) (hw : widthB z = true) (hO : ∀ d, O = some d → (Dg d.1 ∧ formB z d.1 = true) ∧ (Dg d.2 ∧ formB z d.2 = true)) (hx : Dg x) (hxf : formB z x = true) (hT : Tabs w) :
    Calls Tryd.prog 42 #[.int .i64 (opF O), .int .i64 z, .agg (brow (opP O).2), .agg (brow x)] w fun e w' => e = .returned (.tuple #[.agg (brow (opD (O.map (fun y => nodS z y.2 x)))), .int .i64 (opF O)]) ∧ Kept [] w w' := by
  cases O with
  | none => exact over_bad 10 z _ _ w (by decide)
  | some d => exact over_ok z d.2 x w hz hw (hO d rfl).2.1 hx (hO d rfl).2.2 hxf hT
theorem over_rf (z : Int) (O : Option (List Nat × List Nat)) (x : List Nat) (w : World) (hz : -9223372036854775808 ≤ z ∧ z ≤ 9223372036854775807) (hw : widthB z = true) (hO : ∀ d, O = some d → (Dg d.1 ∧ formB z d.1 = true) ∧ (Dg d.2 ∧ formB z d.2 = true)) (hx : Dg x) (hxf : formB z x = true) (hT : Tabs w) :
    Calls Tryd.prog 42 #[.int .i64 (opF O), .int .i64 z, .agg (brow x), .agg (brow (opP O).1)] w fun e w' => e = .returned (.tuple #[.agg (brow (opD (O.map (fun y => nodS z x y.1)))), .int .i64 (opF O)]) ∧ Kept [] w w' := by
  cases O with
  | none => exact over_bad 10 z _ _ w (by decide)
  | some d => exact over_ok z x d.1 w hz hw hx (hO d rfl).1.1 hxf (hO d rfl).1.2 hT
theorem over_rs (z : Int) (O : Option (List Nat × List Nat)) (x : List Nat) (w : World) (hz : -9223372036854775808 ≤ z ∧ z ≤ 9223372036854775807) (hw : widthB z = true) (hO : ∀ d, O = some d → (Dg d.1 ∧ formB z d.1 = true) ∧ (Dg d.2 ∧ formB z d.2 = true)) (hx : Dg x) (hxf : formB z x = true) (hT : Tabs w) :
    Calls Tryd.prog 42 #[.int .i64 (opF O), .int .i64 z, .agg (brow x), .agg (brow (opP O).2)] w fun e w' => e = .returned (.tuple #[.agg (brow (opD (O.map (fun y => nodS z x y.2)))), .int .i64 (opF O)]) ∧ Kept [] w w' := by
  cases O with
  | none => exact over_bad 10 z _ _ w (by decide)
  | some d => exact over_ok z x d.2 w hz hw hx (hO d rfl).2.1 hxf (hO d rfl).2.2 hT
theorem opD_map_dg (O : Option (List Nat × List Nat)) (f : List Nat × List Nat → List Nat) (h : ∀ y, Dg (f y)) : Dg (opD (O.map f)) := by
  cases O with
  | none => exact zD_dg
  | some d => exact h d

set_option maxRecDepth 100000 in
set_option maxHeartbeats 2000000 in
theorem climbBoth_any (z : Int) (old : List Nat) (hz : -9223372036854775808 ≤ z ∧ z ≤ 9223372036854775807) (hw : widthB z = true) (ho : Dg old) (hf : formB z old = true) : ∀ (rp : List (List Nat)) (m n : Nat) (b : Bool) (pv : Value) (w : World), 1 ≤ m → m ≤ n → n < 18446744073709551616 → RdD w pv rp.reverse → (∀ x ∈ rp, formB z x = true) → Tabs w →
    Calls Tryd.prog 29 #[.int .i64 z, .int .u64 m, .int .u64 n, .agg (brow old), .bool b, pv] w fun e w' => e = .returned (.tuple #[.agg (pw (opP (twD z old rp m n b))), .int .i64 (opF (twD z old rp m n b))]) ∧ Kept [] w w' := by
  intro rp
  induction rp with
  | nil =>
    intro m n b pv w hm1 hmn hn hp hpf hT
    have HP := hide hp
    obtain ⟨ao, len, cap, rfl, h1, h2, h3, h4, h5⟩ := hp
    have hlen : len = 0 := by simpa using h1.symm
    subst hlen
    clear h1 h2 h3 h4 h5 hpf hT
    have hol := ho.1
    have HO := hide ho
    have HSL := hide (by rw [List.length_map, hol]; exact Tryd.size_dig : (Tryd.prog.info? 23).map (·.size) = some (old.map u8).length)
    have HTW := hide (fun d hd => twD_ok hw ho hf [] m n b d (by simp) hd)
    obtain ⟨F, hF⟩ : ∃ F, twD z old [] m n b = F := ⟨_, rfl⟩
    rw [hF] at HTW
    have HFF := hide hF
    rw [hF]
    clear hF
    have hdg := opP_dg (o := F) (fun d hd => ⟨(unhide HTW d hd).1.1, (unhide HTW d hd).2.1⟩)
    have hFs := pw_size hdg.1.1 hdg.2.1
    have HSF := hide (by rw [hFs]; exact Tryd.size_roots : (Tryd.prog.info? 59).map (·.size) = some (pw (opP F)).size)
    clear hdg
    go_enter Tryd.func29, Tryd.ntmps29
    have HGL := hide (((Kept.refl [] (w.alloc (.cells (brow old) 23))).alloc (.cells (zb 64) 59)).heap (heap_alloc_new w (.cells (brow old) 23)) (by simp))
    have HGZ := hide (alloc_at w (.cells (brow old) 23) (.cells (zb 64) 59))
    have HK0 := hide (((Kept.refl [] w).alloc (.cells (brow old) 23)).alloc (.cells (zb 64) 59))
    by_cases h1 : m = n
    · have h1' : ((m : Int) == n) = true := by simp; omega
      subst h1
      go_wp2_with (refine wpList_load_mid rfl 23 _ rfl w.heap.size 0 rfl (old.map u8) _ (range_row (unhide HGL)) Tryd.underlying23 rfl (unhide HSL) ?_)
      rw [zb64]
      refine Calls.mono (lowest_any old b _ [] _ (unhide HO) ((unhide HP).old (unhide HK0)) z m) ?_
      rintro e w1 ⟨rfl, k1⟩
      rw [List.reverse_nil, unhide HFF]
      have HZ1 := hide (k1.heap (unhide HGZ) (by simp))
      have HK1 := hide ((unhide HK0).trans k1 (by simp))
      clear k1
      go_wp2_with (refine wpList_store_row rfl 59 _ _ rfl (w.heap.size + 1) (pw (opP F)) rfl rfl _ (zb 64) (unhide HZ1) (unhide HSF) (by rw [zb_size, hFs]) (pw_one _) ?_)
      refine bodyPost_ret (v := .tuple #[.agg (pw (opP F)), .int .i64 (opF F)]) ?_ rfl ⟨rfl, (unhide HK1).setRow (Or.inr (by omega)) _⟩
      exact results_cell_tmp rfl _ _ (w.heap.size + 1) _ (pw (opP F)) (0, 0) _ rfl (setRow_heap _ _ _ _ _ _ (unhide HZ1)) Tryd.underlying59 rfl (unhide HSF) _ rfl
    · have h1' : ((m : Int) == n) = false := by simp; omega
      have HC := hide (by rw [← unhide HFF]; simp [twD, h1] : F = none)
      go_wp2_with (first
        | (refine wpList_build_as rfl 59 #[] rfl (pw (zD, zD)) (by kernel_rfl) ?_)
        | (rw [zb64]; refine wpList_store_row rfl 59 _ _ rfl (w.heap.size + 1) (pw (zD, zD)) rfl rfl _ (zb 64) (unhide HGZ) Tryd.size_pz (by rw [zb_size, pw_size rfl rfl]) (pw_one _) ?_))
      rw [unhide HC]
      refine bodyPost_ret (v := .tuple #[.agg (pw (zD, zD)), .int .i64 10]) ?_ rfl ⟨rfl, (unhide HK0).setRow (Or.inr (by omega)) _⟩
      exact results_cell_tmp rfl _ _ (w.heap.size + 1) _ (pw (zD, zD)) (0, 0) _ rfl (setRow_heap _ _ _ _ _ _ (unhide HGZ)) Tryd.underlying59 rfl Tryd.size_pz _ rfl
  | cons x r ih =>
    intro m n b pv w hm1 hmn hn hp hpf hT
    have HP := hide hp
    obtain ⟨ao, len, cap, rfl, h1, h2, h3, h4, h5⟩ := hp
    have hlen : len = r.length + 1 := by rw [← h1]; simp
    subst hlen
    clear h1 h4 h5
    have HT := hide hT
    have HPF := hide hpf
    have hol := ho.1
    have HO := hide ho
    have HX := hide ((unhide HP).dg (show x ∈ (x :: r).reverse by simp))
    have hxl := (unhide HX).1
    have HSL := hide (by rw [List.length_map, hol]; exact Tryd.size_dig : (Tryd.prog.info? 23).map (·.size) = some (old.map u8).length)
    have HPD := hide (fun y hy => ⟨(unhide HP).dg (List.mem_reverse.2 hy), hpf y hy⟩ : ∀ y ∈ x :: r, Dg y ∧ formB z y = true)
    have HTW := hide (fun d hd => twD_ok hw ho hf (x :: r) m n b d (unhide HPD) hd)
    clear hT hpf
    obtain ⟨F, hF⟩ : ∃ F, twD z old (x :: r) m n b = F := ⟨_, rfl⟩
    rw [hF] at HTW
    have HFF := hide hF
    rw [hF]
    clear hF
    have hdg := opP_dg (o := F) (fun d hd => ⟨(unhide HTW d hd).1.1, (unhide HTW d hd).2.1⟩)
    have hFs := pw_size hdg.1.1 hdg.2.1
    have HSF := hide (by rw [hFs]; exact Tryd.size_roots : (Tryd.prog.info? 59).map (·.size) = some (pw (opP F)).size)
    clear hdg HTW
    go_enter Tryd.func29, Tryd.ntmps29
    have HGL := hide (((Kept.refl [] (w.alloc (.cells (brow old) 23))).alloc (.cells (zb 64) 59)).heap (heap_alloc_new w (.cells (brow old) 23)) (by simp))
    have HGZ := hide (alloc_at w (.cells (brow old) 23) (.cells (zb 64) 59))
    have HK0 := hide (((Kept.refl [] w).alloc (.cells (brow old) 23)).alloc (.cells (zb 64) 59))
    by_cases h1 : m = n
    · have h1' : ((m : Int) == n) = true := by simp; omega
      subst h1
      go_wp2_with (refine wpList_load_mid rfl 23 _ rfl w.heap.size 0 rfl (old.map u8) _ (range_row (unhide HGL)) Tryd.underlying23 rfl (unhide HSL) ?_)
      rw [zb64]
      refine Calls.mono (lowest_any old b _ (x :: r).reverse _ (unhide HO) ((unhide HP).old (unhide HK0)) z m) ?_
      rintro e w1 ⟨rfl, k1⟩
      rw [List.reverse_reverse, unhide HFF]
      have HZ1 := hide (k1.heap (unhide HGZ) (by simp))
      have HK1 := hide ((unhide HK0).trans k1 (by simp))
      clear k1
      go_wp2_with (refine wpList_store_row rfl 59 _ _ rfl (w.heap.size + 1) (pw (opP F)) rfl rfl _ (zb 64) (unhide HZ1) (unhide HSF) (by rw [zb_size, hFs]) (pw_one _) ?_)
      refine bodyPost_ret (v := .tuple #[.agg (pw (opP F)), .int .i64 (opF F)]) ?_ rfl ⟨rfl, (unhide HK1).setRow (Or.inr (by omega)) _⟩
      exact results_cell_tmp rfl _ _ (w.heap.size + 1) _ (pw (opP F)) (0, 0) _ rfl (setRow_heap _ _ _ _ _ _ (unhide HZ1)) Tryd.underlying59 rfl (unhide HSF) _ rfl
    · have h1' : ((m : Int) == n) = false := by simp; omega
      have hne : (((r.length : Int) + 1) == 0) = false := by simp; omega
      go_wp2_with fail
      refine Calls.mono (parted_any _ (x :: r).reverse r x _ ((unhide HP).old (unhide HK0)) (by simp)) ?_
      rintro e w1 ⟨u1, rfl, d1, k1⟩
      have HD1 := hide d1
      have HG1 := hide (k1.heap (unhide HGL) (by simp))
      have HZ1 := hide (k1.heap (unhide HGZ) (by simp))
      have HK1 := hide ((unhide HK0).trans k1 (by simp))
      obtain ⟨a1, n1, c1, rfl, _⟩ := id d1
      clear d1 k1 HGL HGZ
      have HXW := hide (setRow_heap (w1.alloc (.cells (zb 32) 23)) w1.heap.size (zb 32) (brow x) 23 (0, 0) (heap_alloc_new _ _))
      have k2 := ((Kept.refl [] w1).alloc (.cells (zb 32) 23)).setRow (g := w1.heap.size) (Or.inr (Nat.le_refl _)) (brow x)
      have HSX := hide (by rw [brow_size, hxl]; exact Tryd.size_dig : (Tryd.prog.info? 23).map (·.size) = some (brow x).size)
      have HSXL := hide (by rw [List.length_map, hxl]; exact Tryd.size_dig : (Tryd.prog.info? 23).map (·.size) = some (x.map u8).length)
      have HD2 := hide ((unhide HD1).old k2)
      have HG2 := hide (k2.heap (unhide HG1) (by simp))
      have HZ2 := hide (k2.heap (unhide HZ1) (by simp))
      have HK2 := hide ((unhide HK1).trans k2 (by simp))
      clear k2 HD1 HG1 HZ1
      go_wp2_with (rw [zb32]; refine wpList_store_row rfl 23 _ _ rfl w1.heap.size (brow x) rfl rfl _ (zb 32) (heap_alloc_new _ _) (unhide HSX) (by rw [zb_size, brow_size, hxl]) (brow_one _) ?_)
      refine Calls.mono (split_any n _ (by omega) hn) ?_
      rintro e w3 ⟨rfl, k3⟩
      have HX3 := hide (k3.heap (unhide HXW) (by simp))
      have HD3 := hide ((unhide HD2).old k3)
      have HG3 := hide (k3.heap (unhide HG2) (by simp))
      have HZ3 := hide (k3.heap (unhide HZ2) (by simp))
      have HK3 := hide ((unhide HK2).trans k3 (by simp))
      clear k3 HXW HD2 HG2 HZ2
      have hk1 := spl_pos n
      have hk2 := spl_lt (n := n) (by omega)
      have HXF := hide (unhide HPF x (by simp))
      have HRF := hide (fun y hy => unhide HPF y (by simp [hy]) : ∀ y ∈ r, formB z y = true)
      have HRD := hide (fun y hy => unhide HPD y (by simp [hy]) : ∀ y ∈ r, Dg y ∧ formB z y = true)
      by_cases hik : m ≤ spl n
      · have hik' : (m : Int) ≤ (spl n : Nat) := by omega
        have HC := hide (by rw [← unhide HFF]; conv => lhs; unfold twD; rw [if_neg h1, if_pos hik] : F = (twD z old r m (spl n) b).map (fun y => (y.1, nodS z y.2 x)))
        have IH := fun (w' : World) (h' : RdD w' (.slice a1 n1 c1) r.reverse) (t' : Tabs w') => ih m (spl n) b (.slice a1 n1 c1) w' hm1 hik (by omega) h' (unhide HRF) t'
        have HOK := hide (fun d hd => twD_ok hw ho hf r m (spl n) b d (unhide HRD) hd)
        generalize twD z old r m (spl n) b = O at HC IH HOK
        go_wp2_with (refine wpList_load_mid rfl 23 _ rfl w.heap.size 0 rfl (old.map u8) _ (range_row (unhide HG3)) Tryd.underlying23 rfl (unhide HSL) ?_)
        refine Calls.mono (IH _ (unhide HD3) ((unhide HT).k (unhide HK3))) ?_
        rintro e w4 ⟨rfl, k4⟩
        have HX4 := hide (k4.heap (unhide HX3) (by simp))
        have HZ4 := hide (k4.heap (unhide HZ3) (by simp))
        have HK4 := hide ((unhide HK3).trans k4 (by simp))
        clear k4 HX3 HD3 HG3 HZ3 IH
        have hdg := opP_dg (o := O) (fun d hd => ⟨(unhide HOK d hd).1.1, (unhide HOK d hd).2.1⟩)
        have hol1 := hdg.1.1
        have hol2 := hdg.2.1
        have hOs := pw_size hol1 hol2
        have HSO := hide (by rw [hOs]; exact Tryd.size_roots : (Tryd.prog.info? 59).map (·.size) = some (pw (opP O)).size)
        have HNW := hide (setRow_heap (w4.alloc (.cells (zb 64) 59)) w4.heap.size (zb 64) (pw (opP O)) 59 (0, 0) (heap_alloc_new _ _))
        have k5 := ((Kept.refl [] w4).alloc (.cells (zb 64) 59)).setRow (g := w4.heap.size) (Or.inr (Nat.le_refl _)) (pw (opP O))
        have HX5 := hide (k5.heap (unhide HX4) (by simp))
        have HZ5 := hide (k5.heap (unhide HZ4) (by simp))
        have HK5 := hide ((unhide HK4).trans k5 (by simp))
        have HR1 := hide (pw_ranges (unhide HNW) hol1).1
        have HR2 := hide (pw_ranges (unhide HNW) hol1).2
        have HS1 := hide (by rw [List.length_map, hol1]; exact Tryd.size_dig : (Tryd.prog.info? 23).map (·.size) = some ((opP O).1.map u8).length)
        have HS2 := hide (by rw [List.length_map, hol2]; exact Tryd.size_dig : (Tryd.prog.info? 23).map (·.size) = some ((opP O).2.map u8).length)
        clear k5 HX4 HZ4
        go_wp2_with (first
          | (rw [zb64]; refine wpList_store_row rfl 59 _ _ rfl w4.heap.size (pw (opP O)) rfl rfl _ (zb 64) (heap_alloc_new _ _) (unhide HSO) (by rw [zb_size, hOs]) (pw_one _) ?_)
          | (refine wpList_load_mid rfl 23 _ rfl w4.heap.size 32 rfl ((opP O).2.map u8) _ (unhide HR2) Tryd.underlying23 rfl (unhide HS2) ?_)
          | (refine wpList_load_mid rfl 23 _ rfl w1.heap.size 0 rfl (x.map u8) _ (range_row (unhide HX5)) Tryd.underlying23 rfl (unhide HSXL) ?_))
        refine Calls.mono (over_sl z O x _ hz hw (unhide HOK) (unhide HX) (unhide HXF) ((unhide HT).k (unhide HK5))) ?_
        rintro e w6 ⟨rfl, k6⟩
        have HZ6 := hide (k6.heap (unhide HZ5) (by simp))
        have HK6 := hide ((unhide HK5).trans k6 (by simp))
        have HR6 := hide (range_kept (unhide HR1) k6 (by simp))
        clear k6 HX5 HZ5 HNW HR1 HR2
        have hNl := (opD_map_dg O (fun y => nodS z y.2 x) (fun y => nodS_dg _ _ _)).1
        obtain ⟨N, hN⟩ : ∃ N, opD (O.map (fun y => nodS z y.2 x)) = N := ⟨_, rfl⟩
        have HNE := hide hN
        rw [hN] at hNl ⊢
        clear hN
        have HSN := hide (by rw [brow_size, hNl]; exact Tryd.size_dig : (Tryd.prog.info? 23).map (·.size) = some (brow N).size)
        have HSLN := hide (by rw [List.length_map, hNl]; exact Tryd.size_dig : (Tryd.prog.info? 23).map (·.size) = some (N.map u8).length)
        have HNN := hide (setRow_heap (w6.alloc (.cells (zb 32) 23)) w6.heap.size (zb 32) (brow N) 23 (0, 0) (heap_alloc_new _ _))
        have kN := ((Kept.refl [] w6).alloc (.cells (zb 32) 23)).setRow (g := w6.heap.size) (Or.inr (Nat.le_refl _)) (brow N)
        have HZ7 := hide (kN.heap (unhide HZ6) (by simp))
        have HK7 := hide ((unhide HK6).trans kN (by simp))
        have HR7 := hide (range_kept (unhide HR6) kN (by simp))
        clear kN HZ6 HR6
        have HPF2 := hide (by rw [unhide HC, ← unhide HNE]; cases O <;> exact ⟨rfl, rfl⟩ : ((opP O).1, N) = opP F ∧ opF O = opF F)
        have HPS := hide (by rw [(unhide HPF2).1]; exact unhide HSF : (Tryd.prog.info? 59).map (·.size) = some (pw ((opP O).1, N)).size)
        have HPZ := hide (by rw [(unhide HPF2).1, zb_size, hFs] : (zb 64).size = (pw ((opP O).1, N)).size)
        go_wp2_with (first
          | (rw [zb32]; refine wpList_store_row rfl 23 _ _ rfl w6.heap.size (brow N) rfl rfl _ (zb 32) (heap_alloc_new _ _) (unhide HSN) (by rw [zb_size, brow_size, hNl]) (brow_one _) ?_)
          | (refine wpList_load_mid rfl 23 _ rfl w4.heap.size 0 rfl ((opP O).1.map u8) _ (unhide HR7) Tryd.underlying23 rfl (unhide HS1) ?_)
          | (refine wpList_load_mid rfl 23 _ rfl w6.heap.size 0 rfl (N.map u8) _ (range_row (unhide HNN)) Tryd.underlying23 rfl (unhide HSLN) ?_)
          | (refine wpList_build_as rfl 59 _ rfl (pw ((opP O).1, N)) (by simp only [List.map_toArray, List.map_cons, List.map_nil]; exact built_pair (opP O).1 N hol1 hNl) ?_)
          | (refine wpList_store_row rfl 59 _ _ rfl (w.heap.size + 1) (pw ((opP O).1, N)) rfl rfl _ (zb 64) (unhide HZ7) (unhide HPS) (unhide HPZ) (pw_one _) ?_))
        refine bodyPost_ret (v := .tuple #[.agg (pw ((opP O).1, N)), .int .i64 (opF O)]) ?_ rfl ⟨by rw [(unhide HPF2).1, (unhide HPF2).2], (unhide HK7).setRow (Or.inr (by omega)) _⟩
        exact results_cell_tmp rfl _ _ (w.heap.size + 1) _ (pw ((opP O).1, N)) (0, 0) _ rfl (setRow_heap _ _ _ _ _ _ (unhide HZ7)) Tryd.underlying59 rfl (unhide HPS) _ rfl
      · have hik' : ¬ (m : Int) ≤ (spl n : Nat) := by omega
        have hs1 : ((m : Int) - (spl n : Nat)) = ((m - spl n : Nat) : Int) := by omega
        have hs2 : ((n : Int) - (spl n : Nat)) = ((n - spl n : Nat) : Int) := by omega
        have hb1 : ((spl n : Nat) : Int) ≤ m := by omega
        have hb2 : ((spl n : Nat) : Int) ≤ n := by omega
        have HC := hide (by rw [← unhide HFF]; conv => lhs; unfold twD; rw [if_neg h1, if_neg hik] : F = (twD z old r (m - spl n) (n - spl n) false).map (fun y => (nodS z x y.1, nodS z x y.2)))
        have IH := fun (w' : World) (h' : RdD w' (.slice a1 n1 c1) r.reverse) (t' : Tabs w') => ih (m - spl n) (n - spl n) false (.slice a1 n1 c1) w' (by omega) (by omega) (by omega) h' (unhide HRF) t'
        have HOK := hide (fun d hd => twD_ok hw ho hf r (m - spl n) (n - spl n) false d (unhide HRD) hd)
        generalize twD z old r (m - spl n) (n - spl n) false = O at HC IH HOK
        go_wp2_with (refine wpList_load_mid rfl 23 _ rfl w.heap.size 0 rfl (old.map u8) _ (range_row (unhide HG3)) Tryd.underlying23 rfl (unhide HSL) ?_)
        refine Calls.mono (IH _ (unhide HD3) ((unhide HT).k (unhide HK3))) ?_
        rintro e w4 ⟨rfl, k4⟩
        have HX4 := hide (k4.heap (unhide HX3) (by simp))
        have HZ4 := hide (k4.heap (unhide HZ3) (by simp))
        have HK4 := hide ((unhide HK3).trans k4 (by simp))
        clear k4 HX3 HD3 HG3 HZ3 IH
        have hdg := opP_dg (o := O) (fun d hd => ⟨(unhide HOK d hd).1.1, (unhide HOK d hd).2.1⟩)
        have hol1 := hdg.1.1
        have hol2 := hdg.2.1
        have hOs := pw_size hol1 hol2
        have HSO := hide (by rw [hOs]; exact Tryd.size_roots : (Tryd.prog.info? 59).map (·.size) = some (pw (opP O)).size)
        have HNW := hide (setRow_heap (w4.alloc (.cells (zb 64) 59)) w4.heap.size (zb 64) (pw (opP O)) 59 (0, 0) (heap_alloc_new _ _))
        have k5 := ((Kept.refl [] w4).alloc (.cells (zb 64) 59)).setRow (g := w4.heap.size) (Or.inr (Nat.le_refl _)) (pw (opP O))
        have HX5 := hide (k5.heap (unhide HX4) (by simp))
        have HZ5 := hide (k5.heap (unhide HZ4) (by simp))
        have HK5 := hide ((unhide HK4).trans k5 (by simp))
        have HR1 := hide (pw_ranges (unhide HNW) hol1).1
        have HR2 := hide (pw_ranges (unhide HNW) hol1).2
        have HS1 := hide (by rw [List.length_map, hol1]; exact Tryd.size_dig : (Tryd.prog.info? 23).map (·.size) = some ((opP O).1.map u8).length)
        have HS2 := hide (by rw [List.length_map, hol2]; exact Tryd.size_dig : (Tryd.prog.info? 23).map (·.size) = some ((opP O).2.map u8).length)
        clear k5 HX4 HZ4
        go_wp2_with (first
          | (rw [zb64]; refine wpList_store_row rfl 59 _ _ rfl w4.heap.size (pw (opP O)) rfl rfl _ (zb 64) (heap_alloc_new _ _) (unhide HSO) (by rw [zb_size, hOs]) (pw_one _) ?_)
          | (refine wpList_load_mid rfl 23 _ rfl w4.heap.size 0 rfl ((opP O).1.map u8) _ (unhide HR1) Tryd.underlying23 rfl (unhide HS1) ?_)
          | (refine wpList_load_mid rfl 23 _ rfl w1.heap.size 0 rfl (x.map u8) _ (range_row (unhide HX5)) Tryd.underlying23 rfl (unhide HSXL) ?_))
        refine Calls.mono (over_rf z O x _ hz hw (unhide HOK) (unhide HX) (unhide HXF) ((unhide HT).k (unhide HK5))) ?_
        rintro e w6 ⟨rfl, k6⟩
        have HZ6 := hide (k6.heap (unhide HZ5) (by simp))
        have HX6 := hide (k6.heap (unhide HX5) (by simp))
        have HK6 := hide ((unhide HK5).trans k6 (by simp))
        have HR6 := hide (range_kept (unhide HR2) k6 (by simp))
        clear k6 HX5 HZ5 HNW HR1 HR2
        have hMl := (opD_map_dg O (fun y => nodS z x y.1) (fun y => nodS_dg _ _ _)).1
        obtain ⟨M, hM⟩ : ∃ M, opD (O.map (fun y => nodS z x y.1)) = M := ⟨_, rfl⟩
        have HME := hide hM
        rw [hM] at hMl ⊢
        clear hM
        have HSM := hide (by rw [brow_size, hMl]; exact Tryd.size_dig : (Tryd.prog.info? 23).map (·.size) = some (brow M).size)
        have HSLM := hide (by rw [List.length_map, hMl]; exact Tryd.size_dig : (Tryd.prog.info? 23).map (·.size) = some (M.map u8).length)
        have HNM := hide (setRow_heap (w6.alloc (.cells (zb 32) 23)) w6.heap.size (zb 32) (brow M) 23 (0, 0) (heap_alloc_new _ _))
        have kM := ((Kept.refl [] w6).alloc (.cells (zb 32) 23)).setRow (g := w6.heap.size) (Or.inr (Nat.le_refl _)) (brow M)
        have HZ7 := hide (kM.heap (unhide HZ6) (by simp))
        have HX7 := hide (kM.heap (unhide HX6) (by simp))
        have HK7 := hide ((unhide HK6).trans kM (by simp))
        have HR7 := hide (range_kept (unhide HR6) kM (by simp))
        clear kM HZ6 HR6 HX6
        go_wp2_with (first
          | (rw [zb32]; refine wpList_store_row rfl 23 _ _ rfl w6.heap.size (brow M) rfl rfl _ (zb 32) (heap_alloc_new _ _) (unhide HSM) (by rw [zb_size, brow_size, hMl]) (brow_one _) ?_)
          | (refine wpList_load_mid rfl 23 _ rfl w4.heap.size 32 rfl ((opP O).2.map u8) _ (unhide HR7) Tryd.underlying23 rfl (unhide HS2) ?_)
          | (refine wpList_load_mid rfl 23 _ rfl w1.heap.size 0 rfl (x.map u8) _ (range_row (unhide HX7)) Tryd.underlying23 rfl (unhide HSXL) ?_))
        refine Calls.mono (over_rs z O x _ hz hw (unhide HOK) (unhide HX) (unhide HXF) ((unhide HT).k (unhide HK7))) ?_
        rintro e w8 ⟨rfl, k8⟩
        have HZ8 := hide (k8.heap (unhide HZ7) (by simp))
        have HM8 := hide (k8.heap (unhide HNM) (by simp))
        have HK8 := hide ((unhide HK7).trans k8 (by simp))
        clear k8 HZ7 HX7 HR7 HNM
        have hNl := (opD_map_dg O (fun y => nodS z x y.2) (fun y => nodS_dg _ _ _)).1
        obtain ⟨N, hN⟩ : ∃ N, opD (O.map (fun y => nodS z x y.2)) = N := ⟨_, rfl⟩
        have HNE := hide hN
        rw [hN] at hNl ⊢
        clear hN
        have HSN := hide (by rw [brow_size, hNl]; exact Tryd.size_dig : (Tryd.prog.info? 23).map (·.size) = some (brow N).size)
        have HSLN := hide (by rw [List.length_map, hNl]; exact Tryd.size_dig : (Tryd.prog.info? 23).map (·.size) = some (N.map u8).length)
        have HNN := hide (setRow_heap (w8.alloc (.cells (zb 32) 23)) w8.heap.size (zb 32) (brow N) 23 (0, 0) (heap_alloc_new _ _))
        have kN := ((Kept.refl [] w8).alloc (.cells (zb 32) 23)).setRow (g := w8.heap.size) (Or.inr (Nat.le_refl _)) (brow N)
        have HZ9 := hide (kN.heap (unhide HZ8) (by simp))
        have HM9 := hide (kN.heap (unhide HM8) (by simp))
        have HK9 := hide ((unhide HK8).trans kN (by simp))
        clear kN HZ8 HM8
        have HPF2 := hide (by rw [unhide HC, ← unhide HNE, ← unhide HME]; cases O <;> exact ⟨rfl, rfl⟩ : (M, N) = opP F ∧ opF O = opF F)
        have HPS := hide (by rw [(unhide HPF2).1]; exact unhide HSF : (Tryd.prog.info? 59).map (·.size) = some (pw (M, N)).size)
        have HPZ := hide (by rw [(unhide HPF2).1, zb_size, hFs] : (zb 64).size = (pw (M, N)).size)
        go_wp2_with (first
          | (rw [zb32]; refine wpList_store_row rfl 23 _ _ rfl w8.heap.size (brow N) rfl rfl _ (zb 32) (heap_alloc_new _ _) (unhide HSN) (by rw [zb_size, brow_size, hNl]) (brow_one _) ?_)
          | (refine wpList_load_mid rfl 23 _ rfl w6.heap.size 0 rfl (M.map u8) _ (range_row (unhide HM9)) Tryd.underlying23 rfl (unhide HSLM) ?_)
          | (refine wpList_load_mid rfl 23 _ rfl w8.heap.size 0 rfl (N.map u8) _ (range_row (unhide HNN)) Tryd.underlying23 rfl (unhide HSLN) ?_)
          | (refine wpList_build_as rfl 59 _ rfl (pw (M, N)) (by simp only [List.map_toArray, List.map_cons, List.map_nil]; exact built_pair M N hMl hNl) ?_)
          | (refine wpList_store_row rfl 59 _ _ rfl (w.heap.size + 1) (pw (M, N)) rfl rfl _ (zb 64) (unhide HZ9) (unhide HPS) (unhide HPZ) (pw_one _) ?_))
        refine bodyPost_ret (v := .tuple #[.agg (pw (M, N)), .int .i64 (opF O)]) ?_ rfl ⟨by rw [(unhide HPF2).1, (unhide HPF2).2], (unhide HK9).setRow (Or.inr (by omega)) _⟩
        exact results_cell_tmp rfl _ _ (w.heap.size + 1) _ (pw (M, N)) (0, 0) _ rfl (setRow_heap _ _ _ _ _ _ (unhide HZ9)) Tryd.underlying59 rfl (unhide HPS) _ rfl
end Go.Proofs.YthafpaenggcpdaaDoor
/-
  A return of two parts of a variable and a number: five reads, two stores, an assign; reads may come up behind stores. One law for all orders.
-/
namespace Go.Proofs.YthafpaenggcpdaaDoor
open Go
section
variable {P : Program} {Q : Exit → Act → World → Prop}
theorem wp_ret8 {id : Nat} {o0 o1 o2 o3 o4 o5 o6 o7 : Oper} {a : Act} {w : World} (S : World → Prop) (hm : P.follows .mixedOrders = true) (hs : Region.noSelect #[o0, o1, o2, o3, o4, o5, o6, o7] = true)
    (f0 : Region.free .any #[o0, o1, o2, o3, o4, o5, o6, o7] #[false, false, false, false, false, false, false, false] 0 = true) (r0 : (Region.ready .any #[o0, o1, o2, o3, o4, o5, o6, o7] #[false, false, false, false, false, false, false, false]).contains 0 = true)
    (f1 : Region.free .any #[o0, o1, o2, o3, o4, o5, o6, o7] #[true, false, false, false, false, false, false, false] 1 = true) (r1 : (Region.ready .any #[o0, o1, o2, o3, o4, o5, o6, o7] #[true, false, false, false, false, false, false, false]).contains 1 = true)
    (f2 : Region.free .any #[o0, o1, o2, o3, o4, o5, o6, o7] #[true, true, false, false, false, false, false, false] 2 = true) (r2 : (Region.ready .any #[o0, o1, o2, o3, o4, o5, o6, o7] #[true, true, false, false, false, false, false, false]).contains 2 = true)
    (f3 : Region.free .any #[o0, o1, o2, o3, o4, o5, o6, o7] #[true, true, true, false, false, false, false, false] 3 = true) (r3 : (Region.ready .any #[o0, o1, o2, o3, o4, o5, o6, o7] #[true, true, true, false, false, false, false, false]).contains 3 = true)
    (f4 : Region.free .any #[o0, o1, o2, o3, o4, o5, o6, o7] #[true, true, true, true, false, false, false, false] 4 = true) (r4 : (Region.ready .any #[o0, o1, o2, o3, o4, o5, o6, o7] #[true, true, true, true, false, false, false, false]).contains 4 = true)
    (r5 : Region.ready .any #[o0, o1, o2, o3, o4, o5, o6, o7] #[true, true, true, true, true, false, false, false] = [5]) (r6 : Region.ready .any #[o0, o1, o2, o3, o4, o5, o6, o7] #[true, true, true, true, true, true, false, false] = [6])
    (f7 : Region.free .any #[o0, o1, o2, o3, o4, o5, o6, o7] #[true, true, true, true, true, true, true, false] 7 = true) (r7 : (Region.ready .any #[o0, o1, o2, o3, o4, o5, o6, o7] #[true, true, true, true, true, true, true, false]).contains 7 = true)
    (r8 : Region.ready .any #[o0, o1, o2, o3, o4, o5, o6, o7] #[true, true, true, true, true, true, true, true] = [])
    (g5 : o5.guard = none) (g6 : o6.guard = none)
    (hS : S w.drew) (v0 v1 v2 v3 v4 v7 : Value) (A0 A1 A2 A3 A A5 A6 A7 : Act)
    (p0 : a.put o0.dst v0 = A0) (p1 : A0.put o1.dst v1 = A1) (p2 : A1.put o2.dst v2 = A2) (p3 : A2.put o3.dst v3 = A3) (p4 : A3.put o4.dst v4 = A) (p5 : A.put o5.dst undef = A5) (p6 : A5.put o6.dst undef = A6) (p7 : A6.put o7.dst v7 = A7)
    (hy0 : YieldsIf P #[o0, o1, o2, o3, o4, o5, o6, o7] S o0 v0 a) (hy1 : YieldsIf P #[o0, o1, o2, o3, o4, o5, o6, o7] S o1 v1 A0) (hy2 : YieldsIf P #[o0, o1, o2, o3, o4, o5, o6, o7] S o2 v2 A1) (hy3 : YieldsIf P #[o0, o1, o2, o3, o4, o5, o6, o7] S o3 v3 A2) (hy4 : YieldsIf P #[o0, o1, o2, o3, o4, o5, o6, o7] S o4 v4 A3)
    (t5 t6 : TypeId) (x5 y5 x6 y6 : Operand) (h5 : o5.op = .store t5 x5 y5) (h6 : o6.op = .store t6 x6 y6)
    (b5 b6 : Nat) (cs5 cs6 old5 old6 : Array Value) (u5 u6 : TypeId)
    (e5 : A.eval x5 = .pointer (some ⟨b5, 0, none⟩)) (z5 : A.eval y5 = .agg cs5) (hg5 : w.drew.heap[b5]? = some (.cells old5 u5 (0, 0))) (i5 : (P.info? t5).map (·.size) = some cs5.size) (l5 : old5.size = cs5.size) (n5 : cs5.all (·.oneCell') = true) (S5 : S (w.drew.setRow b5 cs5))
    (e6 : A5.eval x6 = .pointer (some ⟨b6, 0, none⟩)) (z6 : A5.eval y6 = .agg cs6) (hg6 : (w.drew.setRow b5 cs5).heap[b6]? = some (.cells old6 u6 (0, 0))) (i6 : (P.info? t6).map (·.size) = some cs6.size) (l6 : old6.size = cs6.size) (n6 : cs6.all (·.oneCell') = true) (S6 : S ((w.drew.setRow b5 cs5).setRow b6 cs6))
    (hy7 : YieldsIf P #[o0, o1, o2, o3, o4, o5, o6, o7] S o7 v7 A6)
    (h : Q .normal A7 ((w.drew.setRow b5 cs5).setRow b6 cs6)) :
    (Code.region id #[o0, o1, o2, o3, o4, o5, o6, o7] true).wp P Q a w := by
  subst p0 p1 p2 p3 p4 p5 p6 p7
  refine wp_region_noPanic ?_
  refine wp_region_held_drew (S := S) hm hS (fun hH => ?_)
  show wpAnyH P .any #[o0, o1, o2, o3, o4, o5, o6, o7] (NoPanic Q) S 8 #[false, false, false, false, false, false, false, false] a w.drew
  refine wpAnyH_take (i := 0) (oi := o0) rfl hs f0 r0 (fun _ _ _ h => h) hy0 hS ?_
  refine wpAnyH_take (i := 1) (oi := o1) rfl hs f1 r1 (fun _ _ _ h => h) hy1 hS ?_
  refine wpAnyH_take (i := 2) (oi := o2) rfl hs f2 r2 (fun _ _ _ h => h) hy2 hS ?_
  refine wpAnyH_take (i := 3) (oi := o3) rfl hs f3 r3 (fun _ _ _ h => h) hy3 hS ?_
  refine wpAnyH_take (i := 4) (oi := o4) rfl hs f4 r4 (fun _ _ _ h => h) hy4 hS ?_
  refine wpAnyH_ready (rs := [5]) r5 (by simp) (AllReadyH.cons (o := o5) rfl (fun K hK => ?_) AllReadyH.nil)
  have w5 : ∀ y, Region.wanted o5 y = true := fun y => by unfold Region.wanted; rw [g5]
  rw [if_pos (w5 _)]
  refine wp_store_row t5 x5 y5 h5 b5 cs5 e5 z5 u5 old5 hg5 i5 l5 n5 ?_
  refine hK.out _ _ S5 (fun _ => ?_)
  refine wpAnyH_ready (rs := [6]) r6 (by simp) (AllReadyH.cons (o := o6) rfl (fun K hK => ?_) AllReadyH.nil)
  have w6 : ∀ y, Region.wanted o6 y = true := fun y => by unfold Region.wanted; rw [g6]
  rw [if_pos (w6 _)]
  refine wp_store_row t6 x6 y6 h6 b6 cs6 e6 z6 u6 old6 hg6 i6 l6 n6 ?_
  refine hK.out _ _ S6 (fun _ => ?_)
  refine wpAnyH_take (i := 7) (oi := o7) rfl hs f7 r7 (fun _ _ _ h => h) hy7 S6 ?_
  exact ⟨r8, NoPanic.normal h⟩
end
end Go.Proofs.YthafpaenggcpdaaDoor
namespace Go.Proofs.YthafpaenggcpdaaDoor
open Go.RowKit Go.BigFrame
set_option linter.unusedVariables false
set_option linter.unusedSimpArgs false

theorem rootsE_f {z : Int} {old : List Nat} {m n : Nat} {p : List (List Nat)} (h : formedE z (old :: p) ≠ 0) : rootsE z old m n p = formedE z (old :: p) ∧ rootsD z old m n p = (zD, zD) := by
  have e : rootsE z old m n p = formedE z (old :: p) := by unfold rootsE; rw [if_pos h]
  exact ⟨e, by unfold rootsD; rw [e, if_neg h]⟩
theorem rootsE_r {z : Int} {old : List Nat} {m n : Nat} {p : List (List Nat)} (h : formedE z (old :: p) = 0) (hr : m = 0 ∨ n ≤ m) : rootsE z old m n p = 4 ∧ rootsD z old m n p = (zD, zD) := by
  have e : rootsE z old m n p = 4 := by unfold rootsE; rw [if_neg (by omega), if_pos hr]
  exact ⟨e, by unfold rootsD; rw [e, if_neg (by decide)]⟩
theorem rootsE_c {z : Int} {old : List Nat} {m n : Nat} {p : List (List Nat)} (h : formedE z (old :: p) = 0) (hr : ¬ (m = 0 ∨ n ≤ m)) : rootsE z old m n p = opF (twD z old p.reverse m n true) ∧ rootsD z old m n p = opP (twD z old p.reverse m n true) := by
  have e : rootsE z old m n p = opF (twD z old p.reverse m n true) := by unfold rootsE; rw [if_neg (by omega), if_neg hr]; rfl
  refine ⟨e, ?_⟩
  unfold rootsD
  rw [e]
  unfold opF opP twO
  cases twD z old p.reverse m n true <;> rfl
theorem rootsD_dg {z : Int} {old : List Nat} {m n : Nat} {p : List (List Nat)} (hl : Dg old) (hp : ∀ d ∈ p, Dg d) : Dg (rootsD z old m n p).1 ∧ Dg (rootsD z old m n p).2 := by
  by_cases h : formedE z (old :: p) = 0
  · obtain ⟨hw, hf⟩ := formedE_zero h
    by_cases hr : m = 0 ∨ n ≤ m
    · rw [(rootsE_r h hr).2]; exact ⟨zD_dg, zD_dg⟩
    · rw [(rootsE_c h hr).2]
      refine opP_dg fun d hd => ?_
      have := twD_ok hw hl (hf old (by simp)) _ _ _ _ d (fun y hy => ⟨hp y (List.mem_reverse.1 hy), hf y (by simp at hy; simp [hy])⟩) hd
      exact ⟨this.1.1, this.2.1⟩
  · rw [(rootsE_f h).2]; exact ⟨zD_dg, zD_dg⟩
theorem results_cell_cell_tmp {P : Program} {fn : Func} {p p2 q : Tmp} {ty ty2 : TypeId} (h : fn.results = #[.cell p ty, .cell p2 ty2, .tmp q]) (tmps : Array Value) (w : World) (g g2 : Nat) (t t2 : TypeId) (cs cs2 : Array Value) (fr fr2 : Nat × Nat) (d d2 : TypeDesc)
    (hp : tmps.getD p undef = .pointer (some ⟨g, 0, none⟩)) (hg : w.heap[g]? = some (.cells cs t fr)) (hp2 : tmps.getD p2 undef = .pointer (some ⟨g2, 0, none⟩)) (hg2 : w.heap[g2]? = some (.cells cs2 t2 fr2))
    (hu : P.underlying ty = some d) (hd : (match d with | .struct _ | .array _ _ => true | _ => false) = true) (hi : (P.info? ty).map (·.size) = some cs.size)
    (hu2 : P.underlying ty2 = some d2) (hd2 : (match d2 with | .struct _ | .array _ _ => true | _ => false) = true) (hi2 : (P.info? ty2).map (·.size) = some cs2.size) (v : Value) (hq : tmps.getD q undef = v) :
    (results fn tmps).run P w = .ok (.tuple #[.agg cs, .agg cs2, v]) w := by
  have hp' : tmps[p]?.getD undef = .pointer (some ⟨g, 0, none⟩) := by simpa using hp
  have hp2' : tmps[p2]?.getD undef = .pointer (some ⟨g2, 0, none⟩) := by simpa using hp2
  have hq' : tmps[q]?.getD undef = v := by simpa using hq
  simp [results, h, hp', hp2', hq', asAddr, run_loadVar_row w g t ty cs fr d hg hu hd hi, run_loadVar_row w g2 t2 ty2 cs2 fr2 d2 hg2 hu2 hd2 hi2]

theorem there_zb {w : World} {g n : Nat} {t : TypeId} (h : w.heap[g]? = some (.cells (zb n) t (0, 0))) : w.there g 0 n := fun j hj =>
  ⟨by rw [cell_of_row w g (0 + j) _ t _ h, Nat.zero_add]; simp [zb, brow, hj], frozen_of_row _ _ _ _ _ h⟩
theorem lt_of_heap {w : World} {g : Nat} {o : Obj} (h : w.heap[g]? = some o) : g < w.heap.size := (Array.getElem?_eq_some_iff.1 h).1

set_option maxRecDepth 100000 in
set_option maxHeartbeats 2000000 in
theorem rootsOf_any (z : Int) (m n : Nat) (old : List Nat) (pv : Value) (p : List (List Nat)) (w : World) (hz : -9223372036854775808 ≤ z ∧ z ≤ 9223372036854775807) (hl : Dg old) (hm : m < 18446744073709551616) (hn : n < 18446744073709551616) (hp : RdD w pv p) (hT : Tabs w) :
    Calls Tryd.prog 15 #[.int .i64 z, .int .u64 m, .int .u64 n, .agg (brow old), pv] w fun e w' => e = .returned (.tuple #[.agg (brow (rootsD z old m n p).1), .agg (brow (rootsD z old m n p).2), .int .i64 (rootsE z old m n p)]) ∧ Kept [] w w' := by
  have HP := hide hp
  have hdg := rootsD_dg (z := z) (m := m) (n := n) hl (fun d hd => hp.dg hd)
  obtain ⟨ao, len, cap, rfl, h1, h2, h3, h4, h5⟩ := hp
  clear h4 h5
  have HT := hide hT
  have HL := hide hl
  have hll := hl.1
  clear hT
  obtain ⟨D, hD⟩ : ∃ D, rootsD z old m n p = D := ⟨_, rfl⟩
  obtain ⟨E, hE⟩ : ∃ E, rootsE z old m n p = E := ⟨_, rfl⟩
  have HD := hide hD
  have HE := hide hE
  rw [hD] at hdg
  rw [hD, hE]
  clear hD hE
  obtain ⟨D1, D2⟩ := D
  have hd1 := hdg.1.1
  have hd2 := hdg.2.1
  simp only at hd1 hd2 ⊢
  clear hdg
  go_enter Tryd.func15, Tryd.ntmps15
  have HGL := hide ((((Kept.refl [] (w.alloc (.cells (brow old) 23))).alloc (.cells (zb 32) 23)).alloc (.cells (zb 32) 23)).heap (heap_alloc_new w (.cells (brow old) 23)) (by simp))
  have HGZ := hide (((Kept.refl [] ((w.alloc (.cells (brow old) 23)).alloc (.cells (zb 32) 23))).alloc (.cells (zb 32) 23)).heap (alloc_at w (.cells (brow old) 23) (.cells (zb 32) 23)) (by simp))
  have HGY := hide (alloc3_at w (.cells (brow old) 23) (.cells (zb 32) 23) (.cells (zb 32) 23))
  have HK0 := hide ((((Kept.refl [] w).alloc (.cells (brow old) 23)).alloc (.cells (zb 32) 23)).alloc (.cells (zb 32) 23))
  have HSL := hide (by rw [List.length_map, hll]; exact Tryd.size_dig : (Tryd.prog.info? 23).map (·.size) = some (old.map u8).length)
  go_wp2_with (refine wpList_load_mid rfl 23 _ rfl w.heap.size 0 rfl (old.map u8) _ (range_row (unhide HGL)) Tryd.underlying23 rfl (unhide HSL) ?_)
  rw [zb32, one_dig old hll]
  obtain ⟨W0, hW0⟩ : ∃ W0, ((w.alloc (.cells (brow old) 23)).alloc (.cells (zb 32) 23)).alloc (.cells (zb 32) 23) = W0 := ⟨_, rfl⟩
  have hsz : w.heap.size + 1 + 1 + 1 = W0.heap.size := by rw [← hW0]; simp
  rw [hW0] at HGL HGZ HGY HK0 ⊢
  have k0 := (Kept.refl [] W0).alloc (.cells (brow old) 23)
  refine Calls.mono (mformed_any z _ _ p [old] _ hz ((unhide HP).old ((unhide HK0).trans k0 (by simp))) (RdD.one (by rw [hsz]; exact heap_alloc_new _ _) (unhide HL))) ?_
  rintro e w1 ⟨rfl, k1⟩
  have k01 := k0.trans k1 (by simp)
  have HK1 := hide ((unhide HK0).trans k01 (by simp))
  have HL1 := hide (k01.heap (unhide HGL) (by simp))
  have HZ1 := hide (k01.heap (unhide HGZ) (by simp))
  have HY1 := hide (k01.heap (unhide HGY) (by simp))
  clear k0 k1 k01 HGL HGZ HGY hW0
  obtain ⟨f, hf⟩ : ∃ f, formedE z ([old] ++ p) = f := ⟨_, rfl⟩
  have HF := hide (show formedE z (old :: p) = f from hf)
  rw [hf]
  clear hf
  by_cases hf0 : f = 0
  · subst hf0
    obtain ⟨hw, hff⟩ := formedE_zero (unhide HF)
    have HFF := hide hff
    clear hff
    by_cases hr : m = 0 ∨ n ≤ m
    · have HC := hide (by rw [← unhide HE, ← unhide HD]; exact rootsE_r (unhide HF) hr : E = 4 ∧ (D1, D2) = (zD, zD))
      have HYD := hide ((setRow_other w1 (w.heap.size + 1) (w.heap.size + 1 + 1) (zb 32) (by omega)).trans (unhide HY1))
      have HKK := hide (((unhide HK1).setRow (g := w.heap.size + 1) (Or.inr (by omega)) (zb 32)).setRow (g := w.heap.size + 1 + 1) (Or.inr (by omega)) (zb 32))
      have HZR := hide ((setRow_other (w1.setRow (w.heap.size + 1) (zb 32)) (w.heap.size + 1 + 1) (w.heap.size + 1) (zb 32) (by omega)).trans (setRow_heap w1 _ _ (zb 32) _ _ (unhide HZ1)))
      have HYR := hide (setRow_heap (w1.setRow (w.heap.size + 1) (zb 32)) _ _ (zb 32) _ _ (unhide HYD))
      by_cases hm0 : m = 0
      · have hr1 : ((m : Int) == 0) = true := by simp; omega
        go_wp2_with (first
          | (rw [zb32]; refine wpList_store_row rfl 23 _ _ rfl (w.heap.size + 1) (zb 32) rfl rfl _ (zb 32) (unhide HZ1) (by rw [zb_size]; exact Tryd.size_dig) rfl (brow_one _) ?_)
          | (refine wpList_store_row rfl 23 _ _ rfl (w.heap.size + 1 + 1) (zb 32) rfl rfl _ (zb 32) (unhide HYD) (by rw [zb_size]; exact Tryd.size_dig) rfl (brow_one _) ?_))
        rw [(unhide HC).1]
        have HC1 := hide (Prod.mk.inj (unhide HC).2).1
        have HC2 := hide (Prod.mk.inj (unhide HC).2).2
        rw [unhide HC1, unhide HC2]
        refine bodyPost_ret (v := .tuple #[.agg (zb 32), .agg (zb 32), .int .i64 4]) ?_ rfl ⟨rfl, unhide HKK⟩
        exact results_cell_cell_tmp rfl _ _ (w.heap.size + 1) (w.heap.size + 1 + 1) _ _ (zb 32) (zb 32) (0, 0) (0, 0) _ _ rfl (unhide HZR) rfl (unhide HYR) Tryd.underlying23 rfl (by rw [zb_size]; exact Tryd.size_dig) Tryd.underlying23 rfl (by rw [zb_size]; exact Tryd.size_dig) _ rfl
      · have hr1 : ((m : Int) == 0) = false := by simp; omega
        have hr2 : (n : Int) ≤ m := by omega
        go_wp2_with (first
          | (rw [zb32]; refine wpList_store_row rfl 23 _ _ rfl (w.heap.size + 1) (zb 32) rfl rfl _ (zb 32) (unhide HZ1) (by rw [zb_size]; exact Tryd.size_dig) rfl (brow_one _) ?_)
          | (refine wpList_store_row rfl 23 _ _ rfl (w.heap.size + 1 + 1) (zb 32) rfl rfl _ (zb 32) (unhide HYD) (by rw [zb_size]; exact Tryd.size_dig) rfl (brow_one _) ?_))
        rw [(unhide HC).1]
        have HC1 := hide (Prod.mk.inj (unhide HC).2).1
        have HC2 := hide (Prod.mk.inj (unhide HC).2).2
        rw [unhide HC1, unhide HC2]
        refine bodyPost_ret (v := .tuple #[.agg (zb 32), .agg (zb 32), .int .i64 4]) ?_ rfl ⟨rfl, unhide HKK⟩
        exact results_cell_cell_tmp rfl _ _ (w.heap.size + 1) (w.heap.size + 1 + 1) _ _ (zb 32) (zb 32) (0, 0) (0, 0) _ _ rfl (unhide HZR) rfl (unhide HYR) Tryd.underlying23 rfl (by rw [zb_size]; exact Tryd.size_dig) Tryd.underlying23 rfl (by rw [zb_size]; exact Tryd.size_dig) _ rfl
    · have hr1 : ((m : Int) == 0) = false := by simp; omega
      have hr2 : ¬ (n : Int) ≤ m := by omega
      have HC := hide (by rw [← unhide HE, ← unhide HD]; exact rootsE_c (unhide HF) hr : E = opF (twD z old p.reverse m n true) ∧ (D1, D2) = opP (twD z old p.reverse m n true))
      go_wp2_with (refine wpList_load_mid rfl 23 _ rfl w.heap.size 0 rfl (old.map u8) _ (range_row (unhide HL1)) Tryd.underlying23 rfl (unhide HSL) ?_)
      refine Calls.mono (climbBoth_any z old hz hw (unhide HL) (unhide HFF old (by simp)) p.reverse m n true _ _ (by omega) (by omega) hn (by rw [List.reverse_reverse]; exact (unhide HP).old (unhide HK1)) (fun y hy => unhide HFF y (by simp at hy; simp [hy])) ((unhide HT).k (unhide HK1))) ?_
      rintro e w2 ⟨rfl, k2⟩
      rw [← (unhide HC).1, ← (unhide HC).2]
      have HZ2 := hide (k2.heap (unhide HZ1) (by simp))
      have HY2 := hide (k2.heap (unhide HY1) (by simp))
      have HK2 := hide ((unhide HK1).trans k2 (by simp))
      have HZ2' := HZ2
      have HY2' := HY2
      clear k2 HZ1 HL1 HY1
      have hOs : (pw (D1, D2)).size = 64 := pw_size hd1 hd2
      have HSO := hide (by rw [hOs]; exact Tryd.size_roots : (Tryd.prog.info? 59).map (·.size) = some (pw (D1, D2)).size)
      have HNW := hide (setRow_heap (w2.alloc (.cells (zb 64) 59)) w2.heap.size (zb 64) (pw (D1, D2)) 59 (0, 0) (heap_alloc_new _ _))
      have k5 := ((Kept.refl [] w2).alloc (.cells (zb 64) 59)).setRow (g := w2.heap.size) (Or.inr (Nat.le_refl _)) (pw (D1, D2))
      have HZ5 := hide (k5.heap (unhide HZ2) (by simp))
      have HY5 := hide (k5.heap (unhide HY2) (by simp))
      have HK5 := hide ((unhide HK2).trans k5 (by simp))
      have HR1 := hide (pw_ranges (unhide HNW) hd1).1
      have HR2 := hide (pw_ranges (unhide HNW) hd1).2
      clear k5 HZ2 HY2
      go_wp2_with (rw [zb64]; refine wpList_store_row rfl 59 _ _ rfl w2.heap.size (pw (D1, D2)) rfl rfl _ (zb 64) (heap_alloc_new _ _) (unhide HSO) (by rw [zb_size, hOs]) (pw_one _) ?_)
      obtain ⟨W5, hW5⟩ : ∃ W5, (w2.alloc (.cells (zb 64) 59)).setRow w2.heap.size (pw (D1, D2)) = W5 := ⟨_, rfl⟩
      have hs2 := (unhide HK2).size
      have hlt1 : w.heap.size + 1 < w2.heap.size := by have := lt_of_heap (unhide HZ2'); omega
      rw [hW5] at HZ5 HY5 HK5 HR1 HR2 ⊢
      have hud := Tryd.underlying23
      have hi1 : (Tryd.prog.info? 23).map (·.size) = some (D1.map u8).length := by rw [List.length_map, hd1]; exact Tryd.size_dig
      have hi2 : (Tryd.prog.info? 23).map (·.size) = some (D2.map u8).length := by rw [List.length_map, hd2]; exact Tryd.size_dig
      have hr1 := unhide HR1
      have hr2 := unhide HR2
      have hlt2 : w.heap.size + 1 + 1 < w2.heap.size := by have := lt_of_heap (unhide HY2'); omega
      have HYD := hide ((setRow_other W5.drew (w.heap.size + 1) (w.heap.size + 1 + 1) (brow D1) (by omega)).trans (unhide HY5))
      have kA := (Kept.refl [w.heap.size + 1] W5.drew).setRow (g := w.heap.size + 1) (by simp) (brow D1)
      have kB := (Kept.refl [w.heap.size + 1 + 1] (W5.drew.setRow (w.heap.size + 1) (brow D1))).setRow (g := w.heap.size + 1 + 1) (by simp) (brow D2)
      have hH6 : (W5.drew.setRow (w.heap.size + 1) (brow D1)).rangeAt w2.heap.size 0 (D1.map u8) ∧ (W5.drew.setRow (w.heap.size + 1) (brow D1)).rangeAt w2.heap.size 32 (D2.map u8) := And.intro (range_kept (w := W5.drew) hr1 kA (by simp; omega)) (range_kept (w := W5.drew) hr2 kA (by simp; omega))
      have hH7 := And.intro (range_kept hH6.1 kB (by simp; omega)) (range_kept hH6.2 kB (by simp; omega))
      have HKK := hide ((((unhide HK5).drew).setRow (g := w.heap.size + 1) (Or.inr (by omega)) (brow D1)).setRow (g := w.heap.size + 1 + 1) (Or.inr (by omega)) (brow D2))
      have HZR := hide ((setRow_other (W5.drew.setRow (w.heap.size + 1) (brow D1)) (w.heap.size + 1 + 1) (w.heap.size + 1) (brow D2) (by omega)).trans (setRow_heap W5.drew _ _ (brow D1) _ _ (unhide HZ5)))
      have HYR := hide (setRow_heap (W5.drew.setRow (w.heap.size + 1) (brow D1)) _ _ (brow D2) _ _ (unhide HYD))
      clear kA kB
      refine wp_ret8 (fun w' => w'.rangeAt w2.heap.size 0 (D1.map u8) ∧ w'.rangeAt w2.heap.size 32 (D2.map u8)) (by kernel_rfl) (by kernel_rfl) (by kernel_rfl) (by kernel_rfl) (by kernel_rfl) (by kernel_rfl) (by kernel_rfl) (by kernel_rfl) (by kernel_rfl) (by kernel_rfl) (by kernel_rfl) (by kernel_rfl) (by kernel_rfl) (by kernel_rfl) (by kernel_rfl) (by kernel_rfl) (by kernel_rfl) rfl rfl
        ⟨hr1, hr2⟩ (.pointer (some ⟨w2.heap.size, 0, none⟩)) (.agg (D1.map u8).toArray) (.pointer (some ⟨w2.heap.size, 32, none⟩)) (.agg (D2.map u8).toArray) (.int .i64 E) (.int .i64 E)
        _ _ _ _ _ _ _ _ (by simp only [Act.put, List.setIfInBounds_toArray, List.set_cons_zero, List.set_cons_succ]; rfl) (by simp only [Act.put, List.setIfInBounds_toArray, List.set_cons_zero, List.set_cons_succ]; rfl) (by simp only [Act.put, List.setIfInBounds_toArray, List.set_cons_zero, List.set_cons_succ]; rfl) (by simp only [Act.put, List.setIfInBounds_toArray, List.set_cons_zero, List.set_cons_succ]; rfl) (by simp only [Act.put, List.setIfInBounds_toArray, List.set_cons_zero, List.set_cons_succ]; rfl) (by simp only [Act.put, List.setIfInBounds_toArray, List.set_cons_zero, List.set_cons_succ]; rfl) (by simp only [Act.put, List.setIfInBounds_toArray, List.set_cons_zero, List.set_cons_succ]; rfl) (by simp only [Act.put, List.setIfInBounds_toArray, List.set_cons_zero, List.set_cons_succ]; rfl)
        (by exact Or.inl ⟨by rfl, fun W hW => by go_simp⟩)
        (by exact yieldsIf_load_mid (by rfl) _ _ rfl w2.heap.size 0 rfl (D1.map u8) _ (fun W hW => hW.1) Tryd.underlying23 rfl hi1)
        (by exact Or.inl ⟨by rfl, fun W hW => by go_simp⟩)
        (by exact yieldsIf_load_mid (by rfl) _ _ rfl w2.heap.size 32 rfl (D2.map u8) _ (fun W hW => hW.2) Tryd.underlying23 rfl hi2)
        (by exact Or.inl ⟨by rfl, fun W hW => by go_simp⟩)
        23 23 _ _ _ _ rfl rfl (w.heap.size + 1) (w.heap.size + 1 + 1) (brow D1) (brow D2) (zb 32) (zb 32) 23 23
        (by rfl) (by rfl) (unhide HZ5) (by rw [brow_size, hd1]; exact Tryd.size_dig) (by rw [zb_size, brow_size, hd1]) (brow_one _) hH6
        (by rfl) (by rfl) (unhide HYD) (by rw [brow_size, hd2]; exact Tryd.size_dig) (by rw [zb_size, brow_size, hd2]) (brow_one _) hH7
        (by exact Or.inl ⟨by rfl, fun W hW => by go_simp⟩) ?_
      go_wp2_with fail
      refine bodyPost_ret (v := .tuple #[.agg (brow D1), .agg (brow D2), .int .i64 E]) ?_ rfl ⟨rfl, unhide HKK⟩
      exact results_cell_cell_tmp rfl _ _ (w.heap.size + 1) (w.heap.size + 1 + 1) _ _ (brow D1) (brow D2) (0, 0) (0, 0) _ _ rfl (unhide HZR) rfl (unhide HYR) Tryd.underlying23 rfl (by rw [brow_size, hd1]; exact Tryd.size_dig) Tryd.underlying23 rfl (by rw [brow_size, hd2]; exact Tryd.size_dig) _ rfl
  · have hb : ((f : Int) != 0) = true := by simp; omega
    have HC := hide (by rw [← unhide HE, ← unhide HD, ← unhide HF]; exact rootsE_f (by rw [unhide HF]; exact hf0) : E = f ∧ (D1, D2) = (zD, zD))
    have HYD := hide ((setRow_other w1 (w.heap.size + 1) (w.heap.size + 1 + 1) (zb 32) (by omega)).trans (unhide HY1))
    have HKK := hide (((unhide HK1).setRow (g := w.heap.size + 1) (Or.inr (by omega)) (zb 32)).setRow (g := w.heap.size + 1 + 1) (Or.inr (by omega)) (zb 32))
    have HZR := hide ((setRow_other (w1.setRow (w.heap.size + 1) (zb 32)) (w.heap.size + 1 + 1) (w.heap.size + 1) (zb 32) (by omega)).trans (setRow_heap w1 _ _ (zb 32) _ _ (unhide HZ1)))
    have HYR := hide (setRow_heap (w1.setRow (w.heap.size + 1) (zb 32)) _ _ (zb 32) _ _ (unhide HYD))
    go_wp2_with (first
      | (rw [zb32]; refine wpList_store_row rfl 23 _ _ rfl (w.heap.size + 1) (zb 32) rfl rfl _ (zb 32) (unhide HZ1) (by rw [zb_size]; exact Tryd.size_dig) rfl (brow_one _) ?_)
      | (refine wpList_store_row rfl 23 _ _ rfl (w.heap.size + 1 + 1) (zb 32) rfl rfl _ (zb 32) (unhide HYD) (by rw [zb_size]; exact Tryd.size_dig) rfl (brow_one _) ?_))
    rw [(unhide HC).1]
    have HC1 := hide (Prod.mk.inj (unhide HC).2).1
    have HC2 := hide (Prod.mk.inj (unhide HC).2).2
    rw [unhide HC1, unhide HC2]
    refine bodyPost_ret (v := .tuple #[.agg (zb 32), .agg (zb 32), .int .i64 f]) ?_ rfl ⟨rfl, unhide HKK⟩
    exact results_cell_cell_tmp rfl _ _ (w.heap.size + 1) (w.heap.size + 1 + 1) _ _ (zb 32) (zb 32) (0, 0) (0, 0) _ _ rfl (unhide HZR) rfl (unhide HYR) Tryd.underlying23 rfl (by rw [zb_size]; exact Tryd.size_dig) Tryd.underlying23 rfl (by rw [zb_size]; exact Tryd.size_dig) _ rfl
end Go.Proofs.YthafpaenggcpdaaDoor
namespace Go.Proofs.YthafpaenggcpdaaDoor
open Go.RowKit Go.BigFrame
set_option linter.unusedVariables false
set_option linter.unusedSimpArgs false

theorem wpList_load_midG {P : Program} {ops : Array Oper} {rest : List Oper} {op : Oper} {a : Act} {w : World} {Q : Exit → Act → World → Prop} (hw : Region.wanted op (yielded ops a.tmps) = true) (ty : TypeId) (x : Operand) (ho : op.op = .load ty x)
    (b o : Nat) (hx : a.eval x = .pointer (some ⟨b, o, none⟩)) (cs : List Value) (d : TypeDesc) (hc : w.rangeAt b o cs)
    (hu : P.underlying ty = some d) (hd : d.isRow = true) (hi : (P.info? ty).map (·.size) = some cs.length)
    (h : wpList P ops Q rest (a.put op.dst (.agg cs.toArray)) w) : wpList P ops Q (op :: rest) a w :=
  wpList_want hw fun _ hK => wp_load_mid ty x ho b o hx cs d hc hu hd hi (hK _ _ h)
def dX : List Nat := 1 :: 2 :: 3 :: 4 :: List.replicate 28 0
def dY : List Nat := 5 :: 6 :: 7 :: 8 :: List.replicate 28 0
def dXY : List Nat := 62 :: 68 :: 92 :: 222 :: List.replicate 28 0
def dYX : List Nat := 40 :: 116 :: 230 :: 72 :: List.replicate 28 0
theorem dX_dg : Dg dX := ⟨rfl, by decide⟩
theorem dY_dg : Dg dY := ⟨rfl, by decide⟩
theorem nod_xy : nodS 4 dX dY = dXY := by
  have e0 : nodeB 4 dX dY = [1, 1, 2, 3, 4, 5, 6, 7, 8] := by decide
  unfold nodS sumD
  rw [e0, if_pos (by decide)]
  unfold hash hashW
  have e : [1, 1, 2, 3, 4, 5, 6, 7, 8] ++ pad [1, 1, 2, 3, 4, 5, 6, 7, 8].length = [1, 1, 2, 3, 4, 5, 6, 7, 8, 128] ++ List.replicate 53 0 ++ [72] := by decide
  rw [e, chain_step (by decide), chain_short (by decide), ← evC_eq]
  decide +kernel
theorem nod_yx : nodS 4 dY dX = dYX := by
  have e0 : nodeB 4 dY dX = [1, 5, 6, 7, 8, 1, 2, 3, 4] := by decide
  unfold nodS sumD
  rw [e0, if_pos (by decide)]
  unfold hash hashW
  have e : [1, 5, 6, 7, 8, 1, 2, 3, 4] ++ pad [1, 5, 6, 7, 8, 1, 2, 3, 4].length = [1, 5, 6, 7, 8, 1, 2, 3, 4, 128] ++ List.replicate 53 0 ++ [72] := by decide
  rw [e, chain_step (by decide), chain_short (by decide), ← evC_eq]
  decide +kernel
theorem spl2 : spl 2 = 1 := by decide
theorem form4 : formedE 4 [dX, dY] = 0 := by decide
theorem aw_root1 : rootE 4 dX 1 2 [dY] = 0 ∧ rootD 4 dX 1 2 [dY] = dYX := by
  have h := rootE_c (z := 4) (leaf := dX) (i := 1) (n := 2) (p := [dY]) form4 (by decide)
  have e : clD 4 dX [dY].reverse 1 2 = some dYX := by
    show clD 4 dX [dY] 1 2 = _
    simp [clD, spl2, nod_yx]
  rw [e] at h
  exact h
theorem aw_root0 : rootE 4 dX 0 2 [dY] = 0 ∧ rootD 4 dX 0 2 [dY] = dXY := by
  have h := rootE_c (z := 4) (leaf := dX) (i := 0) (n := 2) (p := [dY]) form4 (by decide)
  have e : clD 4 dX [dY].reverse 0 2 = some dXY := by
    show clD 4 dX [dY] 0 2 = _
    simp [clD, spl2, nod_xy]
  rw [e] at h
  exact h
theorem aw_roots : rootsE 4 dX 1 2 [dY] = 0 ∧ rootsD 4 dX 1 2 [dY] = (dX, dXY) := by
  have h := rootsE_c (z := 4) (old := dX) (m := 1) (n := 2) (p := [dY]) form4 (by decide)
  have e : twD 4 dX [dY].reverse 1 2 true = some (dX, dXY) := by
    show twD 4 dX [dY] 1 2 true = _
    simp [twD, spl2, nod_xy]
  rw [e] at h
  exact h
theorem aw_inc : incE 4 dX 1 2 [dY] dXY = 10 := by
  unfold incE
  rw [show formedE 4 [dX, dXY, dY] = 0 by decide, aw_root1.1, aw_root1.2]
  decide

set_option maxRecDepth 100000 in
set_option maxHeartbeats 2000000 in
theorem mawake_any (w : World) (hT : Tabs w) :
    Calls Tryd.prog 12 #[] w fun e w' => e = .returned (.bool true) ∧ Kept [] w w' := by
  have HT := hide hT
  clear hT
  have hyl : dY.length = 32 := rfl
  go_enter Tryd.func12, Tryd.ntmps12
  have HA0 := hide (((Kept.refl [] (w.alloc (.cells (zb 32) 23))).alloc (.cells (zb 32) 23)).heap (heap_alloc_new w (.cells (zb 32) 23)) (by simp))
  have HA1 := hide (alloc_at w (.cells (zb 32) 23) (.cells (zb 32) 23))
  obtain ⟨W0, hW0⟩ : ∃ W0, (w.alloc (.cells (zb 32) 23)).alloc (.cells (zb 32) 23) = W0 := ⟨_, rfl⟩
  have HK0 := hide (by rw [← hW0]; exact (((Kept.refl [] w).alloc (.cells (zb 32) 23)).alloc (.cells (zb 32) 23)) : Kept [] w W0)
  rw [hW0] at HA0 HA1
  have hsz : W0.heap.size = w.heap.size + 1 + 1 := by rw [← hW0]; simp
  have HB1 := hide ((setRow_other W0 w.heap.size (w.heap.size + 1) (brow dX) (by omega)).trans (unhide HA1))
  have HX1 := hide ((setRow_other (W0.setRow w.heap.size (brow dX)) (w.heap.size + 1) w.heap.size (brow dY) (by omega)).trans (setRow_heap W0 _ _ (brow dX) _ _ (unhide HA0)))
  have HY1 := hide (setRow_heap (W0.setRow w.heap.size (brow dX)) _ _ (brow dY) _ _ (unhide HB1))
  have HK1 := hide (((unhide HK0).setRow (g := w.heap.size) (Or.inr (by omega)) (brow dX)).setRow (g := w.heap.size + 1) (Or.inr (by omega)) (brow dY))
  go_wp2_with (first
    | (refine wpList_build_as rfl 23 #[(0, .const (.int .u8 1)), (1, .const (.int .u8 2)), (2, .const (.int .u8 3)), (3, .const (.int .u8 4))] rfl (brow dX) (by kernel_rfl) ?_)
    | (refine wpList_build_as rfl 23 #[(0, .const (.int .u8 5)), (1, .const (.int .u8 6)), (2, .const (.int .u8 7)), (3, .const (.int .u8 8))] rfl (brow dY) (by kernel_rfl) ?_)
    | (rw [zb32, hW0]; refine wpList_store_row rfl 23 _ _ rfl w.heap.size (brow dX) rfl rfl _ (zb 32) (unhide HA0) (by kernel_rfl) (by kernel_rfl) (brow_one _) ?_)
    | (refine wpList_store_row rfl 23 _ _ rfl (w.heap.size + 1) (brow dY) rfl rfl _ (zb 32) (unhide HB1) (by kernel_rfl) (by kernel_rfl) (brow_one _) ?_)
    | (refine wpList_load_row rfl 23 _ rfl w.heap.size rfl _ (brow dX) (0, 0) _ (unhide HX1) Tryd.underlying23 rfl (by kernel_rfl) ?_)
    | (refine wpList_load_mid rfl 23 _ rfl (w.heap.size + 1) 0 rfl (dY.map u8) _ (range_row (unhide HY1)) Tryd.underlying23 rfl (by kernel_rfl) ?_))
  rw [zb32, one_dig dY rfl]
  obtain ⟨W1, hW1⟩ : ∃ W1, (W0.setRow w.heap.size (brow dX)).setRow (w.heap.size + 1) (brow dY) = W1 := ⟨_, rfl⟩
  have hs1 : w.heap.size + 1 + 1 = W1.heap.size := by rw [← hW1, ← hsz]; simp
  rw [hW1] at HX1 HY1 HK1
  rw [hW1, hs1]
  clear hW1 hW0 HA0 HA1 HB1 HK0
  have kc2 := (Kept.refl [] W1).alloc (.cells (brow dY) 23)
  refine Calls.mono (rootOf_any 4 dX 1 2 _ [dY] _ (by decide) dX_dg (by decide) (by decide) (RdD.one (heap_alloc_new W1 _) dY_dg) ((unhide HT).k ((unhide HK1).trans kc2 (by simp)))) ?_
  rintro e w2 ⟨rfl, k2⟩
  rw [aw_root1.1, aw_root1.2]
  have kk2 := kc2.trans k2 (by simp)
  have HK2 := hide ((unhide HK1).trans kk2 (by simp))
  have HX2 := hide (kk2.heap (unhide HX1) (by simp))
  have HY2 := hide (kk2.heap (unhide HY1) (by simp))
  clear kc2 k2 kk2 HX1 HY1
  have kd := ((Kept.refl [] w2).alloc (.cells (zb 32) 23)).setRow (g := w2.heap.size) (Or.inr (Nat.le_refl _)) (brow dYX)
  have HDd := hide (setRow_heap (w2.alloc (.cells (zb 32) 23)) w2.heap.size (zb 32) (brow dYX) 23 (0, 0) (heap_alloc_new _ _))
  have HX3 := hide (kd.heap (unhide HX2) (by simp))
  have HY3 := hide (kd.heap (unhide HY2) (by simp))
  have HK3 := hide ((unhide HK2).trans kd (by simp))
  clear kd HX2 HY2
  go_wp2_with (first
    | (rw [zb32]; refine wpList_store_row rfl 23 _ _ rfl w2.heap.size (brow dYX) rfl rfl _ (zb 32) (heap_alloc_new _ _) (by kernel_rfl) (by kernel_rfl) (brow_one _) ?_)
    | (refine wpList_load_row rfl 23 _ rfl w.heap.size rfl _ (brow dX) (0, 0) _ (unhide HX3) Tryd.underlying23 rfl (by kernel_rfl) ?_)
    | (refine wpList_load_mid rfl 23 _ rfl (w.heap.size + 1) 0 rfl (dY.map u8) _ (range_row (unhide HY3)) Tryd.underlying23 rfl (by kernel_rfl) ?_))
  rw [zb32, one_dig dY rfl]
  obtain ⟨W3, hW3⟩ : ∃ W3, (w2.alloc (.cells (zb 32) 23)).setRow w2.heap.size (brow dYX) = W3 := ⟨_, rfl⟩
  have hs3 : w2.heap.size + 1 = W3.heap.size := by rw [← hW3]; simp
  rw [hW3] at HX3 HY3 HK3 HDd
  rw [hW3, hs3]
  clear hW3
  have kc4 := (Kept.refl [] W3).alloc (.cells (brow dY) 23)
  refine Calls.mono (rootsOf_any 4 1 2 dX _ [dY] _ (by decide) dX_dg (by decide) (by decide) (RdD.one (heap_alloc_new W3 _) dY_dg) ((unhide HT).k ((unhide HK3).trans kc4 (by simp)))) ?_
  rintro e w4 ⟨rfl, k4⟩
  rw [aw_roots.1, aw_roots.2]
  have kk4 := kc4.trans k4 (by simp)
  have HK4 := hide ((unhide HK3).trans kk4 (by simp))
  have HX4 := hide (kk4.heap (unhide HX3) (by simp))
  have HY4 := hide (kk4.heap (unhide HY3) (by simp))
  have HD4 := hide (kk4.heap (unhide HDd) (by simp))
  clear kc4 k4 kk4 HX3 HY3 HDd
  have ka := (((Kept.refl [] w4).alloc (.cells (zb 32) 23)).alloc (.cells (zb 32) 23))
  have kab := (ka.setRow (g := w4.heap.size) (Or.inr (Nat.le_refl _)) (brow dX)).setRow (g := w4.heap.size + 1) (Or.inr (by omega)) (brow dXY)
  have HA0 := hide (((Kept.refl [] (w4.alloc (.cells (zb 32) 23))).alloc (.cells (zb 32) 23)).heap (heap_alloc_new w4 (.cells (zb 32) 23)) (by simp))
  have HB0 := hide ((setRow_other ((w4.alloc (.cells (zb 32) 23)).alloc (.cells (zb 32) 23)) w4.heap.size (w4.heap.size + 1) (brow dX) (by omega)).trans (alloc_at w4 (.cells (zb 32) 23) (.cells (zb 32) 23)))
  have HA5 := hide ((setRow_other (((w4.alloc (.cells (zb 32) 23)).alloc (.cells (zb 32) 23)).setRow w4.heap.size (brow dX)) (w4.heap.size + 1) w4.heap.size (brow dXY) (by omega)).trans (setRow_heap _ _ _ (brow dX) _ _ (unhide HA0)))
  have HB5 := hide (setRow_heap (((w4.alloc (.cells (zb 32) 23)).alloc (.cells (zb 32) 23)).setRow w4.heap.size (brow dX)) _ _ (brow dXY) _ _ (unhide HB0))
  have HX5 := hide (kab.heap (unhide HX4) (by simp))
  have HY5 := hide (kab.heap (unhide HY4) (by simp))
  have HD5 := hide (kab.heap (unhide HD4) (by simp))
  have HK5 := hide ((unhide HK4).trans kab (by simp))
  clear ka kab HX4 HY4 HD4
  go_wp2_with (first
    | (rw [zb32]; refine wpList_store_row rfl 23 _ _ rfl w4.heap.size (brow dX) rfl rfl _ (zb 32) (unhide HA0) (by kernel_rfl) (by kernel_rfl) (brow_one _) ?_)
    | (refine wpList_store_row rfl 23 _ _ rfl (w4.heap.size + 1) (brow dXY) rfl rfl _ (zb 32) (unhide HB0) (by kernel_rfl) (by kernel_rfl) (brow_one _) ?_)
    | (refine wpList_load_row rfl 23 _ rfl w.heap.size rfl _ (brow dX) (0, 0) _ (unhide HX5) Tryd.underlying23 rfl (by kernel_rfl) ?_)
    | (refine wpList_load_mid rfl 23 _ rfl (w.heap.size + 1) 0 rfl (dY.map u8) _ (range_row (unhide HY5)) Tryd.underlying23 rfl (by kernel_rfl) ?_))
  rw [zb32, one_dig dY rfl]
  obtain ⟨W5, hW5⟩ : ∃ W5, (((w4.alloc (.cells (zb 32) 23)).alloc (.cells (zb 32) 23)).setRow w4.heap.size (brow dX)).setRow (w4.heap.size + 1) (brow dXY) = W5 := ⟨_, rfl⟩
  have hs5 : w4.heap.size + 1 + 1 = W5.heap.size := by rw [← hW5]; simp
  rw [hW5] at HX5 HY5 HK5 HD5 HA5 HB5
  rw [hW5, hs5]
  clear hW5 HA0 HB0
  have kc6 := (Kept.refl [] W5).alloc (.cells (brow dY) 23)
  refine Calls.mono (docRootOf_any 4 dX 1 2 _ [dY] _ (by decide) dX_dg (by decide) (by decide) (RdD.one (heap_alloc_new W5 _) dY_dg) (by decide)) ?_
  rintro e w6 ⟨rfl, k6⟩
  rw [aw_root1.1, aw_root1.2]
  have kk6 := kc6.trans k6 (by simp)
  have HK6 := hide ((unhide HK5).trans kk6 (by simp))
  have HX6 := hide (kk6.heap (unhide HX5) (by simp))
  have HY6 := hide (kk6.heap (unhide HY5) (by simp))
  have HD6 := hide (kk6.heap (unhide HD5) (by simp))
  have HA6 := hide (kk6.heap (unhide HA5) (by simp))
  have HB6 := hide (kk6.heap (unhide HB5) (by simp))
  clear kc6 k6 kk6 HX5 HY5 HD5 HA5 HB5
  have kk7 := ((Kept.refl [] w6).alloc (.cells (zb 32) 23)).setRow (g := w6.heap.size) (Or.inr (Nat.le_refl _)) (brow dYX)
  have HS7 := hide (setRow_heap (w6.alloc (.cells (zb 32) 23)) w6.heap.size (zb 32) (brow dYX) 23 (0, 0) (heap_alloc_new _ _))
  have HK7 := hide ((unhide HK6).trans kk7 (by simp))
  have HX7 := hide (kk7.heap (unhide HX6) (by simp))
  have HY7 := hide (kk7.heap (unhide HY6) (by simp))
  have HD7 := hide (kk7.heap (unhide HD6) (by simp))
  have HA7 := hide (kk7.heap (unhide HA6) (by simp))
  have HB7 := hide (kk7.heap (unhide HB6) (by simp))
  clear kk7 HX6 HY6 HD6 HA6 HB6
  go_wp2_with (first
    | (rw [zb32]; refine wpList_store_row rfl 23 _ _ rfl w6.heap.size (brow dYX) rfl rfl _ (zb 32) (heap_alloc_new _ _) (by kernel_rfl) (by kernel_rfl) (brow_one _) ?_)
    | (refine wpList_load_row rfl 23 _ rfl w.heap.size rfl _ (brow dX) (0, 0) _ (unhide HX7) Tryd.underlying23 rfl (by kernel_rfl) ?_)
    | (refine wpList_load_mid rfl 23 _ rfl (w.heap.size + 1) 0 rfl (dY.map u8) _ (range_row (unhide HY7)) Tryd.underlying23 rfl (by kernel_rfl) ?_))
  rw [zb32, one_dig dY rfl]
  obtain ⟨W7, hW7⟩ : ∃ W7, (w6.alloc (.cells (zb 32) 23)).setRow w6.heap.size (brow dYX) = W7 := ⟨_, rfl⟩
  have hs7 : w6.heap.size + 1 = W7.heap.size := by rw [← hW7]; simp
  rw [hW7] at HK7 HX7 HY7 HD7 HA7 HB7 HS7
  rw [hW7, hs7]
  clear hW7
  have kc8 := (Kept.refl [] W7).alloc (.cells (brow dY) 23)
  refine Calls.mono (docRootOf_any 4 dX 0 2 _ [dY] _ (by decide) dX_dg (by decide) (by decide) (RdD.one (heap_alloc_new W7 _) dY_dg) (by decide)) ?_
  rintro e w8 ⟨rfl, k8⟩
  rw [aw_root0.1, aw_root0.2]
  have kk8 := kc8.trans k8 (by simp)
  have HK8 := hide ((unhide HK7).trans kk8 (by simp))
  have HX8 := hide (kk8.heap (unhide HX7) (by simp))
  have HY8 := hide (kk8.heap (unhide HY7) (by simp))
  have HD8 := hide (kk8.heap (unhide HD7) (by simp))
  have HA8 := hide (kk8.heap (unhide HA7) (by simp))
  have HB8 := hide (kk8.heap (unhide HB7) (by simp))
  have HS8 := hide (kk8.heap (unhide HS7) (by simp))
  clear kc8 k8 kk8 HX7 HY7 HD7 HA7 HB7 HS7
  have kk9 := ((Kept.refl [] w8).alloc (.cells (zb 32) 23)).setRow (g := w8.heap.size) (Or.inr (Nat.le_refl _)) (brow dXY)
  have HT9 := hide (setRow_heap (w8.alloc (.cells (zb 32) 23)) w8.heap.size (zb 32) (brow dXY) 23 (0, 0) (heap_alloc_new _ _))
  have HK9 := hide ((unhide HK8).trans kk9 (by simp))
  have HX9 := hide (kk9.heap (unhide HX8) (by simp))
  have HY9 := hide (kk9.heap (unhide HY8) (by simp))
  have HD9 := hide (kk9.heap (unhide HD8) (by simp))
  have HA9 := hide (kk9.heap (unhide HA8) (by simp))
  have HB9 := hide (kk9.heap (unhide HB8) (by simp))
  have HS9 := hide (kk9.heap (unhide HS8) (by simp))
  clear kk9 HX8 HY8 HD8 HA8 HB8 HS8
  have hq1 : ∀ W, (Op.equalIn 10000 23 (.agg (brow dYX)) (.agg (brow dYX))).run Tryd.prog W = .ok true W := fun W => by have := dig_eq W dYX dYX rfl rfl; rwa [decide_eq_true rfl] at this
  have hq2 : ∀ W, (Op.equalIn 10000 23 (.agg (brow dX)) (.agg (brow dX))).run Tryd.prog W = .ok true W := fun W => by have := dig_eq W dX dX rfl rfl; rwa [decide_eq_true rfl] at this
  have hq3 : ∀ W, (Op.equalIn 10000 23 (.agg (brow dXY)) (.agg (brow dXY))).run Tryd.prog W = .ok true W := fun W => by have := dig_eq W dXY dXY rfl rfl; rwa [decide_eq_true rfl] at this
  have hq4 : ∀ W, (Op.equalIn 10000 23 (.agg (brow dYX)) (.agg (zb 32))).run Tryd.prog W = .ok false W := fun W => by have := dig_eq W dYX zD rfl rfl; rw [decide_eq_false (by decide)] at this; exact this
  rw [← zb32] at hq4
  have HT9' := hide (((Kept.refl [] ((w8.alloc (.cells (zb 32) 23)).setRow w8.heap.size (brow dXY))).alloc (.cells (brow dY) 23)).heap (unhide HT9) (by simp))
  go_wp2_with (first
    | (rw [zb32]; refine wpList_store_row rfl 23 _ _ rfl w8.heap.size (brow dXY) rfl rfl _ (zb 32) (heap_alloc_new _ _) (by kernel_rfl) (by kernel_rfl) (brow_one _) ?_)
    | (refine wpList_load_rowG rfl 23 (.tmp 3) rfl w2.heap.size rfl _ (brow dYX) (0, 0) _ (unhide HD9) Tryd.underlying23 rfl (by kernel_rfl) ?_)
    | (refine wpList_load_rowG rfl 23 (.tmp 8) rfl w6.heap.size rfl _ (brow dYX) (0, 0) _ (unhide HS9) Tryd.underlying23 rfl (by kernel_rfl) ?_)
    | (refine wpList_load_rowG rfl 23 (.tmp 5) rfl w4.heap.size rfl _ (brow dX) (0, 0) _ (unhide HA9) Tryd.underlying23 rfl (by kernel_rfl) ?_)
    | (refine wpList_load_rowG rfl 23 (.tmp 1) rfl w.heap.size rfl _ (brow dX) (0, 0) _ (unhide HX9) Tryd.underlying23 rfl (by kernel_rfl) ?_)
    | (refine wpList_load_rowG rfl 23 (.tmp 6) rfl (w4.heap.size + 1) rfl _ (brow dXY) (0, 0) _ (unhide HB9) Tryd.underlying23 rfl (by kernel_rfl) ?_)
    | (refine wpList_load_rowG rfl 23 (.tmp 10) rfl w8.heap.size rfl _ (brow dXY) (0, 0) _ (unhide HT9) Tryd.underlying23 rfl (by kernel_rfl) ?_)
    | (rw [zb32, one_dig dY rfl]; refine wpList_load_rowG rfl 23 (.tmp 10) rfl w8.heap.size rfl _ (brow dXY) (0, 0) _ (unhide HT9') Tryd.underlying23 rfl (by kernel_rfl) ?_)
    | (refine wpList_load_midG rfl 23 (.tmp 2) rfl (w.heap.size + 1) 0 rfl (dY.map u8) _ (range_row (unhide HY9)) Tryd.underlying23 rfl (by kernel_rfl) ?_))
  clear hq1 hq2 hq3 hq4 HT9'
  obtain ⟨W9, hW9⟩ : ∃ W9, (w8.alloc (.cells (zb 32) 23)).setRow w8.heap.size (brow dXY) = W9 := ⟨_, rfl⟩
  have hs9 : w8.heap.size + 1 = W9.heap.size := by rw [← hW9]; simp
  rw [hW9] at HK9
  rw [hW9, hs9]
  clear hW9 HX9 HY9 HD9 HA9 HB9 HS9 HT9
  have kc := (Kept.refl [] W9).alloc (.cells (brow dY) 23)
  refine Calls.mono (inclusion_any 4 dX 1 2 _ [dY] dXY _ (by decide) dX_dg ⟨rfl, by decide⟩ (by decide) (by decide) (RdD.one (heap_alloc_new W9 _) dY_dg) ((unhide HT).k ((unhide HK9).trans kc (by simp)))) ?_
  rintro e w10 ⟨rfl, k10⟩
  have HK10 := hide (((unhide HK9).trans kc (by simp)).trans k10 (by simp))
  rw [aw_inc]
  clear k10 kc
  go_wp2
  go_ret
  exact ⟨rfl, unhide HK10⟩
end Go.Proofs.YthafpaenggcpdaaDoor
namespace Go.Proofs.YthafpaenggcpdaaDoor
open Go.RowKit Go.BigFrame
set_option linter.unusedVariables false
set_option linter.unusedSimpArgs false

/-- What DocInclusion answers. -/
def dincE (z : Int) (leaf : List Nat) (i n : Nat) (p : List (List Nat)) (root : List Nat) : Nat := if formedE z [root] ≠ 0 then formedE z [root] else if rootE z leaf i n p ≠ 0 then rootE z leaf i n p else if rootD z leaf i n p = root then 0 else 10
theorem dinc_eq (z : Int) (leaf : List Nat) (i n : Nat) (p : List (List Nat)) (root : List Nat) : incE z leaf i n p root = dincE z leaf i n p root := by
  have key : ∀ ds : List (List Nat), formedE z ds = if widthB z = false then 1 else if ds.all (formB z) then 0 else 3 := fun ds => rfl
  unfold incE dincE
  cases hw : widthB z with
  | false =>
    have h1 : ∀ ds, formedE z ds = 1 := fun ds => by rw [key, if_pos hw]
    rw [h1, h1]
  | true =>
    have h1 : ∀ ds : List (List Nat), formedE z ds = if ds.all (formB z) then 0 else 3 := fun ds => by rw [key, if_neg (by rw [hw]; simp)]
    cases hr : formB z root with
    | false =>
      have a1 : formedE z (leaf :: root :: p) = 3 := by rw [h1, if_neg (by simp [hr])]
      have a2 : formedE z [root] = 3 := by rw [h1, if_neg (by simp [hr])]
      rw [a1, a2]
    | true =>
      have a2 : formedE z [root] = 0 := by rw [h1, if_pos (by simp [hr])]
      have a1 : formedE z (leaf :: root :: p) = formedE z (leaf :: p) := by rw [h1, h1]; simp [hr]
      rw [a1, a2, if_neg (show ¬ (0 : Nat) ≠ 0 by decide)]
      by_cases h : formedE z (leaf :: p) = 0
      · rw [if_neg (by omega)]
      · rw [if_pos h, if_pos (by rw [(rootE_f h).1]; exact h), (rootE_f h).1]

set_option maxRecDepth 100000 in
set_option maxHeartbeats 2000000 in
theorem docInclusion_any (z : Int) (leaf : List Nat) (i n : Nat) (pv : Value) (p : List (List Nat)) (root : List Nat) (w : World) (hz : -9223372036854775808 ≤ z ∧ z ≤ 9223372036854775807) (hl : Dg leaf) (hr : Dg root) (hi : i < 18446744073709551616) (hn : n < 18446744073709551616) (hp : RdD w pv p) (hpl : p.length ≤ 1048576) :
    Calls Tryd.prog 14 #[.int .i64 z, .agg (brow leaf), .int .u64 i, .int .u64 n, pv, .agg (brow root)] w fun e w' => e = .returned (.int .i64 (dincE z leaf i n p root)) ∧ Kept [] w w' := by
  have HP := hide hp
  obtain ⟨ao, len, cap, rfl, h1, h2, h3, h4, h5⟩ := hp
  clear h4 h5
  have HL := hide hl
  have HR := hide hr
  have hll := hl.1
  have hrl := hr.1
  obtain ⟨E, hE⟩ : ∃ E, dincE z leaf i n p root = E := ⟨_, rfl⟩
  have HE := hide hE
  rw [hE]
  clear hE
  go_enter Tryd.func14, Tryd.ntmps14
  have HGL := hide (((Kept.refl [] (w.alloc (.cells (brow leaf) 23))).alloc (.cells (brow root) 23)).heap (heap_alloc_new w (.cells (brow leaf) 23)) (by simp))
  have HGR := hide (alloc_at w (.cells (brow leaf) 23) (.cells (brow root) 23))
  have HK0 := hide (((Kept.refl [] w).alloc (.cells (brow leaf) 23)).alloc (.cells (brow root) 23))
  have HSL := hide (by rw [List.length_map, hll]; exact Tryd.size_dig : (Tryd.prog.info? 23).map (·.size) = some (leaf.map u8).length)
  have HSM := hide (by rw [List.length_map, hrl]; exact Tryd.size_dig : (Tryd.prog.info? 23).map (·.size) = some (root.map u8).length)
  go_wp2_with (refine wpList_load_mid rfl 23 _ rfl (w.heap.size + 1) 0 rfl (root.map u8) _ (range_row (unhide HGR)) Tryd.underlying23 rfl (unhide HSM) ?_)
  rw [zb32, one_dig root hrl]
  have k0 := (Kept.refl [] ((w.alloc (.cells (brow leaf) 23)).alloc (.cells (brow root) 23))).alloc (.cells (brow root) 23)
  refine Calls.mono (refCheck_any z _ [root] _ hz (RdD.one (alloc3_at _ _ _ _) (unhide HR))) ?_
  rintro e w1 ⟨rfl, k1⟩
  have k01 := k0.trans k1 (by simp)
  have HK1 := hide ((unhide HK0).trans k01 (by simp))
  have HL1 := hide (k01.heap (unhide HGL) (by simp))
  have HR1 := hide (k01.heap (unhide HGR) (by simp))
  clear k0 k1 k01 HGL HGR
  obtain ⟨f, hf⟩ : ∃ f, formedE z [root] = f := ⟨_, rfl⟩
  have HF := hide hf
  rw [hf]
  clear hf
  go_wp2_with (refine wpList_load_mid rfl 23 _ rfl w.heap.size 0 rfl (leaf.map u8) _ (range_row (unhide HL1)) Tryd.underlying23 rfl (unhide HSL) ?_)
  refine Calls.mono (docRootOf_any z leaf i n _ p _ hz (unhide HL) hi hn ((unhide HP).old (unhide HK1)) hpl) ?_
  rintro e w2 ⟨rfl, k2⟩
  have HDG := hide (rootD_dg (z := z) (i := i) (n := n) (p := p) (unhide HL))
  obtain ⟨D, hD⟩ : ∃ D, rootD z leaf i n p = D := ⟨_, rfl⟩
  obtain ⟨G, hG⟩ : ∃ G, rootE z leaf i n p = G := ⟨_, rfl⟩
  rw [hD] at HDG
  have hdl := (unhide HDG).1
  have HD := hide hD
  have HG := hide hG
  rw [hD, hG]
  clear hD hG
  have HR2 := hide (k2.heap (unhide HR1) (by simp))
  have HK2 := hide ((unhide HK1).trans k2 (by simp))
  clear k2 HL1 HR1
  have HSO := hide (by rw [brow_size, hdl]; exact Tryd.size_dig : (Tryd.prog.info? 23).map (·.size) = some (brow D).size)
  have HSOL := hide (by rw [List.length_map, hdl]; exact Tryd.size_dig : (Tryd.prog.info? 23).map (·.size) = some (D.map u8).length)
  have HNW := hide (setRow_heap (w2.alloc (.cells (zb 32) 23)) w2.heap.size (zb 32) (brow D) 23 (0, 0) (heap_alloc_new _ _))
  have k5 := ((Kept.refl [] w2).alloc (.cells (zb 32) 23)).setRow (g := w2.heap.size) (Or.inr (Nat.le_refl _)) (brow D)
  have HR5 := hide (k5.heap (unhide HR2) (by simp))
  have HK5 := hide ((unhide HK2).trans k5 (by simp))
  clear k5 HR2
  have HEE := hide (by rw [← unhide HE]; unfold dincE; rw [unhide HF, unhide HD, unhide HG] : E = if f ≠ 0 then f else if G ≠ 0 then G else if D = root then 0 else 10)
  by_cases hf0 : f = 0
  · subst hf0
    by_cases hg0 : G = 0
    · subst hg0
      have hqd : ∀ W, (Op.equalIn 10000 23 (.agg (D.map u8).toArray) (.agg (root.map u8).toArray)).run Tryd.prog W = .ok (decide (D = root)) W := fun W => dig_eq W D root hdl hrl
      by_cases hdr : D = root
      · have HC := hide (by rw [unhide HEE]; simp [hdr] : E = 0)
        rw [decide_eq_true hdr] at hqd
        clear hdr
        go_wp2_with (first
          | (rw [zb32]; refine wpList_store_row rfl 23 _ _ rfl w2.heap.size (brow D) rfl rfl _ (zb 32) (heap_alloc_new _ _) (unhide HSO) (by rw [zb_size, brow_size, hdl]) (brow_one _) ?_)
          | (refine wpList_load_mid rfl 23 _ rfl w2.heap.size 0 rfl (D.map u8) _ (range_row (unhide HNW)) Tryd.underlying23 rfl (unhide HSOL) ?_)
          | (refine wpList_load_mid rfl 23 _ rfl (w.heap.size + 1) 0 rfl (root.map u8) _ (range_row (unhide HR5)) Tryd.underlying23 rfl (unhide HSM) ?_))
        go_ret
        exact ⟨by rw [unhide HC]; rfl, unhide HK5⟩
      · have HC := hide (by rw [unhide HEE]; simp [hdr] : E = 10)
        rw [decide_eq_false hdr] at hqd
        clear hdr
        go_wp2_with (first
          | (rw [zb32]; refine wpList_store_row rfl 23 _ _ rfl w2.heap.size (brow D) rfl rfl _ (zb 32) (heap_alloc_new _ _) (unhide HSO) (by rw [zb_size, brow_size, hdl]) (brow_one _) ?_)
          | (refine wpList_load_mid rfl 23 _ rfl w2.heap.size 0 rfl (D.map u8) _ (range_row (unhide HNW)) Tryd.underlying23 rfl (unhide HSOL) ?_)
          | (refine wpList_load_mid rfl 23 _ rfl (w.heap.size + 1) 0 rfl (root.map u8) _ (range_row (unhide HR5)) Tryd.underlying23 rfl (unhide HSM) ?_))
        go_ret
        exact ⟨by rw [unhide HC]; rfl, unhide HK5⟩
    · have hb : ((G : Int) != 0) = true := by simp; omega
      have HC := hide (by rw [unhide HEE]; simp [hg0] : E = G)
      go_wp2_with (rw [zb32]; refine wpList_store_row rfl 23 _ _ rfl w2.heap.size (brow D) rfl rfl _ (zb 32) (heap_alloc_new _ _) (unhide HSO) (by rw [zb_size, brow_size, hdl]) (brow_one _) ?_)
      go_ret
      exact ⟨by rw [unhide HC]; rfl, unhide HK5⟩
  · have hb : ((f : Int) != 0) = true := by simp; omega
    have HC := hide (by rw [unhide HEE]; simp [hf0] : E = f)
    go_wp2_with (rw [zb32]; refine wpList_store_row rfl 23 _ _ rfl w2.heap.size (brow D) rfl rfl _ (zb 32) (heap_alloc_new _ _) (unhide HSO) (by rw [zb_size, brow_size, hdl]) (brow_one _) ?_)
    go_ret
    exact ⟨by rw [unhide HC]; rfl, unhide HK5⟩
end Go.Proofs.YthafpaenggcpdaaDoor
/-
  'e := f(q.A, .., twin(q.P), ..)': reads, two calls one behind the other, an assign; the reads may come up behind the first call. One law for all orders.
-/
namespace Go.Proofs.YthafpaenggcpdaaDoor
open Go Go.RowKit Go.BigFrame
set_option linter.unusedVariables false
set_option linter.unusedSimpArgs false
section
variable {P : Program} {Q : Exit → Act → World → Prop}
theorem wp_ask12 {id : Nat} {o0 o1 o2 o3 o4 o5 o6 o7 o8 o9 o10 o11 o12 o13 o14 : Oper} {a : Act} {w : World} (S : World → Prop) (hm : P.follows .mixedOrders = true) (hs : Region.noSelect #[o0, o1, o2, o3, o4, o5, o6, o7, o8, o9, o10, o11, o12, o13, o14] = true)
    (f0 : Region.free .any #[o0, o1, o2, o3, o4, o5, o6, o7, o8, o9, o10, o11, o12, o13, o14] #[false, false, false, false, false, false, false, false, false, false, false, false, false, false, false] 0 = true) (r0 : (Region.ready .any #[o0, o1, o2, o3, o4, o5, o6, o7, o8, o9, o10, o11, o12, o13, o14] #[false, false, false, false, false, false, false, false, false, false, false, false, false, false, false]).contains 0 = true)
    (f1 : Region.free .any #[o0, o1, o2, o3, o4, o5, o6, o7, o8, o9, o10, o11, o12, o13, o14] #[true, false, false, false, false, false, false, false, false, false, false, false, false, false, false] 1 = true) (r1 : (Region.ready .any #[o0, o1, o2, o3, o4, o5, o6, o7, o8, o9, o10, o11, o12, o13, o14] #[true, false, false, false, false, false, false, false, false, false, false, false, false, false, false]).contains 1 = true)
    (f2 : Region.free .any #[o0, o1, o2, o3, o4, o5, o6, o7, o8, o9, o10, o11, o12, o13, o14] #[true, true, false, false, false, false, false, false, false, false, false, false, false, false, false] 2 = true) (r2 : (Region.ready .any #[o0, o1, o2, o3, o4, o5, o6, o7, o8, o9, o10, o11, o12, o13, o14] #[true, true, false, false, false, false, false, false, false, false, false, false, false, false, false]).contains 2 = true)
    (f3 : Region.free .any #[o0, o1, o2, o3, o4, o5, o6, o7, o8, o9, o10, o11, o12, o13, o14] #[true, true, true, false, false, false, false, false, false, false, false, false, false, false, false] 3 = true) (r3 : (Region.ready .any #[o0, o1, o2, o3, o4, o5, o6, o7, o8, o9, o10, o11, o12, o13, o14] #[true, true, true, false, false, false, false, false, false, false, false, false, false, false, false]).contains 3 = true)
    (f4 : Region.free .any #[o0, o1, o2, o3, o4, o5, o6, o7, o8, o9, o10, o11, o12, o13, o14] #[true, true, true, true, false, false, false, false, false, false, false, false, false, false, false] 4 = true) (r4 : (Region.ready .any #[o0, o1, o2, o3, o4, o5, o6, o7, o8, o9, o10, o11, o12, o13, o14] #[true, true, true, true, false, false, false, false, false, false, false, false, false, false, false]).contains 4 = true)
    (f5 : Region.free .any #[o0, o1, o2, o3, o4, o5, o6, o7, o8, o9, o10, o11, o12, o13, o14] #[true, true, true, true, true, false, false, false, false, false, false, false, false, false, false] 5 = true) (r5 : (Region.ready .any #[o0, o1, o2, o3, o4, o5, o6, o7, o8, o9, o10, o11, o12, o13, o14] #[true, true, true, true, true, false, false, false, false, false, false, false, false, false, false]).contains 5 = true)
    (f6 : Region.free .any #[o0, o1, o2, o3, o4, o5, o6, o7, o8, o9, o10, o11, o12, o13, o14] #[true, true, true, true, true, true, false, false, false, false, false, false, false, false, false] 6 = true) (r6 : (Region.ready .any #[o0, o1, o2, o3, o4, o5, o6, o7, o8, o9, o10, o11, o12, o13, o14] #[true, true, true, true, true, true, false, false, false, false, false, false, false, false, false]).contains 6 = true)
    (f7 : Region.free .any #[o0, o1, o2, o3, o4, o5, o6, o7, o8, o9, o10, o11, o12, o13, o14] #[true, true, true, true, true, true, true, false, false, false, false, false, false, false, false] 7 = true) (r7 : (Region.ready .any #[o0, o1, o2, o3, o4, o5, o6, o7, o8, o9, o10, o11, o12, o13, o14] #[true, true, true, true, true, true, true, false, false, false, false, false, false, false, false]).contains 7 = true)
    (f8 : Region.free .any #[o0, o1, o2, o3, o4, o5, o6, o7, o8, o9, o10, o11, o12, o13, o14] #[true, true, true, true, true, true, true, true, false, false, false, false, false, false, false] 8 = true) (r8 : (Region.ready .any #[o0, o1, o2, o3, o4, o5, o6, o7, o8, o9, o10, o11, o12, o13, o14] #[true, true, true, true, true, true, true, true, false, false, false, false, false, false, false]).contains 8 = true)
    (f9 : Region.free .any #[o0, o1, o2, o3, o4, o5, o6, o7, o8, o9, o10, o11, o12, o13, o14] #[true, true, true, true, true, true, true, true, true, false, false, false, false, false, false] 9 = true) (r9 : (Region.ready .any #[o0, o1, o2, o3, o4, o5, o6, o7, o8, o9, o10, o11, o12, o13, o14] #[true, true, true, true, true, true, true, true, true, false, false, false, false, false, false]).contains 9 = true)
    (f11 : Region.free .any #[o0, o1, o2, o3, o4, o5, o6, o7, o8, o9, o10, o11, o12, o13, o14] #[true, true, true, true, true, true, true, true, true, true, false, false, false, false, false] 11 = true) (r11 : (Region.ready .any #[o0, o1, o2, o3, o4, o5, o6, o7, o8, o9, o10, o11, o12, o13, o14] #[true, true, true, true, true, true, true, true, true, true, false, false, false, false, false]).contains 11 = true)
    (f12 : Region.free .any #[o0, o1, o2, o3, o4, o5, o6, o7, o8, o9, o10, o11, o12, o13, o14] #[true, true, true, true, true, true, true, true, true, true, false, true, false, false, false] 12 = true) (r12 : (Region.ready .any #[o0, o1, o2, o3, o4, o5, o6, o7, o8, o9, o10, o11, o12, o13, o14] #[true, true, true, true, true, true, true, true, true, true, false, true, false, false, false]).contains 12 = true)
    (r10 : Region.ready .any #[o0, o1, o2, o3, o4, o5, o6, o7, o8, o9, o10, o11, o12, o13, o14] #[true, true, true, true, true, true, true, true, true, true, false, true, true, false, false] = [10])
    (r13 : Region.ready .any #[o0, o1, o2, o3, o4, o5, o6, o7, o8, o9, o10, o11, o12, o13, o14] #[true, true, true, true, true, true, true, true, true, true, true, true, true, false, false] = [13])
    (f14 : Region.free .any #[o0, o1, o2, o3, o4, o5, o6, o7, o8, o9, o10, o11, o12, o13, o14] #[true, true, true, true, true, true, true, true, true, true, true, true, true, true, false] 14 = true) (r14 : (Region.ready .any #[o0, o1, o2, o3, o4, o5, o6, o7, o8, o9, o10, o11, o12, o13, o14] #[true, true, true, true, true, true, true, true, true, true, true, true, true, true, false]).contains 14 = true)
    (rr : Region.ready .any #[o0, o1, o2, o3, o4, o5, o6, o7, o8, o9, o10, o11, o12, o13, o14] #[true, true, true, true, true, true, true, true, true, true, true, true, true, true, true] = [])
    (g1 : o10.guard = none) (g2 : o13.guard = none) (hS : S w.drew) (v0 v1 v2 v3 v4 v5 v6 v7 v8 v9 v10 v11 : Value) (A0 A1 A2 A3 A4 A5 A6 A7 A8 A9 A10 A11 : Act)
    (p0 : a.put o0.dst v0 = A0) (p1 : A0.put o1.dst v1 = A1) (p2 : A1.put o2.dst v2 = A2) (p3 : A2.put o3.dst v3 = A3) (p4 : A3.put o4.dst v4 = A4) (p5 : A4.put o5.dst v5 = A5) (p6 : A5.put o6.dst v6 = A6) (p7 : A6.put o7.dst v7 = A7) (p8 : A7.put o8.dst v8 = A8) (p9 : A8.put o9.dst v9 = A9) (p10 : A9.put o11.dst v10 = A10) (p11 : A10.put o12.dst v11 = A11) 
    (hy0 : YieldsIf P #[o0, o1, o2, o3, o4, o5, o6, o7, o8, o9, o10, o11, o12, o13, o14] S o0 v0 a) (hy1 : YieldsIf P #[o0, o1, o2, o3, o4, o5, o6, o7, o8, o9, o10, o11, o12, o13, o14] S o1 v1 A0) (hy2 : YieldsIf P #[o0, o1, o2, o3, o4, o5, o6, o7, o8, o9, o10, o11, o12, o13, o14] S o2 v2 A1) (hy3 : YieldsIf P #[o0, o1, o2, o3, o4, o5, o6, o7, o8, o9, o10, o11, o12, o13, o14] S o3 v3 A2) (hy4 : YieldsIf P #[o0, o1, o2, o3, o4, o5, o6, o7, o8, o9, o10, o11, o12, o13, o14] S o4 v4 A3) (hy5 : YieldsIf P #[o0, o1, o2, o3, o4, o5, o6, o7, o8, o9, o10, o11, o12, o13, o14] S o5 v5 A4) (hy6 : YieldsIf P #[o0, o1, o2, o3, o4, o5, o6, o7, o8, o9, o10, o11, o12, o13, o14] S o6 v6 A5) (hy7 : YieldsIf P #[o0, o1, o2, o3, o4, o5, o6, o7, o8, o9, o10, o11, o12, o13, o14] S o7 v7 A6) (hy8 : YieldsIf P #[o0, o1, o2, o3, o4, o5, o6, o7, o8, o9, o10, o11, o12, o13, o14] S o8 v8 A7) (hy9 : YieldsIf P #[o0, o1, o2, o3, o4, o5, o6, o7, o8, o9, o10, o11, o12, o13, o14] S o9 v9 A8) (hy10 : YieldsIf P #[o0, o1, o2, o3, o4, o5, o6, o7, o8, o9, o10, o11, o12, o13, o14] S o11 v10 A9) (hy11 : YieldsIf P #[o0, o1, o2, o3, o4, o5, o6, o7, o8, o9, o10, o11, o12, o13, o14] S o12 v11 A10) 
    (R1 : Value → World → Prop) (k1 : ∀ K : Act → World → Prop, (∀ u w1, R1 u w1 → K (A11.put o10.dst u) w1) → o10.wp P A11 w.drew K (NoPanic Q)) (S1 : ∀ u w1, R1 u w1 → S w1)
    (R2 : Value → World → Value → World → Prop) (k2 : ∀ u w1, R1 u w1 → ∀ K : Act → World → Prop, (∀ v w2, R2 u w1 v w2 → K ((A11.put o10.dst u).put o13.dst v) w2) → o13.wp P (A11.put o10.dst u) w1 K (NoPanic Q)) (S2 : ∀ u w1 v w2, R1 u w1 → R2 u w1 v w2 → S w2)
    (hyl : ∀ u w1 v w2, R1 u w1 → R2 u w1 v w2 → YieldsIf P #[o0, o1, o2, o3, o4, o5, o6, o7, o8, o9, o10, o11, o12, o13, o14] S o14 v ((A11.put o10.dst u).put o13.dst v))
    (h : ∀ u w1 v w2, R1 u w1 → R2 u w1 v w2 → Q .normal (((A11.put o10.dst u).put o13.dst v).put o14.dst v) w2) :
    (Code.region id #[o0, o1, o2, o3, o4, o5, o6, o7, o8, o9, o10, o11, o12, o13, o14] true).wp P Q a w := by
  subst p0 p1 p2 p3 p4 p5 p6 p7 p8 p9 p10 p11
  refine wp_region_noPanic ?_
  refine wp_region_held_drew (S := S) hm hS (fun hH => ?_)
  show wpAnyH P .any #[o0, o1, o2, o3, o4, o5, o6, o7, o8, o9, o10, o11, o12, o13, o14] (NoPanic Q) S 15 #[false, false, false, false, false, false, false, false, false, false, false, false, false, false, false] a w.drew
  refine wpAnyH_take (i := 0) (oi := o0) rfl hs f0 r0 (fun _ _ _ h => h) hy0 hS ?_
  refine wpAnyH_take (i := 1) (oi := o1) rfl hs f1 r1 (fun _ _ _ h => h) hy1 hS ?_
  refine wpAnyH_take (i := 2) (oi := o2) rfl hs f2 r2 (fun _ _ _ h => h) hy2 hS ?_
  refine wpAnyH_take (i := 3) (oi := o3) rfl hs f3 r3 (fun _ _ _ h => h) hy3 hS ?_
  refine wpAnyH_take (i := 4) (oi := o4) rfl hs f4 r4 (fun _ _ _ h => h) hy4 hS ?_
  refine wpAnyH_take (i := 5) (oi := o5) rfl hs f5 r5 (fun _ _ _ h => h) hy5 hS ?_
  refine wpAnyH_take (i := 6) (oi := o6) rfl hs f6 r6 (fun _ _ _ h => h) hy6 hS ?_
  refine wpAnyH_take (i := 7) (oi := o7) rfl hs f7 r7 (fun _ _ _ h => h) hy7 hS ?_
  refine wpAnyH_take (i := 8) (oi := o8) rfl hs f8 r8 (fun _ _ _ h => h) hy8 hS ?_
  refine wpAnyH_take (i := 9) (oi := o9) rfl hs f9 r9 (fun _ _ _ h => h) hy9 hS ?_
  refine wpAnyH_take (i := 11) (oi := o11) rfl hs f11 r11 (fun _ _ _ h => h) hy10 hS ?_
  refine wpAnyH_take (i := 12) (oi := o12) rfl hs f12 r12 (fun _ _ _ h => h) hy11 hS ?_
  refine wpAnyH_ready (rs := [10]) r10 (by simp) (AllReadyH.cons (o := o10) rfl (fun K hK => ?_) AllReadyH.nil)
  have wa : ∀ y, Region.wanted o10 y = true := fun y => by unfold Region.wanted; rw [g1]
  rw [if_pos (wa _)]
  refine k1 K (fun u w1 h1 => hK.out _ _ (S1 u w1 h1) (fun _ => ?_))
  refine wpAnyH_ready (rs := [13]) r13 (by simp) (AllReadyH.cons (o := o13) rfl (fun K hK => ?_) AllReadyH.nil)
  have wb : ∀ y, Region.wanted o13 y = true := fun y => by unfold Region.wanted; rw [g2]
  rw [if_pos (wb _)]
  refine k2 u w1 h1 K (fun v w2 h2 => hK.out _ _ (S2 u w1 v w2 h1 h2) (fun _ => ?_))
  refine wpAnyH_take (i := 14) (oi := o14) rfl hs f14 r14 (fun _ _ _ h => h) (hyl u w1 v w2 h1 h2) (S2 u w1 v w2 h1 h2) ?_
  exact ⟨rr, NoPanic.normal (h u w1 v w2 h1 h2)⟩
theorem wp_ask11 {id : Nat} {o0 o1 o2 o3 o4 o5 o6 o7 o8 o9 o10 o11 o12 o13 : Oper} {a : Act} {w : World} (S : World → Prop) (hm : P.follows .mixedOrders = true) (hs : Region.noSelect #[o0, o1, o2, o3, o4, o5, o6, o7, o8, o9, o10, o11, o12, o13] = true)
    (f0 : Region.free .any #[o0, o1, o2, o3, o4, o5, o6, o7, o8, o9, o10, o11, o12, o13] #[false, false, false, false, false, false, false, false, false, false, false, false, false, false] 0 = true) (r0 : (Region.ready .any #[o0, o1, o2, o3, o4, o5, o6, o7, o8, o9, o10, o11, o12, o13] #[false, false, false, false, false, false, false, false, false, false, false, false, false, false]).contains 0 = true)
    (f1 : Region.free .any #[o0, o1, o2, o3, o4, o5, o6, o7, o8, o9, o10, o11, o12, o13] #[true, false, false, false, false, false, false, false, false, false, false, false, false, false] 1 = true) (r1 : (Region.ready .any #[o0, o1, o2, o3, o4, o5, o6, o7, o8, o9, o10, o11, o12, o13] #[true, false, false, false, false, false, false, false, false, false, false, false, false, false]).contains 1 = true)
    (f2 : Region.free .any #[o0, o1, o2, o3, o4, o5, o6, o7, o8, o9, o10, o11, o12, o13] #[true, true, false, false, false, false, false, false, false, false, false, false, false, false] 2 = true) (r2 : (Region.ready .any #[o0, o1, o2, o3, o4, o5, o6, o7, o8, o9, o10, o11, o12, o13] #[true, true, false, false, false, false, false, false, false, false, false, false, false, false]).contains 2 = true)
    (f3 : Region.free .any #[o0, o1, o2, o3, o4, o5, o6, o7, o8, o9, o10, o11, o12, o13] #[true, true, true, false, false, false, false, false, false, false, false, false, false, false] 3 = true) (r3 : (Region.ready .any #[o0, o1, o2, o3, o4, o5, o6, o7, o8, o9, o10, o11, o12, o13] #[true, true, true, false, false, false, false, false, false, false, false, false, false, false]).contains 3 = true)
    (f4 : Region.free .any #[o0, o1, o2, o3, o4, o5, o6, o7, o8, o9, o10, o11, o12, o13] #[true, true, true, true, false, false, false, false, false, false, false, false, false, false] 4 = true) (r4 : (Region.ready .any #[o0, o1, o2, o3, o4, o5, o6, o7, o8, o9, o10, o11, o12, o13] #[true, true, true, true, false, false, false, false, false, false, false, false, false, false]).contains 4 = true)
    (f5 : Region.free .any #[o0, o1, o2, o3, o4, o5, o6, o7, o8, o9, o10, o11, o12, o13] #[true, true, true, true, true, false, false, false, false, false, false, false, false, false] 5 = true) (r5 : (Region.ready .any #[o0, o1, o2, o3, o4, o5, o6, o7, o8, o9, o10, o11, o12, o13] #[true, true, true, true, true, false, false, false, false, false, false, false, false, false]).contains 5 = true)
    (f6 : Region.free .any #[o0, o1, o2, o3, o4, o5, o6, o7, o8, o9, o10, o11, o12, o13] #[true, true, true, true, true, true, false, false, false, false, false, false, false, false] 6 = true) (r6 : (Region.ready .any #[o0, o1, o2, o3, o4, o5, o6, o7, o8, o9, o10, o11, o12, o13] #[true, true, true, true, true, true, false, false, false, false, false, false, false, false]).contains 6 = true)
    (f7 : Region.free .any #[o0, o1, o2, o3, o4, o5, o6, o7, o8, o9, o10, o11, o12, o13] #[true, true, true, true, true, true, true, false, false, false, false, false, false, false] 7 = true) (r7 : (Region.ready .any #[o0, o1, o2, o3, o4, o5, o6, o7, o8, o9, o10, o11, o12, o13] #[true, true, true, true, true, true, true, false, false, false, false, false, false, false]).contains 7 = true)
    (f8 : Region.free .any #[o0, o1, o2, o3, o4, o5, o6, o7, o8, o9, o10, o11, o12, o13] #[true, true, true, true, true, true, true, true, false, false, false, false, false, false] 8 = true) (r8 : (Region.ready .any #[o0, o1, o2, o3, o4, o5, o6, o7, o8, o9, o10, o11, o12, o13] #[true, true, true, true, true, true, true, true, false, false, false, false, false, false]).contains 8 = true)
    (f9 : Region.free .any #[o0, o1, o2, o3, o4, o5, o6, o7, o8, o9, o10, o11, o12, o13] #[true, true, true, true, true, true, true, true, true, false, false, false, false, false] 9 = true) (r9 : (Region.ready .any #[o0, o1, o2, o3, o4, o5, o6, o7, o8, o9, o10, o11, o12, o13] #[true, true, true, true, true, true, true, true, true, false, false, false, false, false]).contains 9 = true)
    (f11 : Region.free .any #[o0, o1, o2, o3, o4, o5, o6, o7, o8, o9, o10, o11, o12, o13] #[true, true, true, true, true, true, true, true, true, true, false, false, false, false] 11 = true) (r11 : (Region.ready .any #[o0, o1, o2, o3, o4, o5, o6, o7, o8, o9, o10, o11, o12, o13] #[true, true, true, true, true, true, true, true, true, true, false, false, false, false]).contains 11 = true)
    (r10 : Region.ready .any #[o0, o1, o2, o3, o4, o5, o6, o7, o8, o9, o10, o11, o12, o13] #[true, true, true, true, true, true, true, true, true, true, false, true, false, false] = [10])
    (r12 : Region.ready .any #[o0, o1, o2, o3, o4, o5, o6, o7, o8, o9, o10, o11, o12, o13] #[true, true, true, true, true, true, true, true, true, true, true, true, false, false] = [12])
    (f13 : Region.free .any #[o0, o1, o2, o3, o4, o5, o6, o7, o8, o9, o10, o11, o12, o13] #[true, true, true, true, true, true, true, true, true, true, true, true, true, false] 13 = true) (r13 : (Region.ready .any #[o0, o1, o2, o3, o4, o5, o6, o7, o8, o9, o10, o11, o12, o13] #[true, true, true, true, true, true, true, true, true, true, true, true, true, false]).contains 13 = true)
    (rr : Region.ready .any #[o0, o1, o2, o3, o4, o5, o6, o7, o8, o9, o10, o11, o12, o13] #[true, true, true, true, true, true, true, true, true, true, true, true, true, true] = [])
    (g1 : o10.guard = none) (g2 : o12.guard = none) (hS : S w.drew) (v0 v1 v2 v3 v4 v5 v6 v7 v8 v9 v10 : Value) (A0 A1 A2 A3 A4 A5 A6 A7 A8 A9 A10 : Act)
    (p0 : a.put o0.dst v0 = A0) (p1 : A0.put o1.dst v1 = A1) (p2 : A1.put o2.dst v2 = A2) (p3 : A2.put o3.dst v3 = A3) (p4 : A3.put o4.dst v4 = A4) (p5 : A4.put o5.dst v5 = A5) (p6 : A5.put o6.dst v6 = A6) (p7 : A6.put o7.dst v7 = A7) (p8 : A7.put o8.dst v8 = A8) (p9 : A8.put o9.dst v9 = A9) (p10 : A9.put o11.dst v10 = A10) 
    (hy0 : YieldsIf P #[o0, o1, o2, o3, o4, o5, o6, o7, o8, o9, o10, o11, o12, o13] S o0 v0 a) (hy1 : YieldsIf P #[o0, o1, o2, o3, o4, o5, o6, o7, o8, o9, o10, o11, o12, o13] S o1 v1 A0) (hy2 : YieldsIf P #[o0, o1, o2, o3, o4, o5, o6, o7, o8, o9, o10, o11, o12, o13] S o2 v2 A1) (hy3 : YieldsIf P #[o0, o1, o2, o3, o4, o5, o6, o7, o8, o9, o10, o11, o12, o13] S o3 v3 A2) (hy4 : YieldsIf P #[o0, o1, o2, o3, o4, o5, o6, o7, o8, o9, o10, o11, o12, o13] S o4 v4 A3) (hy5 : YieldsIf P #[o0, o1, o2, o3, o4, o5, o6, o7, o8, o9, o10, o11, o12, o13] S o5 v5 A4) (hy6 : YieldsIf P #[o0, o1, o2, o3, o4, o5, o6, o7, o8, o9, o10, o11, o12, o13] S o6 v6 A5) (hy7 : YieldsIf P #[o0, o1, o2, o3, o4, o5, o6, o7, o8, o9, o10, o11, o12, o13] S o7 v7 A6) (hy8 : YieldsIf P #[o0, o1, o2, o3, o4, o5, o6, o7, o8, o9, o10, o11, o12, o13] S o8 v8 A7) (hy9 : YieldsIf P #[o0, o1, o2, o3, o4, o5, o6, o7, o8, o9, o10, o11, o12, o13] S o9 v9 A8) (hy10 : YieldsIf P #[o0, o1, o2, o3, o4, o5, o6, o7, o8, o9, o10, o11, o12, o13] S o11 v10 A9) 
    (R1 : Value → World → Prop) (k1 : ∀ K : Act → World → Prop, (∀ u w1, R1 u w1 → K (A10.put o10.dst u) w1) → o10.wp P A10 w.drew K (NoPanic Q)) (S1 : ∀ u w1, R1 u w1 → S w1)
    (R2 : Value → World → Value → World → Prop) (k2 : ∀ u w1, R1 u w1 → ∀ K : Act → World → Prop, (∀ v w2, R2 u w1 v w2 → K ((A10.put o10.dst u).put o12.dst v) w2) → o12.wp P (A10.put o10.dst u) w1 K (NoPanic Q)) (S2 : ∀ u w1 v w2, R1 u w1 → R2 u w1 v w2 → S w2)
    (hyl : ∀ u w1 v w2, R1 u w1 → R2 u w1 v w2 → YieldsIf P #[o0, o1, o2, o3, o4, o5, o6, o7, o8, o9, o10, o11, o12, o13] S o13 v ((A10.put o10.dst u).put o12.dst v))
    (h : ∀ u w1 v w2, R1 u w1 → R2 u w1 v w2 → Q .normal (((A10.put o10.dst u).put o12.dst v).put o13.dst v) w2) :
    (Code.region id #[o0, o1, o2, o3, o4, o5, o6, o7, o8, o9, o10, o11, o12, o13] true).wp P Q a w := by
  subst p0 p1 p2 p3 p4 p5 p6 p7 p8 p9 p10
  refine wp_region_noPanic ?_
  refine wp_region_held_drew (S := S) hm hS (fun hH => ?_)
  show wpAnyH P .any #[o0, o1, o2, o3, o4, o5, o6, o7, o8, o9, o10, o11, o12, o13] (NoPanic Q) S 14 #[false, false, false, false, false, false, false, false, false, false, false, false, false, false] a w.drew
  refine wpAnyH_take (i := 0) (oi := o0) rfl hs f0 r0 (fun _ _ _ h => h) hy0 hS ?_
  refine wpAnyH_take (i := 1) (oi := o1) rfl hs f1 r1 (fun _ _ _ h => h) hy1 hS ?_
  refine wpAnyH_take (i := 2) (oi := o2) rfl hs f2 r2 (fun _ _ _ h => h) hy2 hS ?_
  refine wpAnyH_take (i := 3) (oi := o3) rfl hs f3 r3 (fun _ _ _ h => h) hy3 hS ?_
  refine wpAnyH_take (i := 4) (oi := o4) rfl hs f4 r4 (fun _ _ _ h => h) hy4 hS ?_
  refine wpAnyH_take (i := 5) (oi := o5) rfl hs f5 r5 (fun _ _ _ h => h) hy5 hS ?_
  refine wpAnyH_take (i := 6) (oi := o6) rfl hs f6 r6 (fun _ _ _ h => h) hy6 hS ?_
  refine wpAnyH_take (i := 7) (oi := o7) rfl hs f7 r7 (fun _ _ _ h => h) hy7 hS ?_
  refine wpAnyH_take (i := 8) (oi := o8) rfl hs f8 r8 (fun _ _ _ h => h) hy8 hS ?_
  refine wpAnyH_take (i := 9) (oi := o9) rfl hs f9 r9 (fun _ _ _ h => h) hy9 hS ?_
  refine wpAnyH_take (i := 11) (oi := o11) rfl hs f11 r11 (fun _ _ _ h => h) hy10 hS ?_
  refine wpAnyH_ready (rs := [10]) r10 (by simp) (AllReadyH.cons (o := o10) rfl (fun K hK => ?_) AllReadyH.nil)
  have wa : ∀ y, Region.wanted o10 y = true := fun y => by unfold Region.wanted; rw [g1]
  rw [if_pos (wa _)]
  refine k1 K (fun u w1 h1 => hK.out _ _ (S1 u w1 h1) (fun _ => ?_))
  refine wpAnyH_ready (rs := [12]) r12 (by simp) (AllReadyH.cons (o := o12) rfl (fun K hK => ?_) AllReadyH.nil)
  have wb : ∀ y, Region.wanted o12 y = true := fun y => by unfold Region.wanted; rw [g2]
  rw [if_pos (wb _)]
  refine k2 u w1 h1 K (fun v w2 h2 => hK.out _ _ (S2 u w1 v w2 h1 h2) (fun _ => ?_))
  refine wpAnyH_take (i := 13) (oi := o13) rfl hs f13 r13 (fun _ _ _ h => h) (hyl u w1 v w2 h1 h2) (S2 u w1 v w2 h1 h2) ?_
  exact ⟨rr, NoPanic.normal (h u w1 v w2 h1 h2)⟩
end

theorem wp_twinD {o : Oper} {a : Act} {w : World} {K : Act → World → Prop} {Q : Exit → Act → World → Prop} (x : Operand) (ts : Array TypeId) (ho : o.op = .call { callee := .value (.func 10), args := #[x], argTypes := ts }) (v : Value) (ds : List (List Nat)) (hx : a.eval x = v) (hv : RdD w v ds) (hl : ds.length ≤ 1048576)
    (h : ∀ u w1, RdD w1 u ds ∧ Kept [] w w1 → K (a.put o.dst u) w1) : o.wp Tryd.prog a w K Q := by
  unfold Oper.wp execOp
  simp only [ho]
  have hf : a.eval (.func 10) = .func (.func 10) #[] #[] := rfl
  have hcl : ∀ args W, (callFunc 10 args).run Tryd.prog W = .ok (.enter 10 args) W := fun args W => Tryd.call10 args W
  simp only [resolve, invoke, hf, hx, Sem.run_bind, Sem.run_pure, Result.andThen_ok, List.map_toArray, List.map_cons, List.map_nil, hcl]
  simp [Deferred.ofValue, hcl, go_sem]
  refine (twinD_any v ds w hv hl).mono ?_
  rintro e w2 ⟨u, rfl, d2, k2, _⟩
  exact h u w2 ⟨d2, k2⟩

theorem wp_incl {o : Oper} {a : Act} {w : World} {K : Act → World → Prop} {Q : Exit → Act → World → Prop} (x0 x1 x2 x3 x4 x5 : Operand) (ts : Array TypeId) (ho : o.op = .call { callee := .value (.func 13), args := #[x0, x1, x2, x3, x4, x5], argTypes := ts }) (z : Int) (l : List Nat) (i n : Nat) (u : Value) (p : List (List Nat)) (r : List Nat)
    (e0 : a.eval x0 = .int .i64 z) (e1 : a.eval x1 = .agg (l.map u8).toArray) (e2 : a.eval x2 = .int .u64 (i : Int)) (e3 : a.eval x3 = .int .u64 (n : Int)) (e4 : a.eval x4 = u) (e5 : a.eval x5 = .agg (r.map u8).toArray)
    (hz : -9223372036854775808 ≤ z ∧ z ≤ 9223372036854775807) (hl : Dg l) (hr : Dg r) (hi : i < 18446744073709551616) (hn : n < 18446744073709551616) (hp : RdD w u p) (hT : Tabs w)
    (h : ∀ v w1, v = .int .i64 (incE z l i n p r) ∧ Kept [] w w1 → K (a.put o.dst v) w1) : o.wp Tryd.prog a w K Q := by
  unfold Oper.wp execOp
  simp only [ho]
  have hf : a.eval (.func 13) = .func (.func 13) #[] #[] := rfl
  have hcl : ∀ args W, (callFunc 13 args).run Tryd.prog W = .ok (.enter 13 args) W := fun args W => Tryd.call13 args W
  simp only [resolve, invoke, hf, e0, e1, e2, e3, e4, e5, Sem.run_bind, Sem.run_pure, Result.andThen_ok, List.map_toArray, List.map_cons, List.map_nil, hcl]
  simp [Deferred.ofValue, hcl, go_sem]
  refine (inclusion_any z l i n u p r w hz hl hr hi hn hp hT).mono ?_
  rintro e w2 ⟨rfl, k2⟩
  exact h _ w2 ⟨rfl, k2⟩
end Go.Proofs.YthafpaenggcpdaaDoor
namespace Go.Proofs.YthafpaenggcpdaaDoor
open Go.RowKit Go.BigFrame
set_option linter.unusedVariables false
set_option linter.unusedSimpArgs false

set_option maxRecDepth 100000 in
set_option maxHeartbeats 2000000 in
theorem mcheckInclusions_walk (q : AskD) (pv : Value) (w : World) (hq : OkA w q pv) (hT : Tabs w) :
    Calls Tryd.prog 4 #[.agg (askC q pv).toArray] w fun e w' => e = .returned (.bool true) ∧ Below w.heap.size w w' := by
  have HT := hide hT
  have HQ := hide hq
  have hll := hq.l.1
  have hrl := hq.r.1
  obtain ⟨ao, len, cap, rfl, h1, h2, h3, h4, h5⟩ := id hq.p
  clear hT h4 h5 hq
  have HG := hide (heap_alloc_new w (.cells (askC q (.slice ao len cap)).toArray 27))
  have HK0 := hide ((Kept.refl [] w).alloc (.cells (askC q (.slice ao len cap)).toArray 27))
  have HSL := hide (by rw [List.length_map, hll]; exact Tryd.size_dig : (Tryd.prog.info? 23).map (·.size) = some (q.l.map u8).length)
  have HSR := hide (by rw [List.length_map, hrl]; exact Tryd.size_dig : (Tryd.prog.info? 23).map (·.size) = some (q.r.map u8).length)
  go_enter Tryd.func4, Tryd.ntmps4
  go_wp2_with fail
  obtain ⟨W, hW⟩ : ∃ W, w.alloc (.cells (askC q (.slice ao len cap)).toArray 27) = W := ⟨_, rfl⟩
  rw [hW] at HG HK0 ⊢
  clear hW
  obtain ⟨c0, r1, ⟨c33, c34, c35⟩, r36⟩ := ask_cells (unhide HG) hll
  have HTW := hide ((unhide HT).k (unhide HK0))
  have HQW := hide ((unhide HQ).old (unhide HK0))
  have HSK := hide (fun w1 (k : Kept [] W w1) => ⟨k, range_kept r1 k (by simp), range_kept r36 k (by simp), k.cell c0 (by simp), k.cell c33 (by simp), k.cell c34 (by simp), k.cell c35 (by simp)⟩ : ∀ w1, Kept [] W w1 → Kept [] W w1 ∧ w1.rangeAt w.heap.size 1 (q.l.map u8) ∧ w1.rangeAt w.heap.size 36 (q.r.map u8) ∧ w1.cell? ⟨w.heap.size, 0, none⟩ = some (.int .i64 q.z) ∧ w1.cell? ⟨w.heap.size, 33, none⟩ = some (.int .u64 (q.i : Int)) ∧ w1.cell? ⟨w.heap.size, 34, none⟩ = some (.int .u64 (q.n : Int)) ∧ w1.cell? ⟨w.heap.size, 35, none⟩ = some (.slice ao len cap))
  clear r1 r36 c0 c33 c34 c35
  refine wp_ask12 (fun w' => Kept [] W w' ∧ w'.rangeAt w.heap.size 1 (q.l.map u8) ∧ w'.rangeAt w.heap.size 36 (q.r.map u8) ∧ w'.cell? ⟨w.heap.size, 0, none⟩ = some (.int .i64 q.z) ∧ w'.cell? ⟨w.heap.size, 33, none⟩ = some (.int .u64 (q.i : Int)) ∧ w'.cell? ⟨w.heap.size, 34, none⟩ = some (.int .u64 (q.n : Int)) ∧ w'.cell? ⟨w.heap.size, 35, none⟩ = some (.slice ao len cap)) (by kernel_rfl) (by kernel_rfl) (by kernel_rfl) (by kernel_rfl) (by kernel_rfl) (by kernel_rfl) (by kernel_rfl) (by kernel_rfl) (by kernel_rfl) (by kernel_rfl) (by kernel_rfl) (by kernel_rfl) (by kernel_rfl) (by kernel_rfl) (by kernel_rfl) (by kernel_rfl) (by kernel_rfl) (by kernel_rfl) (by kernel_rfl) (by kernel_rfl) (by kernel_rfl) (by kernel_rfl) (by kernel_rfl) (by kernel_rfl) (by kernel_rfl) (by kernel_rfl) (by kernel_rfl) (by kernel_rfl) (by kernel_rfl) (by kernel_rfl) (by kernel_rfl) rfl rfl
    (unhide HSK _ (Kept.refl [] W).drew) (.pointer (some ⟨w.heap.size, 0, none⟩)) (.int .i64 q.z) (.pointer (some ⟨w.heap.size, 1, none⟩)) (.agg (q.l.map u8).toArray) (.pointer (some ⟨w.heap.size, 33, none⟩)) (.int .u64 (q.i : Int)) (.pointer (some ⟨w.heap.size, 34, none⟩)) (.int .u64 (q.n : Int)) (.pointer (some ⟨w.heap.size, 35, none⟩)) (.slice ao len cap) (.pointer (some ⟨w.heap.size, 36, none⟩)) (.agg (q.r.map u8).toArray)
    _ _ _ _ _ _ _ _ _ _ _ _ (by simp only [Act.put, List.setIfInBounds_toArray, List.set_cons_zero, List.set_cons_succ]; rfl) (by simp only [Act.put, List.setIfInBounds_toArray, List.set_cons_zero, List.set_cons_succ]; rfl) (by simp only [Act.put, List.setIfInBounds_toArray, List.set_cons_zero, List.set_cons_succ]; rfl) (by simp only [Act.put, List.setIfInBounds_toArray, List.set_cons_zero, List.set_cons_succ]; rfl) (by simp only [Act.put, List.setIfInBounds_toArray, List.set_cons_zero, List.set_cons_succ]; rfl) (by simp only [Act.put, List.setIfInBounds_toArray, List.set_cons_zero, List.set_cons_succ]; rfl) (by simp only [Act.put, List.setIfInBounds_toArray, List.set_cons_zero, List.set_cons_succ]; rfl) (by simp only [Act.put, List.setIfInBounds_toArray, List.set_cons_zero, List.set_cons_succ]; rfl) (by simp only [Act.put, List.setIfInBounds_toArray, List.set_cons_zero, List.set_cons_succ]; rfl) (by simp only [Act.put, List.setIfInBounds_toArray, List.set_cons_zero, List.set_cons_succ]; rfl) (by simp only [Act.put, List.setIfInBounds_toArray, List.set_cons_zero, List.set_cons_succ]; rfl) (by simp only [Act.put, List.setIfInBounds_toArray, List.set_cons_zero, List.set_cons_succ]; rfl)
    (by exact Or.inl ⟨by rfl, fun W' hW' => by go_simp⟩)
    (by exact Or.inl ⟨by rfl, fun W' hW' => by have h9 := hW'.2.2.2.1; go_simp⟩)
    (by exact Or.inl ⟨by rfl, fun W' hW' => by go_simp⟩)
    (by exact yieldsIf_load_mid (by rfl) _ _ rfl w.heap.size 1 rfl (q.l.map u8) _ (fun W' hW' => hW'.2.1) Tryd.underlying23 rfl (unhide HSL))
    (by exact Or.inl ⟨by rfl, fun W' hW' => by go_simp⟩)
    (by exact Or.inl ⟨by rfl, fun W' hW' => by have h9 := hW'.2.2.2.2.1; go_simp⟩)
    (by exact Or.inl ⟨by rfl, fun W' hW' => by go_simp⟩)
    (by exact Or.inl ⟨by rfl, fun W' hW' => by have h9 := hW'.2.2.2.2.2.1; go_simp⟩)
    (by exact Or.inl ⟨by rfl, fun W' hW' => by go_simp⟩)
    (by exact Or.inl ⟨by rfl, fun W' hW' => by have h9 := hW'.2.2.2.2.2.2; go_simp⟩)
    (by exact Or.inl ⟨by rfl, fun W' hW' => by go_simp⟩)
    (by exact yieldsIf_load_mid (by rfl) _ _ rfl w.heap.size 36 rfl (q.r.map u8) _ (fun W' hW' => hW'.2.2.1) Tryd.underlying23 rfl (unhide HSR))
    (fun u w1 => RdD w1 u q.p ∧ Kept [] W w1) (by intro K hK; exact wp_twinD (.tmp 18) _ rfl (.slice ao len cap) q.p rfl ((unhide HQW).p.old (Kept.refl [] W).drew) (unhide HQ).pl (fun u w1 h => hK u w1 ⟨h.1, (Kept.refl [] W).drew.trans h.2 (by simp)⟩)) (fun u w1 h => unhide HSK w1 h.2)
    (fun u w1 v w2 => v = .int .i64 (incE q.z q.l q.i q.n q.p q.r) ∧ Kept [] W w2) (by intro u w1 h1 K hK; exact wp_incl (.tmp 10) (.tmp 12) (.tmp 14) (.tmp 16) (.tmp 19) (.tmp 21) _ rfl q.z q.l q.i q.n u q.p q.r rfl rfl rfl rfl rfl rfl (unhide HQ).z (unhide HQ).l (unhide HQ).r (unhide HQ).i (unhide HQ).n h1.1 ((unhide HTW).k h1.2) (fun v w2 h => hK v w2 ⟨h.1, h1.2.trans h.2 (by simp)⟩)) (fun u w1 v w2 h1 h2 => unhide HSK w2 h2.2)
    (by intro u w1 v w2 h1 h2; exact Or.inl ⟨by rfl, fun W' hW' => by go_simp⟩) ?_
  rintro u3 w3 v4 w4 ⟨_, _⟩ ⟨rfl, k4⟩
  simp only [Act.put, List.setIfInBounds_toArray, List.set_cons_zero, List.set_cons_succ]
  have HG4 := hide (k4.heap (unhide HG) (by simp))
  have HK4 := hide ((unhide HK0).trans k4 (by simp))
  have HQ4 := hide ((unhide HQ).old (unhide HK4))
  clear k4
  obtain ⟨c0, r1, ⟨c33, c34, c35⟩, r36⟩ := ask_cells (unhide HG4) hll
  have HR1 := hide r1
  have HR36 := hide r36
  clear r1 r36
  rw [dinc_eq]
  go_wp2_with (first
    | (refine wpList_load_mid rfl 23 _ rfl w.heap.size 1 rfl (q.l.map u8) _ (unhide HR1) Tryd.underlying23 rfl (unhide HSL) ?_)
    | (refine wpList_load_mid rfl 23 _ rfl w.heap.size 36 rfl (q.r.map u8) _ (unhide HR36) Tryd.underlying23 rfl (unhide HSR) ?_))
  refine Calls.mono (docInclusion_any q.z q.l q.i q.n _ q.p q.r _ (unhide HQ).z (unhide HQ).l (unhide HQ).r (unhide HQ).i (unhide HQ).n (unhide HQ4).p (unhide HQ).pl) ?_
  rintro e w6 ⟨rfl, k6⟩
  have HG6 := hide (k6.heap (unhide HG4) (by simp))
  have HK6 := hide ((unhide HK4).trans k6 (by simp))
  have HQ6 := hide ((unhide HQ).old (unhide HK6))
  clear k6 c0 c33 c34 c35 HR1 HR36 HG4
  obtain ⟨E1, hE1⟩ : ∃ E1, dincE q.z q.l q.i q.n q.p q.r = E1 := ⟨_, rfl⟩
  rw [hE1]
  clear hE1
  obtain ⟨c0, r1, ⟨c33, c34, c35⟩, r36⟩ := ask_cells (unhide HG6) hll
  have HR1 := hide r1
  clear r1 r36
  go_wp2_with (refine wpList_load_mid rfl 23 _ rfl w.heap.size 1 rfl (q.l.map u8) _ (unhide HR1) Tryd.underlying23 rfl (unhide HSL) ?_)
  refine Calls.mono (docRootOf_any q.z q.l q.i q.n _ q.p _ (unhide HQ).z (unhide HQ).l (unhide HQ).i (unhide HQ).n (unhide HQ6).p (unhide HQ).pl) ?_
  rintro e w8 ⟨rfl, k8⟩
  have HDG := hide (rootD_dg (z := q.z) (i := q.i) (n := q.n) (p := q.p) (unhide HQ).l)
  obtain ⟨D, hD⟩ : ∃ D, rootD q.z q.l q.i q.n q.p = D := ⟨_, rfl⟩
  rw [hD] at HDG ⊢
  clear hD
  have hdl := (unhide HDG).1
  have HSD := hide (by rw [List.length_map, hdl]; exact Tryd.size_dig : (Tryd.prog.info? 23).map (·.size) = some (D.map u8).length)
  have kN := ((Kept.refl [] w8).alloc (.cells (zb 32) 23)).setRow (g := w8.heap.size) (Or.inr (Nat.le_refl _)) (brow D)
  have HN9 := hide (setRow_heap (w8.alloc (.cells (zb 32) 23)) w8.heap.size (zb 32) (brow D) 23 (0, 0) (heap_alloc_new _ _))
  have kk := k8.trans kN (by simp)
  have HG9 := hide (kk.heap (unhide HG6) (by simp))
  have HK9 := hide ((unhide HK6).trans kk (by simp))
  have HQ9 := hide ((unhide HQ).old (unhide HK9))
  clear k8 kN kk c0 c33 c34 c35 HR1 HG6
  go_wp2_with (rw [zb32]; refine wpList_store_row rfl 23 _ _ rfl w8.heap.size (brow D) rfl rfl _ (zb 32) (heap_alloc_new _ _) (by rw [brow_size, hdl]; exact Tryd.size_dig) (by rw [zb_size, brow_size, hdl]) (brow_one _) ?_)
  obtain ⟨Y, hY⟩ : ∃ Y, (w8.alloc (.cells (zb 32) 23)).setRow w8.heap.size (brow D) = Y := ⟨_, rfl⟩
  rw [hY] at HN9 HG9 HK9 HQ9 ⊢
  clear hY
  obtain ⟨c0, r1, ⟨c33, c34, c35⟩, r36⟩ := ask_cells (unhide HG9) hll
  have rD := range_row (unhide HN9)
  have HTY := hide ((unhide HT).k (unhide HK9))
  have HSY := hide (fun w1 (k : Kept [] Y w1) => ⟨k, range_kept r1 k (by simp), range_kept rD k (by simp), k.cell c0 (by simp), k.cell c33 (by simp), k.cell c34 (by simp), k.cell c35 (by simp)⟩ : ∀ w1, Kept [] Y w1 → Kept [] Y w1 ∧ w1.rangeAt w.heap.size 1 (q.l.map u8) ∧ w1.rangeAt w8.heap.size 0 (D.map u8) ∧ w1.cell? ⟨w.heap.size, 0, none⟩ = some (.int .i64 q.z) ∧ w1.cell? ⟨w.heap.size, 33, none⟩ = some (.int .u64 (q.i : Int)) ∧ w1.cell? ⟨w.heap.size, 34, none⟩ = some (.int .u64 (q.n : Int)) ∧ w1.cell? ⟨w.heap.size, 35, none⟩ = some (.slice ao len cap))
  clear r1 r36 c0 c33 c34 c35 rD HSK
  refine wp_ask11 (fun w' => Kept [] Y w' ∧ w'.rangeAt w.heap.size 1 (q.l.map u8) ∧ w'.rangeAt w8.heap.size 0 (D.map u8) ∧ w'.cell? ⟨w.heap.size, 0, none⟩ = some (.int .i64 q.z) ∧ w'.cell? ⟨w.heap.size, 33, none⟩ = some (.int .u64 (q.i : Int)) ∧ w'.cell? ⟨w.heap.size, 34, none⟩ = some (.int .u64 (q.n : Int)) ∧ w'.cell? ⟨w.heap.size, 35, none⟩ = some (.slice ao len cap)) (by kernel_rfl) (by kernel_rfl) (by kernel_rfl) (by kernel_rfl) (by kernel_rfl) (by kernel_rfl) (by kernel_rfl) (by kernel_rfl) (by kernel_rfl) (by kernel_rfl) (by kernel_rfl) (by kernel_rfl) (by kernel_rfl) (by kernel_rfl) (by kernel_rfl) (by kernel_rfl) (by kernel_rfl) (by kernel_rfl) (by kernel_rfl) (by kernel_rfl) (by kernel_rfl) (by kernel_rfl) (by kernel_rfl) (by kernel_rfl) (by kernel_rfl) (by kernel_rfl) (by kernel_rfl) (by kernel_rfl) (by kernel_rfl) rfl rfl
    (unhide HSY _ (Kept.refl [] Y).drew) (.pointer (some ⟨w.heap.size, 0, none⟩)) (.int .i64 q.z) (.pointer (some ⟨w.heap.size, 1, none⟩)) (.agg (q.l.map u8).toArray) (.pointer (some ⟨w.heap.size, 33, none⟩)) (.int .u64 (q.i : Int)) (.pointer (some ⟨w.heap.size, 34, none⟩)) (.int .u64 (q.n : Int)) (.pointer (some ⟨w.heap.size, 35, none⟩)) (.slice ao len cap) (.agg (D.map u8).toArray)
    _ _ _ _ _ _ _ _ _ _ _ (by simp only [Act.put, List.setIfInBounds_toArray, List.set_cons_zero, List.set_cons_succ]; rfl) (by simp only [Act.put, List.setIfInBounds_toArray, List.set_cons_zero, List.set_cons_succ]; rfl) (by simp only [Act.put, List.setIfInBounds_toArray, List.set_cons_zero, List.set_cons_succ]; rfl) (by simp only [Act.put, List.setIfInBounds_toArray, List.set_cons_zero, List.set_cons_succ]; rfl) (by simp only [Act.put, List.setIfInBounds_toArray, List.set_cons_zero, List.set_cons_succ]; rfl) (by simp only [Act.put, List.setIfInBounds_toArray, List.set_cons_zero, List.set_cons_succ]; rfl) (by simp only [Act.put, List.setIfInBounds_toArray, List.set_cons_zero, List.set_cons_succ]; rfl) (by simp only [Act.put, List.setIfInBounds_toArray, List.set_cons_zero, List.set_cons_succ]; rfl) (by simp only [Act.put, List.setIfInBounds_toArray, List.set_cons_zero, List.set_cons_succ]; rfl) (by simp only [Act.put, List.setIfInBounds_toArray, List.set_cons_zero, List.set_cons_succ]; rfl) (by simp only [Act.put, List.setIfInBounds_toArray, List.set_cons_zero, List.set_cons_succ]; rfl)
    (by exact Or.inl ⟨by rfl, fun W' hW' => by go_simp⟩)
    (by exact Or.inl ⟨by rfl, fun W' hW' => by have h9 := hW'.2.2.2.1; go_simp⟩)
    (by exact Or.inl ⟨by rfl, fun W' hW' => by go_simp⟩)
    (by exact yieldsIf_load_mid (by rfl) _ _ rfl w.heap.size 1 rfl (q.l.map u8) _ (fun W' hW' => hW'.2.1) Tryd.underlying23 rfl (unhide HSL))
    (by exact Or.inl ⟨by rfl, fun W' hW' => by go_simp⟩)
    (by exact Or.inl ⟨by rfl, fun W' hW' => by have h9 := hW'.2.2.2.2.1; go_simp⟩)
    (by exact Or.inl ⟨by rfl, fun W' hW' => by go_simp⟩)
    (by exact Or.inl ⟨by rfl, fun W' hW' => by have h9 := hW'.2.2.2.2.2.1; go_simp⟩)
    (by exact Or.inl ⟨by rfl, fun W' hW' => by go_simp⟩)
    (by exact Or.inl ⟨by rfl, fun W' hW' => by have h9 := hW'.2.2.2.2.2.2; go_simp⟩)
    (by exact yieldsIf_load_mid (by rfl) _ _ rfl w8.heap.size 0 rfl (D.map u8) _ (fun W' hW' => hW'.2.2.1) Tryd.underlying23 rfl (unhide HSD))
    (fun u w1 => RdD w1 u q.p ∧ Kept [] Y w1) (by intro K hK; exact wp_twinD (.tmp 59) _ rfl (.slice ao len cap) q.p rfl ((unhide HQ9).p.old (Kept.refl [] Y).drew) (unhide HQ).pl (fun u w1 h => hK u w1 ⟨h.1, (Kept.refl [] Y).drew.trans h.2 (by simp)⟩)) (fun u w1 h => unhide HSY w1 h.2)
    (fun u w1 v w2 => v = .int .i64 (incE q.z q.l q.i q.n q.p D) ∧ Kept [] Y w2) (by intro u w1 h1 K hK; exact wp_incl (.tmp 51) (.tmp 53) (.tmp 55) (.tmp 57) (.tmp 60) (.tmp 61) _ rfl q.z q.l q.i q.n u q.p D rfl rfl rfl rfl rfl rfl (unhide HQ).z (unhide HQ).l (unhide HDG) (unhide HQ).i (unhide HQ).n h1.1 ((unhide HTY).k h1.2) (fun v w2 h => hK v w2 ⟨h.1, h1.2.trans h.2 (by simp)⟩)) (fun u w1 v w2 h1 h2 => unhide HSY w2 h2.2)
    (by intro u w1 v w2 h1 h2; exact Or.inl ⟨by rfl, fun W' hW' => by go_simp⟩) ?_
  rintro u10 w10 v11 w11 ⟨_, _⟩ ⟨rfl, k11⟩
  simp only [Act.put, List.setIfInBounds_toArray, List.set_cons_zero, List.set_cons_succ]
  have HG11 := hide (k11.heap (unhide HG9) (by simp))
  have HN11 := hide (range_row (k11.heap (unhide HN9) (by simp)))
  have HK11 := hide ((unhide HK9).trans k11 (by simp))
  have HQ11 := hide ((unhide HQ).old (unhide HK11))
  clear k11
  obtain ⟨c0, r1, ⟨c33, c34, c35⟩, r36⟩ := ask_cells (unhide HG11) hll
  have HR1 := hide r1
  clear r1 r36
  rw [dinc_eq]
  go_wp2_with (first
    | (refine wpList_load_mid rfl 23 _ rfl w.heap.size 1 rfl (q.l.map u8) _ (unhide HR1) Tryd.underlying23 rfl (unhide HSL) ?_)
    | (refine wpList_load_mid rfl 23 _ rfl w8.heap.size 0 rfl (D.map u8) _ (unhide HN11) Tryd.underlying23 rfl (unhide HSD) ?_))
  refine Calls.mono (docInclusion_any q.z q.l q.i q.n _ q.p D _ (unhide HQ).z (unhide HQ).l (unhide HDG) (unhide HQ).i (unhide HQ).n (unhide HQ11).p (unhide HQ).pl) ?_
  rintro e w13 ⟨rfl, k13⟩
  have HK13 := hide ((unhide HK11).trans k13 (by simp))
  clear k13 c0 c33 c34 c35
  obtain ⟨E2, hE2⟩ : ∃ E2, dincE q.z q.l q.i q.n q.p D = E2 := ⟨_, rfl⟩
  rw [hE2]
  clear hE2
  go_wp2_with fail
  refine Calls.mono (mawake_any _ ((unhide HT).k (unhide HK13))) ?_
  rintro e w14 ⟨rfl, k14⟩
  have HK14 := hide ((unhide HK13).trans k14 (by simp))
  clear k14
  go_wp2
  go_ret
  exact ⟨rfl, (unhide HK14).below (Nat.le_refl _) (by simp)⟩
end Go.Proofs.YthafpaenggcpdaaDoor
namespace Go.Proofs.YthafpaenggcpdaaDoor
open Go.ChangeShapes Go.WideShapes Go.ChangeAt Go.RowKit Go.Deep
set_option linter.unusedVariables false
set_option linter.unusedSimpArgs false

theorem own : ownKnob Tryd.prog.godebug = none := by kernel_rfl
theorem laidOut : laidOutB Tryd.prog = true := by kernel_rfl
theorem byte_of_wf {x : Int} (h : (Lit.int .u8 x).wf = true) : 0 ≤ x ∧ x < 256 := by
  simp [Lit.wf, IntKind.min, IntKind.max, IntKind.signed, IntKind.bits] at h
  exact ⟨by omega, by omega⟩
theorem int_of_wf {x : Int} (h : (Lit.int .i64 x).wf = true) : -9223372036854775808 ≤ x ∧ x ≤ 9223372036854775807 := by
  simp [Lit.wf, IntKind.min, IntKind.max, IntKind.signed, IntKind.bits] at h
  exact ⟨by omega, by omega⟩

theorem bulk_one {H : Type} (d : DataW H) : 1 ≤ Rows.uptoBulk d := by
  cases d with
  | lit l => cases l <;> simp [Rows.uptoBulk]
  | nil => simp [Rows.uptoBulk]
  | ptr d => simp [Rows.uptoBulk]
  | slice elems spare => simp [Rows.uptoBulk]
  | agg parts => simp [Rows.uptoBulk]
  | iface t d => simp [Rows.uptoBulk]
  | map entries => simp [Rows.uptoBulk]
  | held h => simp [Rows.uptoBulk]
theorem bulk_len {H : Type} (l : List (DataW H)) : l.length ≤ Rows.uptoBulkAll l := by
  induction l with
  | nil => simp [Rows.uptoBulkAll]
  | cons x r ih => have := bulk_one x; simp only [Rows.uptoBulkAll, List.length_cons]; omega
theorem Tryd.bytes5 : Tryd.prog.bytesOf 5 = 1 := by kernel_rfl

section
variable {H : Type} {enc : TypeId × Value → H} {W : World}

/-- Bytes that came in, as the walks want them, of whatever length. -/
theorem open_bytes {fuel : Nat} {cs : List Value} {x : DataW H × List MemPlace} (h : DataW.trod enc Tryd.prog W 0 (fun _ => true) true fuel 103 cs = some x) :
    ∃ v bs, cs = [v] ∧ (bs.length ≤ 140737488355328 → Rd W v bs) ∧ ((bs = [] ∧ x.1 = .nil) ∨ ∃ elems spare, x.1 = .slice elems spare ∧ elems.length = bs.length) := by
  rcases open_ints Tryd.underlying103 Tryd.underlying5 (by kernel_rfl) h with ⟨rfl, rfl⟩ | ⟨a, len, cap, zs, rfl, _, hl, hm, hz, rfl, hcell, hwz⟩
  · exact ⟨_, [], rfl, fun _ => Rd.nil W, .inl ⟨rfl, rfl⟩⟩
  · have h2 : (lits (H := H) .u8 (zs.take len)).length = len := by simp only [lits, List.length_map, List.length_take]; simp at hz; omega
    have hbl : ((zs.take len).map Int.toNat).length = len := by simp at hz; simp; omega
    refine ⟨_, (zs.take len).map Int.toNat, rfl, fun hB => ⟨_, _, _, rfl, hbl, hl, ⟨by unfold maxLen at hm; omega, by omega⟩, by simp, ?_, ?_⟩, .inr ⟨_, _, rfl, by rw [h2, hbl]⟩⟩
    · intro y hy
      obtain ⟨z, hz1, rfl⟩ := List.mem_map.1 hy
      have := byte_of_wf (hwz z (List.mem_of_mem_take hz1)); omega
    · intro hp
      simp at hz
      have hc0 := hcell 0 (by omega)
      obtain ⟨b, off, spot⟩ := a
      have hspot : spot = none := by simpa [Addr.add] using World.cell?_spot hc0
      subst hspot
      refine ⟨b, off, rfl, fun i hi => ?_⟩
      have hc := hcell i (by omega)
      have hzi : i < zs.length := by omega
      rw [Addr.add_mid] at hc
      rw [hc]
      have hw := byte_of_wf (hwz (zs[i]) (List.getElem_mem hzi))
      simp only [List.getD_eq_getElem?_getD, List.getElem?_eq_getElem hzi, Option.getD_some, List.getElem?_map, List.getElem?_take, hi, if_true, Option.map_some]
      simp [u8]; omega
/-- Their length, by the reach. -/
theorem reach_bytes {ts : List TypeId} {ds : List (DataW H)} (h : (DataW.weightsEach Tryd.prog ts ds).all (· ≤ reachBytes) = true) {j : Nat} (ht : ts[j]? = some 103) {d : DataW H} (hd : ds[j]? = some d) {bs : List Nat}
    (hx : (bs = [] ∧ d = .nil) ∨ ∃ elems spare, d = .slice elems spare ∧ elems.length = bs.length) : bs.length ≤ 140737488351232 := by
  rcases hx with ⟨rfl, _⟩ | ⟨elems, spare, rfl, he⟩
  · simp
  · have := sized_slice h ht hd Tryd.underlying103
    rw [Tryd.bytes5, Nat.mul_one] at this
    unfold reachBytes at this
    omega
/-- Their length, by the bulk. -/
theorem bulk_bytes {d : DataW H} {bs : List Nat} (hx : (bs = [] ∧ d = .nil) ∨ ∃ elems spare, d = .slice elems spare ∧ elems.length = bs.length) : bs.length + 1 ≤ Rows.uptoBulk d := by
  rcases hx with ⟨rfl, rfl⟩ | ⟨elems, spare, rfl, he⟩
  · simp [Rows.uptoBulk]
  · have := bulk_len elems
    simp only [Rows.uptoBulk]; omega
end
end Go.Proofs.YthafpaenggcpdaaDoor
namespace Go.Proofs.YthafpaenggcpdaaDoor
open Go Go.RowKit
set_option linter.unusedVariables false
set_option linter.unusedSimpArgs false
section
variable {H : Type} {enc : TypeId × Value → H} {W : World}

def natOf : Value → Nat
  | .int _ n => n.toNat
  | _ => 0
/-- A digest that came in. -/
theorem open_dig {fuel : Nat} {cs : List Value} {x : DataW H × List MemPlace} (h : DataW.trod enc Tryd.prog W 0 (fun _ => true) true fuel 23 cs = some x) :
    ∃ l : List Nat, cs = l.map u8 ∧ l.length = 32 ∧ ∀ y ∈ l, y < 256 := by
  obtain ⟨xs, m, _, rfl, hl, hn, hc⟩ := DataW.trod_array Tryd.underlying23 h
  rw [show Tryd.prog.cellsOf 23 = 32 from by kernel_rfl] at hl
  rw [show Tryd.prog.cellsOf 5 = 1 from by kernel_rfl] at hc
  have key : ∀ i (hi : i < cs.length), cs[i] = u8 (natOf cs[i]) ∧ natOf cs[i] < 256 := by
    intro i hi
    have h1 := hc i (by omega)
    rw [Nat.mul_one, List.getElem?_eq_getElem (by omega)] at h1
    obtain ⟨n, e, _, hw⟩ := DataW.trod_int Tryd.underlying5 h1
    rw [List.drop_eq_getElem_cons hi, List.take_succ_cons, List.take_zero] at e
    simp only [List.cons.injEq, and_true] at e
    have := byte_of_wf hw
    rw [e]
    refine ⟨?_, ?_⟩
    · simp [u8, natOf]; omega
    · simp [natOf]; omega
  refine ⟨cs.map natOf, ?_, by simp [hl], ?_⟩
  · rw [List.map_map]
    refine List.ext_getElem (by simp) fun i h1 h2 => ?_
    rw [List.getElem_map]
    exact (key i h1).1
  · intro y hy
    obtain ⟨v, hv, rfl⟩ := List.mem_map.1 hy
    obtain ⟨i, hi, rfl⟩ := List.getElem_of_mem hv
    exact (key i hi).2
set_option maxRecDepth 100000 in
theorem open_digv {b0 : Nat} {v : Value} {d : DataW H} {ps : List MemPlace} (hv : Value.okWide Tryd.prog W .any b0 23 v) (h : DataW.Trod enc Tryd.prog W 0 (fun _ => true) true 23 v d ps) :
    ∃ l : List Nat, v = .agg (brow l) ∧ l.length = 32 ∧ ∀ y ∈ l, y < 256 := by
  unfold Value.okWide at hv
  rw [Tryd.underlying23] at hv
  obtain ⟨cs, rfl, _, _⟩ := hv
  obtain ⟨fuel, hf⟩ := h
  obtain ⟨l, e, h1, h2⟩ := open_dig hf
  refine ⟨l, ?_, h1, h2⟩
  simp only [Value.cells] at e
  unfold brow
  rw [← e]
end
end Go.Proofs.YthafpaenggcpdaaDoor
namespace Go.Proofs.YthafpaenggcpdaaDoor
open Go.ChangeShapes Go.WideShapes Go.ChangeAt Go.RowKit Go.Deep
set_option linter.unusedVariables false
set_option linter.unusedSimpArgs false
section
variable {H : Type} {enc : TypeId × Value → H} {W : World}

theorem o_bulk_part {d : DataW H} {l : List (DataW H)} (h : d ∈ l) : Rows.uptoBulk d ≤ Rows.uptoBulkAll l := by
  induction l with
  | nil => cases h
  | cons x r ih =>
    simp only [Rows.uptoBulkAll]
    cases List.mem_cons.1 h with
    | inl e => subst e; omega
    | inr e => have := ih e; omega
theorem o_split (cs : List Value) (a n : Nat) : cs.drop a = (cs.drop a).take n ++ cs.drop (a + n) := by
  rw [← List.drop_drop, List.take_append_drop]

/-- Digests that came in. -/
theorem open_digs2 {fuel : Nat} {cs : List Value} {x : DataW H × List MemPlace} (h : DataW.trod enc Tryd.prog W 0 (fun _ => true) true fuel 25 cs = some x) (hB : Rows.uptoBulk x.1 ≤ 1048576) :
    ∃ v ds, cs = [v] ∧ RdD W v ds ∧ ds.length ≤ 1048576 := by
  rcases open_slice Tryd.underlying25 h with ⟨rfl, rfl⟩ | ⟨a, len, cap, m, n, D, Pl, rfl, _, hl, hm, hmm, rfl, hx⟩
  · exact ⟨_, [], rfl, ⟨none, 0, 0, rfl, rfl, Nat.le_refl _, by omega, fun d hd => by simp at hd, fun h => by omega⟩, by simp⟩
  · have hC : Tryd.prog.cellsOf 23 = 32 := by kernel_rfl
    rw [hC] at hx
    simp only [if_true] at hmm
    simp only [Rows.uptoBulk] at hB
    have hcap : cap ≤ 1048576 := by
      have h1 := bulk_len ((List.range len).map D)
      have h2 := bulk_len ((List.range (m - len)).map fun j => D (len + j))
      simp at h1 h2
      omega
    obtain ⟨f, hf⟩ := choose_lt (α := List Nat) (n := len) (p := fun i o => (∀ j v, (o.map u8)[j]? = some v → W.cell? ((a.add (i * 32)).add j) = some v) ∧ o.length = 32 ∧ ∀ y ∈ o, y < 256) (by
      intro i hi
      obtain ⟨cs', h1, h2⟩ := hx i (by omega)
      obtain ⟨l, rfl, hl1, hl2⟩ := open_dig h2
      obtain ⟨_, hlen, hc⟩ := World.cells?_some h1
      refine ⟨l, fun j v hv => ?_, hl1, hl2⟩
      have hj := (List.getElem?_eq_some_iff.1 hv).1
      have := hc j (by rw [List.length_map] at hj; omega)
      rw [this, ← hv, List.getElem?_eq_getElem hj])
    refine ⟨_, (List.range len).map f, rfl, ⟨some a, len, cap, rfl, by simp, hl, by omega, ?_, ?_⟩, by simp; omega⟩
    · intro d hd
      obtain ⟨i, hi, rfl⟩ := List.mem_map.1 hd
      exact (hf i (List.mem_range.1 hi)).2
    · intro hp
      obtain ⟨b, off, spot⟩ := a
      have h0 := hf 0 hp
      have hc0 := h0.1 0 (u8 ((f 0).getD 0 0)) (by rw [List.getElem?_map, List.getD_eq_getElem?_getD, List.getElem?_eq_getElem (by omega)]; rfl)
      have hspot : spot = none := by simpa [Addr.add] using World.cell?_spot hc0
      subst hspot
      refine ⟨b, off, rfl, fun i hi j v hv => ?_⟩
      have e9 : ((List.range len).map f).getD i [] = f i := by simp [List.getD_eq_getElem?_getD, hi]
      rw [e9] at hv
      have := (hf i hi).1 j v hv
      rw [Addr.add_mid, Addr.add_mid] at this
      exact this

/-- A question that came in. -/
theorem open_ask {fuel : Nat} {cs : List Value} {x : DataW H × List MemPlace} (h : DataW.trod enc Tryd.prog W 0 (fun _ => true) true fuel 27 cs = some x) (hB : Rows.uptoBulk x.1 ≤ 1048576) :
    ∃ (q : AskD) (pv : Value), cs = askC q pv ∧ OkA W q pv := by
  obtain ⟨xs, n, _, rfl, hl, hlen, hf⟩ := DataW.trod_struct Tryd.underlying27 h
  rw [show Tryd.prog.cellsOf 27 = 68 from by kernel_rfl] at hl
  match xs, hlen with
  | [y0, y1, y2, y3, y4, y5], _ =>
    have c3 : Tryd.prog.cellsOf 3 = 1 := by kernel_rfl
    have cd : Tryd.prog.cellsOf 23 = 32 := by kernel_rfl
    have cu : Tryd.prog.cellsOf 24 = 1 := by kernel_rfl
    have ck : Tryd.prog.cellsOf 25 = 1 := by kernel_rfl
    have f0 : DataW.trod enc Tryd.prog W 0 (fun _ => true) true n 3 ((cs.drop 0).take 1) = some y0 := by have this : DataW.trod enc Tryd.prog W 0 (fun _ => true) true n 3 ((cs.drop 0).take (Tryd.prog.cellsOf 3)) = some y0 := hf 0 _ rfl; rw [c3] at this; exact this
    have f1 : DataW.trod enc Tryd.prog W 0 (fun _ => true) true n 23 ((cs.drop 1).take 32) = some y1 := by have this : DataW.trod enc Tryd.prog W 0 (fun _ => true) true n 23 ((cs.drop 1).take (Tryd.prog.cellsOf 23)) = some y1 := hf 1 _ rfl; rw [cd] at this; exact this
    have f2 : DataW.trod enc Tryd.prog W 0 (fun _ => true) true n 24 ((cs.drop 33).take 1) = some y2 := by have this : DataW.trod enc Tryd.prog W 0 (fun _ => true) true n 24 ((cs.drop 33).take (Tryd.prog.cellsOf 24)) = some y2 := hf 2 _ rfl; rw [cu] at this; exact this
    have f3 : DataW.trod enc Tryd.prog W 0 (fun _ => true) true n 24 ((cs.drop 34).take 1) = some y3 := by have this : DataW.trod enc Tryd.prog W 0 (fun _ => true) true n 24 ((cs.drop 34).take (Tryd.prog.cellsOf 24)) = some y3 := hf 3 _ rfl; rw [cu] at this; exact this
    have f4 : DataW.trod enc Tryd.prog W 0 (fun _ => true) true n 25 ((cs.drop 35).take 1) = some y4 := by have this : DataW.trod enc Tryd.prog W 0 (fun _ => true) true n 25 ((cs.drop 35).take (Tryd.prog.cellsOf 25)) = some y4 := hf 4 _ rfl; rw [ck] at this; exact this
    have f5 : DataW.trod enc Tryd.prog W 0 (fun _ => true) true n 23 ((cs.drop 36).take 32) = some y5 := by have this : DataW.trod enc Tryd.prog W 0 (fun _ => true) true n 23 ((cs.drop 36).take (Tryd.prog.cellsOf 23)) = some y5 := hf 5 _ rfl; rw [cd] at this; exact this
    simp only [List.map_cons, List.map_nil, Rows.uptoBulk, Rows.uptoBulkAll] at hB
    obtain ⟨z, e0, _, w0⟩ := DataW.trod_int Tryd.underlying3 f0
    obtain ⟨l, e1, l1, l2⟩ := open_dig f1
    obtain ⟨i, e2, _, w2⟩ := DataW.trod_int Tryd.underlying24 f2
    obtain ⟨m, e3, _, w3⟩ := DataW.trod_int Tryd.underlying24 f3
    obtain ⟨dv, ds, e4, hds, hdl⟩ := open_digs2 f4 (by omega)
    obtain ⟨r, e5, r1, r2⟩ := open_dig f5
    have hi : 0 ≤ i ∧ i < 18446744073709551616 := by
      simp [Lit.wf, IntKind.min, IntKind.max, IntKind.signed, IntKind.bits] at w2
      omega
    have hm : 0 ≤ m ∧ m < 18446744073709551616 := by
      simp [Lit.wf, IntKind.min, IntKind.max, IntKind.signed, IntKind.bits] at w3
      omega
    refine ⟨⟨z, l, i.toNat, m.toNat, ds, r⟩, dv, ?_, ⟨int_of_wf w0, ⟨l1, l2⟩, by show i.toNat < _; omega, by show m.toNat < _; omega, hds, hdl, ⟨r1, r2⟩⟩⟩
    have hd : cs.drop 68 = [] := List.drop_eq_nil_of_le (by omega)
    have this := o_split cs 0 1
    rw [e0, o_split cs 1 32, e1, o_split cs 33 1, e2, o_split cs 34 1, e3, o_split cs 35 1, e4, o_split cs 36 32, e5, hd, List.drop_zero] at this
    rw [this]
    simp [askC, Int.toNat_of_nonneg hi.1, Int.toNat_of_nonneg hm.1]

set_option maxRecDepth 100000 in
theorem open_askv {b0 : Nat} {v : Value} {d : DataW H} {ps : List MemPlace} (hv : Value.okWide Tryd.prog W .any b0 27 v) (h : DataW.Trod enc Tryd.prog W 0 (fun _ => true) true 27 v d ps) (hB : Rows.uptoBulk d ≤ 1048576) :
    ∃ (q : AskD) (pv : Value), v = .agg (askC q pv).toArray ∧ OkA W q pv := by
  unfold Value.okWide at hv
  rw [Tryd.underlying27] at hv
  obtain ⟨cs, rfl, _, _⟩ := hv
  obtain ⟨fuel, hf⟩ := h
  obtain ⟨q, pv, e, h1⟩ := open_ask hf hB
  refine ⟨q, pv, ?_, h1⟩
  simp only [Value.cells] at e
  rw [← e]
end
end Go.Proofs.YthafpaenggcpdaaDoor
