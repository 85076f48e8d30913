import Derived.Test.YtecadmldnjlibaaDoorDNode
import Derived.Test.YtecadmldnjlibaaDoorDDoc
import Derived.Test.YtecadmldnjlibaaDoorMTMath
import Derived.Lib.Strings
import Derived.Lib.Slices
import Derived.Lib.Small
import Derived.Lib.Walk
import Derived.Lib.BitFns
import Derived.Deep.Light
import Derived.Lib.TrailingZeros
import Derived.Deep.RegionHeld3
import Derived.Test.YtecadmldnjlibaaDoorRowz
namespace Go.Proofs.YtecadmldnjlibaaDoor
open Go.RowKit Go.BigFrame
set_option linter.unusedVariables false
set_option linter.unusedSimpArgs false

end Go.Proofs.YtecadmldnjlibaaDoor

namespace Go.Proofs.YtecadmldnjlibaaDoor
open Go.RowKit Go.BigFrame
set_option linter.unusedVariables false
set_option linter.unusedSimpArgs false

def sunD (e : Nat) (z : Int) (p : List Nat) : List Nat := if e = 0 then sumD z p else List.replicate 32 0
def sunE (e : Nat) (z : Int) : Nat := if e = 0 then sumE z else e
theorem sunD_len (e : Nat) (z : Int) (p : List Nat) : (sunD e z p).length = 32 := by
  unfold sunD; split
  · exact sumD_len _ _
  · simp

set_option maxRecDepth 100000 in
set_option maxHeartbeats 1000000 in
theorem sumUnless_any (f : Nat) (z : Int) (v : Value) (p : List Nat) (w : World) (hz : -9223372036854775808 ≤ z ∧ z ≤ 9223372036854775807) (h : Rd w v p) (hT : Tabs w) :
    Calls Tryd.prog 68 #[.int .i64 f, .int .i64 z, v] w fun e w' => e = .returned (.tuple #[.agg (brow (sunD f z p)), .int .i64 (sunE f z)]) ∧ Kept [] w w' := by
  have H := hide h
  obtain ⟨a0, m0, c0, hu0, hm0, _⟩ := id h
  subst hu0
  subst hm0
  have HT := hide hT
  clear h hT
  have hcl := sunD_len f z p
  obtain ⟨D, hD⟩ : ∃ D, sunD f z p = D := ⟨_, rfl⟩
  have HD := hide hD
  rw [hD] at hcl ⊢
  clear hD
  obtain ⟨E, hE⟩ : ∃ E, sunE f z = E := ⟨_, rfl⟩
  have HE := hide hE
  rw [hE]
  clear hE
  have HL := hide (unhide H).len
  go_enter Tryd.func68, Tryd.ntmps68
  by_cases hf : f = 0
  · have hb : ((f : Int) != 0) = false := by rw [hf]; rfl
    have HD2 := hide (by rw [← unhide HD]; unfold sunD; rw [if_pos hf] : D = sumD z p)
    have HE2 := hide (by rw [← unhide HE]; unfold sunE; rw [if_pos hf] : E = sumE z)
    have HF := hide hf
    clear hf
    go_wp2_with fail
    rw [zb32]
    refine Calls.mono (dsum_all z _ [p] _ hz (RdL.one (alloc_at _ _ _) ((unhide H).old (((Kept.refl [] w).alloc _).alloc _) (by simp))) (by have h9 := unhide HL; simpa using h9) ((unhide HT).k (((Kept.refl [] w).alloc _).alloc _))) ?_
    rintro e w2 ⟨rfl, k2⟩
    rw [show ([p] : List (List Nat)).flatten = p by simp, ← unhide HD2, ← unhide HE2]
    have HZ2 := hide (k2.heap (((Kept.refl [] (w.alloc (.cells (zb 32) 41))).alloc (.cells #[.slice a0 p.length c0] 86)).heap (heap_alloc_new w (.cells (zb 32) 41)) (by simp)) (by simp))
    have HK2 := hide ((((Kept.refl [] w).alloc _).alloc _).trans k2 (by simp))
    clear k2
    go_wp2_with (refine wpList_store_row rfl 41 _ _ rfl w.heap.size (brow D) rfl rfl _ (zb 32) (unhide HZ2) (by rw [brow_size, hcl]; exact Tryd.size_dig) (by rw [zb_size, brow_size, hcl]) (brow_one _) ?_)
    refine bodyPost_ret (v := .tuple #[.agg (brow D), .int .i64 E]) ?_ rfl ⟨rfl, (unhide HK2).setRow (by simp) _⟩
    exact results_cell_tmp rfl _ _ w.heap.size _ (brow D) (0, 0) _ rfl (setRow_heap _ _ _ _ _ _ (unhide HZ2)) Tryd.underlying41 rfl (by rw [brow_size, hcl]; exact Tryd.size_dig) _ rfl
  · have hb : ((f : Int) != 0) = true := by rw [bne_iff_ne]; omega
    have HD2 := hide (by rw [← unhide HD]; unfold sunD; rw [if_neg hf] : D = List.replicate 32 0)
    have HE2 := hide (by rw [← unhide HE]; unfold sunE; rw [if_neg hf] : E = f)
    have HF := hide hf
    clear hf
    go_wp2_with (rw [zb32]; refine wpList_store_row rfl 41 _ _ rfl w.heap.size (zb 32) rfl rfl _ (zb 32) (heap_alloc_new _ _) (by rw [zb_size]; exact Tryd.size_dig) rfl (brow_one _) ?_)
    rw [unhide HD2, unhide HE2]
    refine bodyPost_ret (v := .tuple #[.agg (zb 32), .int .i64 f]) ?_ rfl ⟨rfl, ((Kept.refl [] w).alloc _).setRow (by simp) _⟩
    exact results_cell_tmp rfl _ _ w.heap.size _ (zb 32) (0, 0) _ rfl (setRow_heap _ _ _ _ _ _ (heap_alloc_new _ _)) Tryd.underlying41 rfl (by rw [zb_size]; exact Tryd.size_dig) _ rfl
end Go.Proofs.YtecadmldnjlibaaDoor
namespace Go.Proofs.YtecadmldnjlibaaDoor
open Go.RowKit Go.BigFrame
set_option linter.unusedVariables false
set_option linter.unusedSimpArgs false

end Go.Proofs.YtecadmldnjlibaaDoor
namespace Go.Proofs.YtecadmldnjlibaaDoor
open Go.RowKit Go.BigFrame
set_option linter.unusedVariables false
set_option linter.unusedSimpArgs false

set_option maxRecDepth 100000 in
set_option maxHeartbeats 1000000 in
theorem node_all (z : Int) (l m : List Nat) (w : World) (hz : -9223372036854775808 ≤ z ∧ z ≤ 9223372036854775807) (hl : l.length = 32) (hm : m.length = 32) (hlb : ∀ x ∈ l, x < 256) (hmb : ∀ x ∈ m, x < 256) (hT : Tabs w) :
    Calls Tryd.prog 60 #[.int .i64 z, .agg (brow l), .agg (brow m)] w fun e w' => e = .returned (.tuple #[.agg (brow (sunD (formedE z [l, m]) z (nodeB z l m))), .int .i64 (sunE (formedE z [l, m]) z)]) ∧ Kept [] w w' := by
  have HT := hide hT
  have HB := hide hlb
  have HB2 := hide hmb
  clear hT hlb hmb
  have hcl := sunD_len (formedE z [l, m]) z (nodeB z l m)
  have HX := hide (by unfold sunD; by_cases h9 : formedE z [l, m] = 0; rw [if_pos h9, if_pos h9, if_pos h9]; rw [if_neg h9, if_neg h9] : sunD (formedE z [l, m]) z (if formedE z [l, m] = 0 then nodeB z l m else []) = sunD (formedE z [l, m]) z (nodeB z l m))
  obtain ⟨f, hf⟩ : ∃ f, formedE z [l, m] = f := ⟨_, rfl⟩
  have HF := hide hf
  rw [hf] at hcl HX ⊢
  clear hf
  obtain ⟨D, hD⟩ : ∃ D, sunD f z (nodeB z l m) = D := ⟨_, rfl⟩
  have HD := hide hD
  rw [hD] at hcl HX ⊢
  clear hD
  obtain ⟨E, hE⟩ : ∃ E, sunE f z = E := ⟨_, rfl⟩
  have HE := hide hE
  rw [hE]
  clear hE
  go_enter Tryd.func60, Tryd.ntmps60
  have HK0 := hide ((((Kept.refl [] w).alloc (.cells (brow l) 41)).alloc (.cells (brow m) 41)).alloc (.cells (zb 32) 41))
  have HGZ := hide (alloc3_at w (.cells (brow l) 41) (.cells (brow m) 41) (.cells (zb 32) 41))
  have HGM := hide (((Kept.refl [] ((w.alloc (.cells (brow l) 41)).alloc (.cells (brow m) 41))).alloc (.cells (zb 32) 41)).heap (alloc_at w (.cells (brow l) 41) (.cells (brow m) 41)) (by simp))
  have HGL := hide ((((Kept.refl [] (w.alloc (.cells (brow l) 41))).alloc (.cells (brow m) 41)).alloc (.cells (zb 32) 41)).heap (heap_alloc_new w (.cells (brow l) 41)) (by simp))
  have HSL := hide (by rw [List.length_map, hl]; exact Tryd.size_dig : (Tryd.prog.info? 41).map (·.size) = some (l.map u8).length)
  have HSM := hide (by rw [List.length_map, hm]; exact Tryd.size_dig : (Tryd.prog.info? 41).map (·.size) = some (m.map u8).length)
  go_wp2_with (first
    | (refine wpList_load_mid rfl 41 _ rfl w.heap.size 0 rfl (l.map u8) _ (range_row (unhide HGL)) Tryd.underlying41 rfl (unhide HSL) ?_)
    | (refine wpList_load_mid rfl 41 _ rfl (w.heap.size + 1) 0 rfl (m.map u8) _ (range_row (unhide HGM)) Tryd.underlying41 rfl (unhide HSM) ?_))
  refine Calls.mono (nodeInput_any z l m _ hz hl hm (unhide HB) (unhide HB2)) ?_
  rintro e w1 ⟨v1, rfl, n1, k1⟩
  rw [unhide HF] at n1 ⊢
  have HR1 := hide n1.1
  obtain ⟨a1, m1, c1, hu1, hm1, _⟩ := id n1.1
  subst hu1
  have HZ1 := hide (k1.heap (unhide HGZ) (by simp))
  have HK1 := hide ((unhide HK0).trans k1 (by simp))
  clear n1 k1 hm1 HGL HGM
  go_wp2_with fail
  refine Calls.mono (sumUnless_any f z _ _ w1 hz (unhide HR1) ((unhide HT).k (unhide HK1))) ?_
  rintro e w2 ⟨rfl, k2⟩
  rw [unhide HX, unhide HE]
  have HZ2 := hide (k2.heap (unhide HZ1) (by simp))
  have HK2 := hide ((unhide HK1).trans k2 (by simp))
  clear k2
  go_wp2_with (refine wpList_store_row rfl 41 _ _ rfl (w.heap.size + 1 + 1) (brow D) rfl rfl _ (zb 32) (unhide HZ2) (by rw [brow_size, hcl]; exact Tryd.size_dig) (by rw [zb_size, brow_size, hcl]) (brow_one _) ?_)
  refine bodyPost_ret (v := .tuple #[.agg (brow D), .int .i64 E]) ?_ rfl ⟨rfl, (unhide HK2).setRow (by simp; omega) _⟩
  exact results_cell_tmp rfl _ _ (w.heap.size + 1 + 1) _ (brow D) (0, 0) _ rfl (setRow_heap _ _ _ _ _ _ (unhide HZ2)) Tryd.underlying41 rfl (by rw [brow_size, hcl]; exact Tryd.size_dig) _ rfl

end Go.Proofs.YtecadmldnjlibaaDoor
namespace Go.Proofs.YtecadmldnjlibaaDoor
open Go.RowKit Go.BigFrame
set_option linter.unusedVariables false
set_option linter.unusedSimpArgs false

/-- The greatest power of two below n. -/
def spl (n : Nat) : Nat := 2 ^ (n - 1).log2
theorem spl_lt {n : Nat} (h : 2 ≤ n) : spl n < n := by
  have := Nat.log2_self_le (n := n - 1) (by omega)
  unfold spl; omega
theorem spl_pos (n : Nat) : 1 ≤ spl n := Nat.one_le_two_pow
theorem spl_two {n : Nat} (h : 2 ≤ n) : n ≤ 2 * spl n := by
  have h1 := Nat.lt_log2_self (n := n - 1)
  unfold spl
  rw [Nat.pow_succ] at h1
  omega
/-- A digest's row. -/
def Dg (d : List Nat) : Prop := d.length = 32 ∧ ∀ x ∈ d, x < 256
def zD : List Nat := List.replicate 32 0
theorem zD_dg : Dg zD := ⟨by simp [zD], fun x hx => by simp [zD] at hx; omega⟩
def nodS (z : Int) (l r : List Nat) : List Nat := sumD z (nodeB z l r)
theorem nodS_dg (z : Int) (l r : List Nat) : Dg (nodS z l r) := by
  refine ⟨sumD_len _ _, ?_⟩
  unfold nodS sumD
  split
  · exact cutL_byte _ _ (hash_byte _)
  · intro x hx; simp at hx; omega
theorem cutL_cutL (k : Nat) (d : List Nat) (hk : k ≤ d.length) : cutL k (cutL k d) = cutL k d := by
  unfold cutL
  rw [List.take_append_of_le_length (by simp; omega), List.take_take, Nat.min_self]
theorem nodS_form {z : Int} (hw : widthB z = true) (l r : List Nat) : formB z (nodS z l r) = true := by
  have hz : 1 ≤ z ∧ z ≤ 32 := by simpa [widthB] using hw
  unfold formB nodS sumD
  simp only [hw, if_true, Bool.true_and, decide_eq_true_eq]
  exact cutL_cutL _ _ (by rw [hash_len]; omega)
/-- The root to which a proof leads, the proof turned round: its last digest first. -/
def clD (z : Int) (leaf : List Nat) : List (List Nat) → Nat → Nat → Option (List Nat)
  | [], _, n => if n = 1 then some leaf else none
  | d :: rest, i, n => if n = 1 then none else if i < spl n then (clD z leaf rest i (spl n)).map (fun x => nodS z x d) else (clD z leaf rest (i - spl n) (n - spl n)).map (fun x => nodS z d x)
/-- The two roots. -/
def twD (z : Int) (old : List Nat) : List (List Nat) → Nat → Nat → Bool → Option (List Nat × List Nat)
  | [], m, n, whole => if m = n ∧ whole = true then some (old, old) else none
  | d :: rest, m, n, whole => if m = n then (if whole = false ∧ rest = [] then some (d, d) else none)
    else if m ≤ spl n then (twD z old rest m (spl n) whole).map (fun x => (x.1, nodS z x.2 d)) else (twD z old rest (m - spl n) (n - spl n) false).map (fun x => (nodS z d x.1, nodS z d x.2))
theorem clD_ok {z : Int} (hw : widthB z = true) {leaf : List Nat} (hl : Dg leaf) (hf : formB z leaf = true) : ∀ (p : List (List Nat)) (i n : Nat) (d : List Nat), clD z leaf p i n = some d → Dg d ∧ formB z d = true
  | [], i, n, d, h => by
    unfold clD at h
    split at h
    · simp only [Option.some.injEq] at h; subst h; exact ⟨hl, hf⟩
    · simp at h
  | x :: r, i, n, d, h => by
    unfold clD at h
    split at h
    · simp at h
    · split at h
      · obtain ⟨y, _, rfl⟩ := Option.map_eq_some_iff.1 h
        exact ⟨nodS_dg _ _ _, nodS_form hw _ _⟩
      · obtain ⟨y, _, rfl⟩ := Option.map_eq_some_iff.1 h
        exact ⟨nodS_dg _ _ _, nodS_form hw _ _⟩
theorem twD_ok {z : Int} (hw : widthB z = true) {old : List Nat} (hl : Dg old) (hf : formB z old = true) : ∀ (p : List (List Nat)) (m n : Nat) (b : Bool) (d : List Nat × List Nat), (∀ x ∈ p, Dg x ∧ formB z x = true) → twD z old p m n b = some d → (Dg d.1 ∧ formB z d.1 = true) ∧ (Dg d.2 ∧ formB z d.2 = true)
  | [], m, n, b, d, hp, h => by
    unfold twD at h
    split at h
    · simp only [Option.some.injEq] at h; subst h; exact ⟨⟨hl, hf⟩, ⟨hl, hf⟩⟩
    · simp at h
  | x :: r, m, n, b, d, hp, h => by
    unfold twD at h
    split at h
    · split at h
      · simp only [Option.some.injEq] at h; subst h; exact ⟨hp x (by simp), hp x (by simp)⟩
      · simp at h
    · split at h
      · obtain ⟨y, hy, rfl⟩ := Option.map_eq_some_iff.1 h
        exact ⟨(twD_ok hw hl hf r _ _ _ y (fun u hu => hp u (by simp [hu])) hy).1, ⟨nodS_dg _ _ _, nodS_form hw _ _⟩⟩
      · obtain ⟨y, hy, rfl⟩ := Option.map_eq_some_iff.1 h
        exact ⟨⟨nodS_dg _ _ _, nodS_form hw _ _⟩, ⟨nodS_dg _ _ _, nodS_form hw _ _⟩⟩
/-- What RootOf answers. -/
def clO (z : Int) (leaf : List Nat) (i n : Nat) (p : List (List Nat)) : Option (List Nat) := clD z leaf p.reverse i n
def rootE (z : Int) (leaf : List Nat) (i n : Nat) (p : List (List Nat)) : Nat := if formedE z (leaf :: p) ≠ 0 then formedE z (leaf :: p) else if n ≤ i then 4 else if (clO z leaf i n p).isSome then 0 else 10
def rootD (z : Int) (leaf : List Nat) (i n : Nat) (p : List (List Nat)) : List Nat := if rootE z leaf i n p = 0 then (clO z leaf i n p).getD zD else zD
/-- What RootsOf answers. -/
def twO (z : Int) (old : List Nat) (m n : Nat) (b : Bool) (p : List (List Nat)) : Option (List Nat × List Nat) := twD z old p.reverse m n b
def rootsE (z : Int) (old : List Nat) (m n : Nat) (p : List (List Nat)) : Nat := if formedE z (old :: p) ≠ 0 then formedE z (old :: p) else if m = 0 ∨ n ≤ m then 4 else if (twO z old m n true p).isSome then 0 else 10
def rootsD (z : Int) (old : List Nat) (m n : Nat) (p : List (List Nat)) : List Nat × List Nat := if rootsE z old m n p = 0 then (twO z old m n true p).getD (zD, zD) else (zD, zD)
/-- What Inclusion answers. -/
def incE (z : Int) (leaf : List Nat) (i n : Nat) (p : List (List Nat)) (root : List Nat) : Nat := if formedE z (leaf :: root :: p) ≠ 0 then formedE z (leaf :: root :: p) else if rootE z leaf i n p ≠ 0 then rootE z leaf i n p else if rootD z leaf i n p = root then 0 else 10
/-- What Consistency answers. -/
def conE (z : Int) (m n : Nat) (old root : List Nat) (p : List (List Nat)) : Nat :=
  if formedE z (old :: root :: p) ≠ 0 then formedE z (old :: root :: p) else if n < m then 4 else if m = n then (if p = [] ∧ old = root then 0 else 10) else if m = 0 then (if p = [] ∧ old = sumD z [] then 0 else 10) else
    if rootsE z old m n p ≠ 0 then rootsE z old m n p else if (rootsD z old m n p).1 = old ∧ (rootsD z old m n p).2 = root then 0 else 10
theorem formedE_cases (z : Int) (ds : List (List Nat)) : formedE z ds = 0 ∨ formedE z ds = 1 ∨ formedE z ds = 3 := by
  unfold formedE; split; simp; split <;> simp
theorem formedE_zero {z : Int} {ds : List (List Nat)} (h : formedE z ds = 0) : widthB z = true ∧ ∀ d ∈ ds, formB z d = true := by
  unfold formedE at h
  split at h
  · simp at h
  · rename_i h1
    split at h
    · rename_i h2
      exact ⟨by simpa using h1, List.all_eq_true.1 h2⟩
    · simp at h
end Go.Proofs.YtecadmldnjlibaaDoor
namespace Go.Proofs.YtecadmldnjlibaaDoor
open Go.RowKit
set_option linter.unusedVariables false
set_option linter.unusedSimpArgs false

/-- The 33 cells of a part. -/
def partC (s : List Nat) (k : Value) : List Value := s.map u8 ++ [k]
theorem partC_len {s : List Nat} {k : Value} (h : s.length = 32) : (partC s k).length = 33 := by simp [partC, h]
/-- A part of the height h over the leaves l, at any place: its sum s, its kids k. -/
def PA (z : Int) (w : World) : Nat → List Nat → Value → List (List Nat) → Prop
  | 0, s, k, l => k = .pointer none ∧ l = [s] ∧ Dg s ∧ formB z s = true
  | h + 1, s, k, l => ∃ (g : Nat) (s0 : List Nat) (k0 : Value) (l0 : List (List Nat)) (s1 : List Nat) (k1 : Value) (l1 : List (List Nat)), k = .pointer (some ⟨g, 0, none⟩) ∧ w.heap[g]? = some (.cells (partC s0 k0 ++ partC s1 k1).toArray 90 (0, 0)) ∧
      PA z w h s0 k0 l0 ∧ PA z w h s1 k1 l1 ∧ l = l0 ++ l1 ∧ s = nodT z s0 s1
theorem PA.len {z : Int} {w : World} : ∀ {h : Nat} {s : List Nat} {k : Value} {l : List (List Nat)}, PA z w h s k l → l.length = 2 ^ h
  | 0, _, _, _, hp => by obtain ⟨_, rfl, _⟩ := hp; rfl
  | h + 1, _, _, _, hp => by
    obtain ⟨g, s0, k0, l0, s1, k1, l1, _, _, h0, h1, rfl, _⟩ := hp
    rw [List.length_append, h0.len, h1.len, Nat.pow_succ]; omega
theorem PA.sum {z : Int} {w : World} : ∀ {h : Nat} {s : List Nat} {k : Value} {l : List (List Nat)}, PA z w h s k l → s = perT z h l
  | 0, _, _, _, hp => by obtain ⟨_, rfl, _⟩ := hp; rfl
  | h + 1, _, _, _, hp => by
    obtain ⟨g, s0, k0, l0, s1, k1, l1, _, _, h0, h1, rfl, rfl⟩ := hp
    rw [perT, ← h0.len, List.take_left, List.drop_left, ← h0.sum, ← h1.sum]
theorem PA.dg {z : Int} {w : World} : ∀ {h : Nat} {s : List Nat} {k : Value} {l : List (List Nat)}, PA z w h s k l → Dg s
  | 0, _, _, _, hp => hp.2.2.1
  | h + 1, _, _, _, hp => by
    obtain ⟨g, s0, k0, l0, s1, k1, l1, _, _, h0, h1, _, rfl⟩ := hp
    exact nodS_dg z s0 s1
theorem PA.form {z : Int} {w : World} (hw : widthB z = true) : ∀ {h : Nat} {s : List Nat} {k : Value} {l : List (List Nat)}, PA z w h s k l → formB z s = true
  | 0, _, _, _, hp => hp.2.2.2
  | h + 1, _, _, _, hp => by
    obtain ⟨g, s0, k0, l0, s1, k1, l1, _, _, h0, h1, _, rfl⟩ := hp
    exact nodS_form hw s0 s1
theorem PA.one {z : Int} {w : World} {h : Nat} {s : List Nat} {k : Value} {l : List (List Nat)} (hp : PA z w h s k l) : k.oneCell' = true := by
  cases h with
  | zero => obtain ⟨rfl, _⟩ := hp; rfl
  | succ h => obtain ⟨g, _, _, _, _, _, _, rfl, _⟩ := hp; rfl
theorem partC_one {s : List Nat} {k : Value} (hk : k.oneCell' = true) : ∀ v ∈ partC s k, v.oneCell' = true := by
  intro v hv
  rcases List.mem_append.1 hv with h | h
  · obtain ⟨x, _, rfl⟩ := List.mem_map.1 h; rfl
  · rw [List.mem_singleton] at h; subst h; exact hk
/-- Kids never turn: a part stays where only blocks of other types turn. -/
theorem PA.kept {z : Int} {L : List Nat} {w w' : World} (k : Kept L w w') (hL : ∀ b ∈ L, ∀ cs m, w.heap[b]? ≠ some (.cells cs 90 m)) : ∀ {h : Nat} {s : List Nat} {kv : Value} {l : List (List Nat)}, PA z w h s kv l → PA z w' h s kv l
  | 0, _, _, _, hp => hp
  | h + 1, _, _, _, hp => by
    obtain ⟨g, s0, k0, l0, s1, k1, l1, e1, e2, h0, h1, e3, e4⟩ := hp
    exact ⟨g, s0, k0, l0, s1, k1, l1, e1, k.heap e2 (fun hm => hL g hm _ _ e2), h0.kept k hL, h1.kept k hL, e3, e4⟩

/-- A peak: its height, sum, kids and leaves. -/
structure Pk where
  h : Nat
  s : List Nat
  k : Value
  l : List (List Nat)
def cellsK (ps : List Pk) : List Value := ps.flatMap fun p => partC p.s p.k
def leavesK (ps : List Pk) : List (List Nat) := ps.flatMap fun p => p.l
/-- Peaks, the first leaf's first: their heights rise from the last on. -/
structure PKs (z : Int) (w : World) (ps : List Pk) : Prop where
  ok : ∀ p ∈ ps, PA z w p.h p.s p.k p.l
  inc : Inc 0 (ps.reverse.map (·.h))
theorem cellsK_app (a b : List Pk) : cellsK (a ++ b) = cellsK a ++ cellsK b := by simp [cellsK]
theorem leavesK_app (a b : List Pk) : leavesK (a ++ b) = leavesK a ++ leavesK b := by simp [leavesK]
theorem cellsK_len {z : Int} {w : World} : ∀ {ps : List Pk}, (∀ p ∈ ps, PA z w p.h p.s p.k p.l) → (cellsK ps).length = ps.length * 33
  | [], _ => rfl
  | p :: ps, h => by
    have h1 := cellsK_len (ps := ps) (fun q hq => h q (by simp [hq]))
    have h2 := partC_len (k := p.k) (h p (by simp)).dg.1
    simp only [cellsK, List.flatMap_cons, List.length_append, List.length_cons] at h1 ⊢
    rw [h2, h1]; omega
theorem cellsK_one {z : Int} {w : World} {ps : List Pk} (h : ∀ p ∈ ps, PA z w p.h p.s p.k p.l) : ∀ v ∈ cellsK ps, v.oneCell' = true := by
  intro v hv
  obtain ⟨p, hp, hv⟩ := List.mem_flatMap.1 hv
  exact partC_one (h p hp).one v hv
theorem leavesK_len {z : Int} {w : World} : ∀ {ps : List Pk}, (∀ p ∈ ps, PA z w p.h p.s p.k p.l) → (leavesK ps).length = sumP (ps.reverse.map (·.h))
  | [], _ => rfl
  | p :: ps, h => by
    have h1 := leavesK_len (ps := ps) (fun q hq => h q (by simp [hq]))
    have h2 := (h p (by simp)).len
    simp only [leavesK, List.flatMap_cons, List.length_append] at h1 ⊢
    rw [h2, h1]
    simp [sumP]; omega
/-- The slice value v reads as these peaks. -/
def RdK3 (w : World) (v : Value) (ps : List Pk) : Prop :=
  ∃ (ao : Option Addr) (cap : Nat), v = .slice ao ps.length cap ∧ ps.length ≤ cap ∧ cap ≤ 9223372036854775807 ∧
    (0 < ps.length → ∃ b off, ao = some ⟨b, off, none⟩ ∧ ∀ j u, (cellsK ps)[j]? = some u → w.cell? ⟨b, off + j, none⟩ = some u)
theorem RdK3.old {w w' : World} {v : Value} {ps : List Pk} (h : RdK3 w v ps) (k : Kept [] w w') : RdK3 w' v ps := by
  obtain ⟨ao, cap, rfl, h1, h2, h3⟩ := h
  refine ⟨ao, cap, rfl, h1, h2, fun hp => ?_⟩
  obtain ⟨b, off, rfl, hc⟩ := h3 hp
  exact ⟨b, off, rfl, fun j u hj => k.cell (hc j u hj) (by simp)⟩
/-- A tree at block t, over these leaves. -/
structure TreeAt (z : Int) (w : World) (t : Nat) (v : Value) (ps : List Pk) : Prop where
  row : w.heap[t]? = some (.cells #[.int .i64 z, .int .u64 ((leavesK ps).length : Int), v] 65 (0, 0))
  wid : widthB z = true
  rd : RdK3 w v ps
  pk : PKs z w ps
theorem PKs.old {z : Int} {w w' : World} {ps : List Pk} (h : PKs z w ps) (k : Kept [] w w') : PKs z w' ps := ⟨fun p hp => (h.ok p hp).kept k (by simp), h.inc⟩
theorem TreeAt.old {z : Int} {w w' : World} {t : Nat} {v : Value} {ps : List Pk} (h : TreeAt z w t v ps) (k : Kept [] w w') : TreeAt z w' t v ps := ⟨k.heap h.row (by simp), h.wid, h.rd.old k, h.pk.old k⟩
theorem TreeAt.nil {z : Int} {w : World} {t : Nat} (h : w.heap[t]? = some (.cells #[.int .i64 z, .int .u64 0, .slice none 0 0] 65 (0, 0))) (hw : widthB z = true) : TreeAt z w t (.slice none 0 0) [] :=
  ⟨h, hw, ⟨none, 0, rfl, Nat.le_refl _, by omega, fun h => by simp at h⟩, ⟨by simp, trivial⟩⟩
end Go.Proofs.YtecadmldnjlibaaDoor
namespace Go.Proofs.YtecadmldnjlibaaDoor
open Go.RowKit Go.BigFrame
set_option linter.unusedVariables false
set_option linter.unusedSimpArgs false

set_option maxRecDepth 100000 in
theorem newT_bad (z : Int) (w : World) (h : widthB z = false) :
    Calls Tryd.prog 9 #[.int .i64 z] w fun e w' => e = .returned (.tuple #[.pointer none, .int .i64 1]) ∧ Kept [] w w' := by
  have hz : ¬ (1 ≤ z ∧ z ≤ 32) := by simpa [widthB] using h
  clear h
  by_cases h1 : z < 1
  · go_enter Tryd.func9, Tryd.ntmps9
    go_wp2
    exact bodyPost_ret (results_tmp2 rfl _ _ _) rfl ⟨rfl, Kept.refl _ _⟩
  · have h2 : 32 < z := by omega
    go_enter Tryd.func9, Tryd.ntmps9
    go_wp2
    exact bodyPost_ret (results_tmp2 rfl _ _ _) rfl ⟨rfl, Kept.refl _ _⟩

set_option maxRecDepth 100000 in
theorem newT_any (z : Int) (w : World) (h : widthB z = true) :
    Calls Tryd.prog 9 #[.int .i64 z] w fun e w' => ∃ t, e = .returned (.tuple #[.pointer (some ⟨t, 0, none⟩), .int .i64 0]) ∧ w.heap.size ≤ t ∧ TreeAt z w' t (.slice none 0 0) [] ∧ Kept [] w w' := by
  have hz : 1 ≤ z ∧ z ≤ 32 := by simpa [widthB] using h
  have HW := hide h
  clear h
  obtain ⟨h1, h2⟩ := hz
  have h1' : ¬ z < 1 := by omega
  have h2' : ¬ 32 < z := by omega
  go_enter Tryd.func9, Tryd.ntmps9
  go_wp2
  exact bodyPost_ret (results_tmp2 rfl _ _ _) rfl ⟨_, rfl, Nat.le_refl _, TreeAt.nil (heap_alloc_new _ _) (unhide HW), (Kept.refl [] w).alloc _⟩

theorem widthT_nil (w : World) : Calls Tryd.prog 28 #[.pointer none] w fun e w' => e = .returned (.int .i64 0) ∧ w' = w := by
  go_enter Tryd.func28, Tryd.ntmps28
  go_wp2
  go_ret
  exact ⟨rfl, rfl⟩

theorem sizeT_nil (w : World) : Calls Tryd.prog 27 #[.pointer none] w fun e w' => e = .returned (.int .u64 0) ∧ w' = w := by
  go_enter Tryd.func27, Tryd.ntmps27
  go_wp2
  go_ret
  exact ⟨rfl, rfl⟩

theorem widthT_any (t : Nat) (z : Int) (v : Value) (ps : List Pk) (w : World) (h : TreeAt z w t v ps) : Calls Tryd.prog 28 #[.pointer (some ⟨t, 0, none⟩)] w fun e w' => e = .returned (.int .i64 z) ∧ w' = w := by
  have c0 := cell_of_row _ _ 0 _ _ _ h.row
  simp at c0
  clear h
  go_enter Tryd.func28, Tryd.ntmps28
  go_wp2
  go_ret
  exact ⟨rfl, rfl⟩

theorem sizeT_any (t : Nat) (z : Int) (v : Value) (ps : List Pk) (w : World) (h : TreeAt z w t v ps) : Calls Tryd.prog 27 #[.pointer (some ⟨t, 0, none⟩)] w fun e w' => e = .returned (.int .u64 ((leavesK ps).length : Int)) ∧ w' = w := by
  have c1 := cell_of_row _ _ 1 _ _ _ h.row
  simp at c1
  generalize (leavesK ps).length = n at c1 ⊢
  clear h
  go_enter Tryd.func27, Tryd.ntmps27
  go_wp2
  go_ret
  exact ⟨rfl, rfl⟩

set_option maxRecDepth 100000 in
set_option maxHeartbeats 1000000 in
theorem overT_any (z : Int) (l m : List Nat) (w : World) (hw : widthB z = true) (hl : Dg l) (hm : Dg m) (fl : formB z l = true) (fm : formB z m = true) (hT : Tabs w) :
    Calls Tryd.prog 53 #[.int .i64 z, .agg (brow l), .agg (brow m)] w fun e w' => e = .returned (.agg (brow (nodT z l m))) ∧ Kept [] w w' := by
  have hz : 1 ≤ z ∧ z ≤ 32 := by simpa [widthB] using hw
  have hf : formedE z [l, m] = 0 := by simp [formedE, hw, fl, fm]
  have HN := hide (fun W (k : Kept [] w W) => (by have := node_all z l m W (by omega) hl.1 hm.1 hl.2 hm.2 (hT.kept k (by simp) (by simp)); rw [hf] at this; exact this : Calls Tryd.prog 60 #[.int .i64 z, .agg (brow l), .agg (brow m)] W fun e w' => e = .returned (.tuple #[.agg (brow (nodT z l m)), .int .i64 (sunE 0 z)]) ∧ Kept [] W w'))
  have hdg : Dg (nodT z l m) := nodS_dg z l m
  generalize nodT z l m = D at HN hdg ⊢
  have HK0 := hide ((((Kept.refl [] w).alloc (.cells (brow l) 41)).alloc (.cells (brow m) 41)).alloc (.cells (zb 32) 41))
  have HGZ := hide (alloc3_at w (.cells (brow l) 41) (.cells (brow m) 41) (.cells (zb 32) 41))
  have HGM := hide (((Kept.refl [] ((w.alloc (.cells (brow l) 41)).alloc (.cells (brow m) 41))).alloc (.cells (zb 32) 41)).heap (alloc_at w (.cells (brow l) 41) (.cells (brow m) 41)) (by simp))
  have HGL := hide ((((Kept.refl [] (w.alloc (.cells (brow l) 41))).alloc (.cells (brow m) 41)).alloc (.cells (zb 32) 41)).heap (heap_alloc_new w (.cells (brow l) 41)) (by simp))
  have HSL := hide (by rw [List.length_map, hl.1]; exact Tryd.size_dig : (Tryd.prog.info? 41).map (·.size) = some (l.map u8).length)
  have HSM := hide (by rw [List.length_map, hm.1]; exact Tryd.size_dig : (Tryd.prog.info? 41).map (·.size) = some (m.map u8).length)
  have hcl := hdg.1
  clear hf fl fm hdg hl hm hT
  go_enter Tryd.func53, Tryd.ntmps53
  go_wp2_with (first
    | (refine wpList_load_mid rfl 41 _ rfl w.heap.size 0 rfl (l.map u8) _ (range_row (unhide HGL)) Tryd.underlying41 rfl (unhide HSL) ?_)
    | (refine wpList_load_mid rfl 41 _ rfl (w.heap.size + 1) 0 rfl (m.map u8) _ (range_row (unhide HGM)) Tryd.underlying41 rfl (unhide HSM) ?_))
  refine Calls.mono (unhide HN _ (unhide HK0)) ?_
  rintro e w1 ⟨rfl, k1⟩
  have HZ1 := hide (k1.heap (unhide HGZ) (by simp))
  have HK1 := hide ((unhide HK0).trans k1 (by simp))
  clear k1 HGL HGM HGZ HN
  have hlt1 := lt_of_block (unhide HZ1)
  have HA := hide (heap_alloc_new w1 (.cells (zb 32) 41))
  have HD1 := hide (setRow_heap (w1.alloc (.cells (zb 32) 41)) w1.heap.size (zb 32) (brow D) 41 (0, 0) (unhide HA))
  have HZ2 := hide ((setRow_other (w1.alloc (.cells (zb 32) 41)) w1.heap.size (w.heap.size + 1 + 1) (brow D) (by omega)).trans (((Kept.refl [] w1).alloc (.cells (zb 32) 41)).heap (unhide HZ1) (by simp)))
  have HK2 := hide (((unhide HK1).alloc (.cells (zb 32) 41)).setRow (g := w1.heap.size) (Or.inr (by have := (unhide HK1).size; omega)) (brow D))
  go_wp2_with (first
    | (refine wpList_store_row rfl 41 _ _ rfl w1.heap.size (brow D) rfl rfl _ (zb 32) (by exact unhide HA) (by rw [brow_size, hcl]; exact Tryd.size_dig) (by rw [zb_size, brow_size, hcl]) (brow_one _) ?_; clear HA)
    | (refine wpList_load_row rfl 41 _ rfl w1.heap.size rfl _ (brow D) (0, 0) _ (by exact unhide HD1) Tryd.underlying41 rfl (by rw [brow_size, hcl]; exact Tryd.size_dig) ?_)
    | (refine wpList_store_row rfl 41 _ _ rfl (w.heap.size + 1 + 1) (brow D) rfl rfl _ (zb 32) (by exact unhide HZ2) (by rw [brow_size, hcl]; exact Tryd.size_dig) (by rw [zb_size, brow_size, hcl]) (brow_one _) ?_))
  refine bodyPost_ret (v := .agg (brow D)) ?_ rfl ⟨rfl, (unhide HK2).setRow (Or.inr (by omega)) _⟩
  exact results_cell_row rfl _ _ (w.heap.size + 1 + 1) _ (brow D) (0, 0) _ rfl (setRow_heap _ _ _ _ _ _ (unhide HZ2)) Tryd.underlying41 rfl (by rw [brow_size, hcl]; exact Tryd.size_dig)

end Go.Proofs.YtecadmldnjlibaaDoor
namespace Go.Proofs.YtecadmldnjlibaaDoor
open Go.RowKit Go.BigFrame
set_option linter.unusedVariables false
set_option linter.unusedSimpArgs false

/-- A question: its width, leaf, two numbers, proof, root. -/
structure AskD where
  z : Int
  l : List Nat
  i : Nat
  n : Nat
  p : List (List Nat)
  r : List Nat
def askC (q : AskD) (pv : Value) : List Value := [.int .i64 q.z] ++ (q.l.map u8 ++ ([.int .u64 (q.i : Int), .int .u64 (q.n : Int), pv] ++ (q.r.map u8 ++ [])))
def zask : Array Value := (askC ⟨0, zD, 0, 0, [], zD⟩ (.slice none 0 0)).toArray
structure OkA (w : World) (q : AskD) (pv : Value) : Prop where
  z : -9223372036854775808 ≤ q.z ∧ q.z ≤ 9223372036854775807
  l : Dg q.l
  i : q.i < 18446744073709551616
  n : q.n < 18446744073709551616
  p : RdD w pv q.p
  pl : q.p.length ≤ 1048576
  r : Dg q.r
theorem OkA.old {w w' : World} {q : AskD} {pv : Value} (h : OkA w q pv) (k : Kept [] w w') : OkA w' q pv :=
  ⟨h.z, h.l, h.i, h.n, h.p.old k, h.pl, h.r⟩
theorem a_mid {w : World} {g n : Nat} {t : TypeId} {fr : Nat × Nat} (a b c : List Value) (h : w.heap[g]? = some (.cells (a ++ (b ++ c)).toArray t fr)) (hn : a.length = n) : w.rangeAt g n b := by
  subst hn
  intro j v hv
  have hj := (List.getElem?_eq_some_iff.1 hv).1
  rw [cell_of_row w g _ _ t fr h, List.getElem?_toArray, List.getElem?_append_right (by omega), Nat.add_sub_cancel_left, List.getElem?_append_left hj, hv]
theorem ask_cells {w : World} {g : Nat} {t : TypeId} {fr : Nat × Nat} {q : AskD} {pv : Value} (h : w.heap[g]? = some (.cells (askC q pv).toArray t fr)) (hl : q.l.length = 32) :
    w.cell? ⟨g, 0, none⟩ = some (.int .i64 q.z) ∧ w.rangeAt g 1 (q.l.map u8) ∧ (w.cell? ⟨g, 33, none⟩ = some (.int .u64 (q.i : Int)) ∧ w.cell? ⟨g, 34, none⟩ = some (.int .u64 (q.n : Int)) ∧ w.cell? ⟨g, 35, none⟩ = some pv) ∧ w.rangeAt g 36 (q.r.map u8) := by
  unfold askC at h
  have h1 := a_mid (n := 1) _ _ _ h rfl
  have h33 := a_mid (n := 33) ([.int .i64 q.z] ++ q.l.map u8) [.int .u64 (q.i : Int), .int .u64 (q.n : Int), pv] _ (by simpa using h) (by simp [hl])
  have h36 := a_mid (n := 36) ([.int .i64 q.z] ++ q.l.map u8 ++ [.int .u64 (q.i : Int), .int .u64 (q.n : Int), pv]) (q.r.map u8) [] (by simpa using h) (by simp [hl])
  have c : ∀ j v, ([.int .i64 q.z] : List Value)[j]? = some v → w.cell? ⟨g, j, none⟩ = some v := by
    intro j v hv
    rw [cell_of_row w g _ _ t fr h, List.getElem?_toArray, List.getElem?_append_left (List.getElem?_eq_some_iff.1 hv).1, hv]
  exact ⟨c 0 _ rfl, h1, ⟨h33 0 _ rfl, h33 1 _ rfl, h33 2 _ rfl⟩, h36⟩
end Go.Proofs.YtecadmldnjlibaaDoor
namespace Go.Proofs.YtecadmldnjlibaaDoor
open Go.RowKit Go.BigFrame
set_option linter.unusedVariables false
set_option linter.unusedSimpArgs false

theorem bitLen_log (x : Nat) : x ≠ 0 → x < 2 ^ 64 → Lib.bitLen x = x.log2 + 1 := by
  induction x using Nat.strongRecOn with
  | _ x ih =>
    intro h0 h
    rw [Lib.bitLen_half x h0 h]
    by_cases h1 : x < 2
    · have : x = 1 := by omega
      subst this; rfl
    · rw [ih (x / 2) (by omega) (by omega) (by omega), Nat.log2_def x, if_pos (by omega)]
      omega

set_option maxRecDepth 100000 in
theorem l8_size : (Lib.len8tab.size : Int) = 256 := by
  have : Lib.len8tab.size = 256 := by decide
  omega
theorem l8_add (k a b : Nat) (hk : k ≤ 56) (ha : a ≤ 8) (hb : b = k + a) : RowKit.wrap64 ((k : Int) + RowKit.wrap64 (a : Int)) = (b : Int) := by
  unfold RowKit.wrap64
  omega
theorem l8_two (a : Nat) (ha : a ≤ 8) : RowKit.wrap64 (RowKit.wrap64 (a : Int)) = (a : Int) := by
  unfold RowKit.wrap64
  omega
theorem l8_one (a : Nat) (ha : a ≤ 8) : RowKit.wrap64 (a : Int) = (a : Int) := by
  unfold RowKit.wrap64
  omega
theorem l8_get (y : Int) (h : y.toNat < Lib.len8tab.size) : ((Lib.len8tab[y.toNat]'h).toNat : Int) = Lib.len8 y := by
  unfold Lib.len8
  rw [getElem?_pos Lib.len8tab y.toNat h]
  rfl

set_option maxRecDepth 1000000 in
set_option maxHeartbeats 4000000 in
theorem len64_int (x : Int) (w : World) (h0 : 0 ≤ x) (h1 : x ≤ 18446744073709551615) :
    Calls Tryd.prog 59 #[.int .u64 x] w fun e w' => e = .returned (.int .i64 (Lib.bitLen x.toNat)) ∧ Kept [] w w' := by
  go_enter Tryd.func59, Tryd.ntmps59
  go_wp2_with fail
  all_goals first
    | (go_ret; refine ⟨congrArg Ending.returned (congrArg (Value.int IntKind.i64) ?_), Kept.refl _ _⟩; go_light)
    | (exfalso
       go_light
       have hs := l8_size
       omega)
  all_goals first
    | (rw [l8_get (x / 4294967296 / 65536 / 256) _, Lib.len8_of (x / 4294967296 / 65536 / 256) (by omega) (by omega)]
       have e : (x / 4294967296 / 65536 / 256).toNat = x.toNat / 72057594037927936 := by omega
       have l := Lib.bitLen_le8' (x / 4294967296 / 65536 / 256) (by omega) (by omega)
       have s := Lib.bitLen_shift56 x.toNat (by omega) (by omega)
       rw [e] at l ⊢
       exact l8_add 56 _ _ (by decide) l s)
    | (rw [l8_get (x / 4294967296 / 65536) _, Lib.len8_of (x / 4294967296 / 65536) (by omega) (by omega)]
       have e : (x / 4294967296 / 65536).toNat = x.toNat / 281474976710656 := by omega
       have l := Lib.bitLen_le8' (x / 4294967296 / 65536) (by omega) (by omega)
       have s := Lib.bitLen_shift48 x.toNat (by omega) (by omega)
       rw [e] at l ⊢
       exact l8_add 48 _ _ (by decide) l s)
    | (rw [l8_get (x / 4294967296 / 256) _, Lib.len8_of (x / 4294967296 / 256) (by omega) (by omega)]
       have e : (x / 4294967296 / 256).toNat = x.toNat / 1099511627776 := by omega
       have l := Lib.bitLen_le8' (x / 4294967296 / 256) (by omega) (by omega)
       have s := Lib.bitLen_shift40 x.toNat (by omega) (by omega)
       rw [e] at l ⊢
       exact l8_add 40 _ _ (by decide) l s)
    | (rw [l8_get (x / 4294967296) _, Lib.len8_of (x / 4294967296) (by omega) (by omega)]
       have e : (x / 4294967296).toNat = x.toNat / 4294967296 := by omega
       have l := Lib.bitLen_le8' (x / 4294967296) (by omega) (by omega)
       have s := Lib.bitLen_shift32 x.toNat (by omega) (by omega)
       rw [e] at l ⊢
       exact l8_add 32 _ _ (by decide) l s)
    | (rw [l8_get (x / 65536 / 256) _, Lib.len8_of (x / 65536 / 256) (by omega) (by omega)]
       have e : (x / 65536 / 256).toNat = x.toNat / 16777216 := by omega
       have l := Lib.bitLen_le8' (x / 65536 / 256) (by omega) (by omega)
       have s := Lib.bitLen_shift24 x.toNat (by omega) (by omega)
       rw [e] at l ⊢
       exact l8_add 24 _ _ (by decide) l s)
    | (rw [l8_get (x / 65536) _, Lib.len8_of (x / 65536) (by omega) (by omega)]
       have e : (x / 65536).toNat = x.toNat / 65536 := by omega
       have l := Lib.bitLen_le8' (x / 65536) (by omega) (by omega)
       have s := Lib.bitLen_shift16 x.toNat (by omega) (by omega)
       rw [e] at l ⊢
       exact l8_add 16 _ _ (by decide) l s)
    | (rw [l8_get (x / 256) _, Lib.len8_of (x / 256) (by omega) (by omega)]
       have e : (x / 256).toNat = x.toNat / 256 := by omega
       have l := Lib.bitLen_le8' (x / 256) (by omega) (by omega)
       have s := Lib.bitLen_shift8 x.toNat (by omega) (by omega)
       rw [e] at l ⊢
       exact l8_add 8 _ _ (by decide) l s)
    | (rw [l8_get x _, Lib.len8_of x (by omega) (by omega)]
       have l := Lib.bitLen_le8' x (by omega) (by omega)
       first | exact l8_two _ l | exact l8_add 0 _ _ (by decide) l (by omega) | exact l8_one _ l)

theorem len64_any (x : Nat) (w : World) (hx : x < 18446744073709551616) :
    Calls Tryd.prog 59 #[.int .u64 x] w fun e w' => e = .returned (.int .i64 (Lib.bitLen x)) ∧ Kept [] w w' := by
  have := len64_int (x : Int) w (by omega) (by omega)
  simpa using this

theorem shl1_run (P : Program) (t : TypeId) (m : Nat) (hm : m < 64) (W : World) : (Op.shift .shl .u64 1 .i64 (m : Int)).run P W = .ok (.int .u64 ((2 ^ m : Nat) : Int)) W := by
  rw [shift_shl_any .u64 .i64 1 (m : Int) (by omega)]
  have hmin : min (m : Int).toNat IntKind.u64.bits = (m : Int).toNat := by simp [IntKind.bits]; omega
  rw [hmin]
  have h1 : 2 ^ m < 2 ^ 64 := Nat.pow_lt_pow_right (by decide) hm
  have e : IntKind.u64.wrap (1 * 2 ^ (m : Int).toNat) = ((2 ^ m : Nat) : Int) := by
    rw [Int.toNat_natCast, Int.one_mul]
    have h2 : ((2 : Int) ^ m) = ((2 ^ m : Nat) : Int) := by simp
    rw [h2]
    generalize 2 ^ m = y at h1 ⊢
    simp [IntKind.wrap, IntKind.signed, IntKind.bits]
    omega
  rw [e]
  rfl
theorem wpList_shl1 {P : Program} {ops : Array Oper} {rest : List Oper} {o : Oper} {a : Act} {w : World} {Q : Exit → Act → World → Prop} (hgd : o.guard = none) (t t2 : TypeId) (y : Operand)
    (ho : o.op = .binOp .shl t (.const (.int .u64 1)) y t2) (m : Nat) (hm : m < 64) (hy : a.eval y = .int .i64 (m : Int)) (hK : wpList P ops Q rest (a.put o.dst (.int .u64 ((2 ^ m : Nat) : Int))) w) : wpList P ops Q (o :: rest) a w := by
  refine wpList_plain hgd fun K hK' => ?_
  unfold Oper.wp execOp
  have h1 : a.eval (.const (.int .u64 1)) = .int .u64 1 := rfl
  simp only [ho, hy, h1, eqGuard_shl, binOp_shl, Sem.run_bind, Sem.run_pure, Result.andThen_ok, shl1_run P t m hm]
  exact hK' _ _ hK

end Go.Proofs.YtecadmldnjlibaaDoor
namespace Go.Proofs.YtecadmldnjlibaaDoor
open Go.RowKit Go.BigFrame
set_option linter.unusedVariables false
set_option linter.unusedSimpArgs false

/-- The library's table in its variable. -/
def Tab6 (w : World) : Prop := ∀ j, j < 64 → w.cell? ⟨0, j, none⟩ = some (.int .u8 (Lib.deBruijn64tab.getD j 0 : Nat))
theorem Tab6.kept {w w' : World} (h : Tab6 w) (k : Kept [] w w') : Tab6 w' := fun j hj => k.cell (h j hj) (by simp)

theorem u64_and_natT (x y : Nat) (hx : x < 18446744073709551616) (hy : y < 18446744073709551616) : bits BinOp.and IntKind.u64 (x : Int) (y : Int) = ((x &&& y : Nat) : Int) := by
  have h1 : (BitVec.ofInt 64 (x : Int)).toNat = x := by rw [BitVec.ofInt_natCast, BitVec.toNat_ofNat]; exact Nat.mod_eq_of_lt (by omega)
  have h2 : (BitVec.ofInt 64 (y : Int)).toNat = y := by rw [BitVec.ofInt_natCast, BitVec.toNat_ofNat]; exact Nat.mod_eq_of_lt (by omega)
  have h := Nat.and_lt_two_pow (n := 64) x (by simpa using hy)
  show IntKind.u64.wrap ((BitVec.ofInt 64 (x : Int) &&& BitVec.ofInt 64 (y : Int)).toNat : Int) = _
  rw [BitVec.toNat_and, h1, h2]
  simp [IntKind.wrap, IntKind.signed, IntKind.bits]
  omega

theorem tz6_key (x a : Nat) (hx : x < 18446744073709551616) (hx0 : x ≠ 0) (hlow : x &&& (18446744073709551616 - x) = a) :
    bits BinOp.and IntKind.u64 (x : Int) (-(x : Int) % 18446744073709551616) * 285870213051353865 % 18446744073709551616 / 288230376151711744 = ((a * 285870213051353865 % 18446744073709551616 / 288230376151711744 : Nat) : Int) := by
  have e1 : -(x : Int) % 18446744073709551616 = ((18446744073709551616 - x : Nat) : Int) := by omega
  rw [e1, u64_and_natT x _ hx (by omega), hlow]
  omega

set_option maxRecDepth 100000 in
set_option maxHeartbeats 1000000 in
theorem tz64_any (x : Nat) (w : World) (hx : x < 18446744073709551616) (hx0 : x ≠ 0) (hT : Tab6 w) :
    Calls Tryd.prog 52 #[.int .u64 x] w fun e w' => e = .returned (.int .i64 (Lib.ctz 64 x)) ∧ w' = w := by
  obtain ⟨hlow, hk⟩ := Lib.lowest_bit 64 x hx0 hx
  obtain ⟨hi, htab⟩ := Lib.deBruijn64_at _ hk
  have hcell := hT _ hi
  rw [htab] at hcell
  have key := tz6_key x _ hx hx0 hlow
  have wr : ∀ y : Int, IntKind.u64.wrap y = y % 18446744073709551616 := fun y => by simp [IntKind.wrap, IntKind.signed, IntKind.bits]
  rw [← wr, ← wr] at key
  clear wr
  have hne : ((x : Int) == 0) = false := by simp; omega
  obtain ⟨k, hke⟩ : ∃ k, Lib.ctz 64 x = k := ⟨_, rfl⟩
  rw [hke] at key hcell hk hi ⊢
  obtain ⟨idx, hidx⟩ : ∃ idx, 2 ^ k * 285870213051353865 % 18446744073709551616 / 288230376151711744 = idx := ⟨_, rfl⟩
  rw [hidx] at key hcell hi
  clear hke hidx htab hlow hT
  go_enter Tryd.func52, Tryd.ntmps52
  go_wp2_with (simp only [key])
  go_ret
  exact ⟨rfl, rfl⟩

end Go.Proofs.YtecadmldnjlibaaDoor
namespace Go.Proofs.YtecadmldnjlibaaDoor
open Go.RowKit Go.BigFrame
set_option linter.unusedVariables false
set_option linter.unusedSimpArgs false

/-- The zero of a part. -/
def zP : Array Value := (List.replicate 32 (u8 0) ++ [Value.pointer none]).toArray
theorem Tryd.infoP : (Tryd.prog.info? 75).map (fun i => (i.zero, i.size, i.bytes)) = some (some (.agg zP), 33, 40) := by kernel_rfl
/-- A part behind peaks that are owned. -/
theorem pushK (w : World) (base : Nat) (v : Value) (n : Nat) (xs : List Value) (s : List Nat) (k : Value) (H : Nat) (h : w.ownsRow base 75 33 v n xs) (hnew : w.heap[H]? = some (.cells (partC s k).toArray 75 (0, 0))) (hs : s.length = 32) (hk : k.oneCell' = true) (hl : n + 1 ≤ 1000000000000) (hb : base ≤ w.heap.size) :
    ∃ g cap w1, (Builtin.append_ #[63, 63] 63 #[v, .slice (some ⟨H, 0, none⟩) 1 1]).run Tryd.prog w = .ok (.slice (some ⟨g, 0, none⟩) (n + 1) cap) w1 ∧
      w1.ownsRow base 75 33 (.slice (some ⟨g, 0, none⟩) (n + 1) cap) (n + 1) (xs ++ partC s k) ∧ w.grownBy w1 v.ownBlock ∧ (v.ownBlock = some g ∨ g = w.heap.size) := by
  obtain ⟨i0, hi, hz0, hz1, hz2⟩ := info_parts Tryd.infoP
  obtain ⟨g, cap, w1, hr, hown, hgrow, hat, hlt⟩ := run_append_lies (P := Tryd.prog) w 63 63 base 75 i0 (.agg zP) 33 40 Tryd.underlying63 hi hz0 hz1 hz2 rfl (by decide)
    v n xs h ⟨H, 0, none⟩ 1 1 (partC s k) (by rw [partC_len hs]) (World.news_of_block hnew) (partC_one hk) (by decide) (by unfold maxLen; omega) (by omega) hb _ rfl
  exact ⟨g, cap, w1, hr, hown, hgrow, hat⟩
theorem wpList_pushK {ops : Array Oper} {rest : List Oper} {o : Oper} {a : Act} {Q : Exit → Act → World → Prop} (hgd : o.guard = none) (sx x : Operand)
    (ho : o.op = .call { callee := .builtin .append, args := #[sx, x], argTypes := #[63, 63] }) (hty : o.type = 63)
    (w : World) (base : Nat) (v : Value) (n : Nat) (xs : List Value) (s : List Nat) (k : Value) (H : Nat) (h : w.ownsRow base 75 33 v n xs) (hnew : w.heap[H]? = some (.cells (partC s k).toArray 75 (0, 0))) (hs : s.length = 32) (hk : k.oneCell' = true) (hl : n + 1 ≤ 1000000000000) (hb : base ≤ w.heap.size)
    (hsx : a.eval sx = v) (hx : a.eval x = .slice (some ⟨H, 0, none⟩) 1 1)
    (hK : ∀ g cap w1, Hid (w1.ownsRow base 75 33 (.slice (some ⟨g, 0, none⟩) (n + 1) cap) (n + 1) (xs ++ partC s k)) → Hid (w.grownBy w1 v.ownBlock) → Hid (v.ownBlock = some g ∨ g = w.heap.size) →
      wpList Tryd.prog ops Q rest (a.put o.dst (.slice (some ⟨g, 0, none⟩) (n + 1) cap)) w1) :
    wpList Tryd.prog ops Q (o :: rest) a w := by
  obtain ⟨g, cap, w1, hrun, h2, h3, h4⟩ := pushK w base v n xs s k H h hnew hs hk hl hb
  refine wpList_plain hgd fun K hK' => ?_
  unfold Oper.wp execOp
  simp only [ho, hty, resolve, invoke, builtin, Sem.run_bind, Sem.run_pure, Result.andThen_ok, List.map_toArray, List.map_cons, List.map_nil, hsx, hx, hrun]
  exact hK' _ _ (hK g cap w1 h2 h3 h4)
/-- A beginning of peaks that are owned is owned, with all the room behind it. -/
theorem ownsK_take {w : World} {base : Nat} {a : Option Addr} {m c : Nat} {xs : List Value} (h : w.ownsRow base 75 33 (.slice a m c) m xs) (n : Nat) (hn : n ≤ m) : w.ownsRow base 75 33 (.slice a n c) n (xs.take (n * 33)) := by
  have h0 := h.1
  refine ⟨by rw [List.length_take, h0]; exact Nat.min_eq_left (Nat.mul_le_mul_right 33 hn), ?_⟩
  rcases h.2 with ⟨h9, h1⟩ | ⟨g, cap, cur, h1, h2, h3, h4, h5, h6, h7⟩
  · cases h9
    exact .inl ⟨by rw [show n = 0 by omega], by omega⟩
  · cases h1
    refine .inr ⟨g, c, cur, rfl, h2, h3, by omega, h5, h6, ?_⟩
    rw [← h7, List.take_take, Nat.min_eq_left (Nat.mul_le_mul_right 33 hn)]

end Go.Proofs.YtecadmldnjlibaaDoor
namespace Go.Proofs.YtecadmldnjlibaaDoor
open Go.RowKit Go.BigFrame
set_option linter.unusedVariables false
set_option linter.unusedSimpArgs false

theorem ctz_form {M : Nat} (hM : M ≠ 0) (hM2 : M < 18446744073709551616) : ∃ m, M = 2 ^ Lib.ctz 64 M * (2 * m + 1) := by
  obtain ⟨m, h, _⟩ := Lib.ctzFrom_spec 64 M (by omega) (by simpa using hM2)
  refine ⟨m, ?_⟩
  have e : Lib.ctz 64 M = Lib.ctzFrom 64 M := by unfold Lib.ctz; rw [if_neg hM]
  rw [e]; exact h
/-- Below the count of trailing noughts the last two peaks have one height. -/
theorem push_two {front : List Pk} {i M c m : Nat} (hc : M = 2 ^ c * (2 * m + 1)) (hi : i < c) (hI : Inc i (front.reverse.map (·.h))) (hs : sumP (front.reverse.map (·.h)) + 2 ^ i = M) :
    ∃ f2 pa, front = f2 ++ [pa] ∧ pa.h = i ∧ Inc (i + 1) (f2.reverse.map (·.h)) ∧ sumP (f2.reverse.map (·.h)) + 2 ^ (i + 1) = M := by
  obtain ⟨d, hd⟩ : ∃ d, c = i + 1 + d := ⟨c - (i + 1), by omega⟩
  have h1 : M = 2 ^ (i + 1) * (2 ^ d * (2 * m + 1)) := by rw [hc, hd, Nat.pow_add]; rw [Nat.mul_assoc]
  obtain ⟨q, hq⟩ : ∃ q, 2 ^ d * (2 * m + 1) = q := ⟨_, rfl⟩
  rw [hq] at h1
  have hq0 : 0 < q := by rw [← hq]; exact Nat.mul_pos (Nat.pow_pos (by omega)) (by omega)
  have hp : 0 < 2 ^ i := Nat.pow_pos (by omega)
  have hp2 : 2 ^ (i + 1) = 2 ^ i * 2 := Nat.pow_succ ..
  have h2 : sumP (front.reverse.map (·.h)) = 2 ^ i * (2 * (q - 1) + 1) := by
    have e : 2 ^ i * (2 * (q - 1) + 1) + 2 ^ i = 2 ^ (i + 1) * q := by
      rw [hp2, Nat.mul_assoc]
      have : 2 ^ i * (2 * (q - 1) + 1) + 2 ^ i = 2 ^ i * ((2 * (q - 1) + 1) + 1) := by rw [Nat.mul_add (2 ^ i) (2 * (q - 1) + 1) 1, Nat.mul_one]
      rw [this]
      congr 1
      omega
    omega
  obtain ⟨S', hS, hI', hs'⟩ := inc_odd hI h2 (by omega)
  have hd2 : (2 * (q - 1) + 1) / 2 = q - 1 := by omega
  rw [hd2] at hs'
  rcases List.eq_nil_or_concat front with rfl | ⟨f2, pa, rfl⟩
  · simp at hS
  · refine ⟨f2, pa, by simp, ?_⟩
    simp only [List.concat_eq_append, List.reverse_append, List.reverse_cons, List.reverse_nil, List.nil_append, List.singleton_append, List.map_cons, List.cons.injEq] at hS
    obtain ⟨e1, e2⟩ := hS
    refine ⟨e1, by rw [e2]; exact hI', ?_⟩
    rw [e2, hs', h1]
    have : 2 ^ (i + 1) * (q - 1) + 2 ^ (i + 1) = 2 ^ (i + 1) * ((q - 1) + 1) := by rw [Nat.mul_add _ _ 1, Nat.mul_one]
    rw [this]
    congr 1
    omega
/-- There all peaks but the last stand higher. -/
theorem push_end {front : List Pk} {M c m : Nat} (hc : M = 2 ^ c * (2 * m + 1)) (hI : Inc c (front.reverse.map (·.h))) (hs : sumP (front.reverse.map (·.h)) + 2 ^ c = M) : Inc (c + 1) (front.reverse.map (·.h)) := by
  have h2 : sumP (front.reverse.map (·.h)) = 2 ^ c * (2 * m) := by
    rw [Nat.mul_add, Nat.mul_one] at hc; omega
  exact inc_even hI h2 (by omega)
/-- A run of an owned row's cells. -/
theorem owns_range {w : World} {base T sz g n cap : Nat} {xs A B C : List Value} (h : w.ownsRow base T sz (.slice (some ⟨g, 0, none⟩) n cap) n xs) (hx : xs = A ++ (B ++ C)) (o : Nat) (ho : o = A.length) : w.rangeAt g o B := by
  intro j u hj
  subst ho
  rcases h.2 with ⟨h9, h1⟩ | ⟨g', cap', cur, h1, h2, h3, h4, h5, h6, h7⟩
  · cases h9
  · cases h1
    have hjl := (List.getElem?_eq_some_iff.1 hj).1
    have h8 : xs[A.length + j]? = some u := by rw [hx, List.getElem?_append_right (by omega), List.getElem?_append_left (by simpa using hjl)]; simpa using hj
    rw [← h7, List.getElem?_take] at h8
    split at h8
    · have h9 : cur[A.length + j]? = some u := by simpa using h8
      have := cell_of_row w g (A.length + j) _ _ _ h3
      rw [this]; exact h9
    · cases h8
theorem owns_ne {w : World} {base T T' sz g n cap t : Nat} {xs : List Value} {cs : Array Value} {m : Nat × Nat} (h : w.ownsRow base T sz (.slice (some ⟨g, 0, none⟩) n cap) n xs) (ht : w.heap[t]? = some (.cells cs T' m)) (hT : T' ≠ T) : ¬ t = g := by
  rcases h.2 with ⟨h9, h1⟩ | ⟨g', cap', cur, h1, h2, h3, h4, h5, h6, h7⟩
  · cases h9
  · cases h1
    rintro rfl
    rw [h3] at ht
    simp only [Option.some.injEq, Obj.cells.injEq] at ht
    exact hT ht.2.1.symm
theorem owns_cap {w : World} {base T sz g n cap : Nat} {xs : List Value} (h : w.ownsRow base T sz (.slice (some ⟨g, 0, none⟩) n cap) n xs) : n ≤ cap ∧ base ≤ g ∧ g < w.heap.size := by
  have := h.lt g rfl
  rcases h.2 with ⟨h9, h1⟩ | ⟨g', cap', cur, h1, h2, h3, h4, h5, h6, h7⟩
  · cases h9
  · cases h1
    exact ⟨h4, h2, lt_of_block h3⟩
theorem owns_rd {w : World} {base g n cap : Nat} {ps : List Pk} (h : w.ownsRow base 75 33 (.slice (some ⟨g, 0, none⟩) n cap) n (cellsK ps)) (hn : n = ps.length) : RdK3 w (.slice (some ⟨g, 0, none⟩) n cap) ps := by
  subst hn
  have h1 := owns_cap h
  have h2 := owns_range (A := []) (B := cellsK ps) (C := []) h (by simp) 0 rfl
  refine ⟨_, _, rfl, h1.1, ?_, fun _ => ⟨g, 0, rfl, h2⟩⟩
  rcases h.2 with ⟨h9, h1⟩ | ⟨g', cap', cur, h1, h2, h3, h4, h5, h6, h7⟩
  · cases h9
  · cases h1; unfold maxLen at h5; omega

end Go.Proofs.YtecadmldnjlibaaDoor
namespace Go.Proofs.YtecadmldnjlibaaDoor
open Go.RowKit Go.BigFrame
set_option linter.unusedVariables false
set_option linter.unusedSimpArgs false

/-- The blocks that push turns are none of the tables. -/
def Far (t : Nat) (v : Value) : Prop := ∀ b, b ∈ t :: v.ownBlock.toList → b ≠ 2 ∧ b ≠ 1 ∧ b ≠ 0
theorem Far.tabs {t : Nat} {v : Value} {w w' : World} (h : Far t v) (hT : Tabs w) (k : Kept (t :: v.ownBlock.toList) w w') : Tabs w' :=
  hT.kept k (fun hm => (h _ hm).1 rfl) (fun hm => (h _ hm).2.1 rfl)
theorem Far.tab6 {t : Nat} {v : Value} {w w' : World} (h : Far t v) (hT : Tab6 w) (k : Kept (t :: v.ownBlock.toList) w w') : Tab6 w' :=
  fun j hj => k.cell (hT j hj) (fun hm => (h _ hm).2.2 rfl)

/-- push within: the peaks behind i joinings. -/
structure PuRel (z : Int) (t M base : Nat) (v : Value) (ps : List Pk) (leaf : List Nat) (w : World) (i : Nat) (front : List Pk) (top : Pk) (g1 cap1 : Nat) (wr : World) : Prop where
  th : top.h = i
  row : wr.heap[t]? = some (.cells #[.int .i64 z, .int .u64 (M : Int), .slice (some ⟨g1, 0, none⟩) (front.length + 1) cap1] 65 (0, 0))
  own : wr.ownsRow base 75 33 (.slice (some ⟨g1, 0, none⟩) (front.length + 1) cap1) (front.length + 1) (cellsK (front ++ [top]))
  pa : ∀ p ∈ front ++ [top], PA z wr p.h p.s p.k p.l
  inc : Inc i (front.reverse.map (·.h))
  sum : sumP (front.reverse.map (·.h)) + 2 ^ i = M
  lv : leavesK (front ++ [top]) = leavesK ps ++ [leaf]
  kept : Kept (t :: v.ownBlock.toList) w wr
  lies : v.ownBlock = some g1 ∨ w.heap.size ≤ g1

theorem cellsK_one1 (p : Pk) : cellsK [p] = partC p.s p.k := by simp [cellsK]
theorem leavesK_one1 (p : Pk) : leavesK [p] = p.l := by simp [leavesK]
theorem len_le_sum : ∀ (ps : List Nat), ps.length ≤ sumP ps
  | [] => by simp [sumP]
  | h :: S => by
    have := len_le_sum S
    have h1 : 1 ≤ 2 ^ h := Nat.one_le_two_pow
    rw [sumP_cons, List.length_cons]; omega
theorem cellsK_len' {ps : List Pk} (h : ∀ p ∈ ps, p.s.length = 32) : (cellsK ps).length = ps.length * 33 := by
  induction ps with
  | nil => rfl
  | cons p ps ih =>
    have h1 := ih (fun q hq => h q (by simp [hq]))
    have h2 := partC_len (k := p.k) (h p (by simp))
    simp only [cellsK, List.flatMap_cons, List.length_append, List.length_cons] at h1 ⊢
    rw [h2, h1]; omega

/-- What a round of push reads. -/
structure PuFacts (z : Int) (t M base : Nat) (i : Nat) (f2 : List Pk) (pa top : Pk) (g1 cap1 : Nat) (wr : World) : Prop where
  ph : pa.h = i
  inc : Inc (i + 1) (f2.reverse.map (·.h))
  sum : sumP (f2.reverse.map (·.h)) + 2 ^ (i + 1) = M
  ra : wr.rangeAt g1 (f2.length * 33) (partC pa.s pa.k)
  rt : wr.rangeAt g1 ((f2.length + 1) * 33) (partC top.s top.k)
  la : pa.s.length = 32
  lt : top.s.length = 32
  da : Dg pa.s
  dt : Dg top.s
  fa : formB z pa.s = true
  ft : formB z top.s = true
  oa : (partC pa.s pa.k).toArray.all (·.oneCell') = true
  ot : (partC top.s top.k).toArray.all (·.oneCell') = true
  tg : ¬ t = g1
  gw : g1 < wr.heap.size
  bw : base ≤ g1
  jc : f2.length + 2 ≤ cap1
  jM : f2.length + 2 ≤ M
  cz : wr.cell? ⟨t, 0, none⟩ = some (.int .i64 z)
  cq : wr.cell? ⟨t, 2, none⟩ = some (.slice (some ⟨g1, 0, none⟩) (f2.length + 2) cap1)
theorem all_one {l : List Value} (h : ∀ v ∈ l, v.oneCell' = true) : l.toArray.all (·.oneCell') = true := by
  simp only [List.all_toArray, List.all_eq_true]; exact h
theorem PuRel.facts {z : Int} {t M base : Nat} {v : Value} {ps : List Pk} {leaf : List Nat} {w : World} {i : Nat} {front : List Pk} {top : Pk} {g1 cap1 : Nat} {wr : World} (h : PuRel z t M base v ps leaf w i front top g1 cap1 wr) (hw : widthB z = true) {c m : Nat} (hc : M = 2 ^ c * (2 * m + 1)) (hi : i < c) :
    ∃ f2 pa, front = f2 ++ [pa] ∧ PuFacts z t M base i f2 pa top g1 cap1 wr := by
  obtain ⟨f2, pa, rfl, e1, e2, e3⟩ := push_two hc hi h.inc h.sum
  have hpa := h.pa pa (by simp)
  have hpt := h.pa top (by simp)
  have hl2 : (cellsK f2).length = f2.length * 33 := cellsK_len' (fun p hp => (h.pa p (by simp [hp])).dg.1)
  have hx : cellsK (f2 ++ [pa] ++ [top]) = cellsK f2 ++ (partC pa.s pa.k ++ partC top.s top.k) := by rw [cellsK_app, cellsK_app, cellsK_one1, cellsK_one1, List.append_assoc]
  have hx2 : cellsK (f2 ++ [pa] ++ [top]) = (cellsK f2 ++ partC pa.s pa.k) ++ (partC top.s top.k ++ []) := by rw [hx, List.append_nil, List.append_assoc]
  have hca := owns_cap h.own
  have hsl := len_le_sum (f2.reverse.map (·.h))
  have hp1 : 2 ≤ 2 ^ (i + 1) := by have : 1 ≤ 2 ^ i := Nat.one_le_two_pow; rw [Nat.pow_succ]; omega
  simp only [List.length_map, List.length_reverse] at hsl
  have hcq := cell_of_row _ _ 2 _ _ _ h.row
  have hcz := cell_of_row _ _ 0 _ _ _ h.row
  simp at hcq hcz
  refine ⟨f2, pa, rfl, ⟨e1, e2, e3, ?_, ?_, hpa.dg.1, hpt.dg.1, hpa.dg, hpt.dg, hpa.form hw, hpt.form hw, all_one (partC_one hpa.one), all_one (partC_one hpt.one), owns_ne h.own h.row (by decide), hca.2.2, hca.2.1, ?_, ?_, hcz, ?_⟩⟩
  · exact owns_range h.own hx _ hl2.symm
  · exact owns_range h.own hx2 _ (by rw [List.length_append, hl2, partC_len hpa.dg.1]; omega)
  · have := hca.1; simp at this; omega
  · omega
  · rw [hcq]
theorem PA.keptT {z : Int} {t g1 : Nat} {cs cs' : Array Value} {w w' : World} {m m' : Nat × Nat} (k : Kept [t, g1] w w') (h1 : w.heap[t]? = some (.cells cs 65 m)) (h2 : w.heap[g1]? = some (.cells cs' 75 m')) {h : Nat} {s : List Nat} {kv : Value} {l : List (List Nat)} (hp : PA z w h s kv l) : PA z w' h s kv l := by
  refine hp.kept k ?_
  intro b hb cs2 m2 h9
  simp only [List.mem_cons, List.not_mem_nil, or_false] at hb
  rcases hb with rfl | rfl
  · rw [h1] at h9; simp at h9
  · rw [h2] at h9; simp at h9
theorem owns_block {w : World} {base T sz g n cap : Nat} {xs : List Value} (h : w.ownsRow base T sz (.slice (some ⟨g, 0, none⟩) n cap) n xs) : ∃ cur, w.heap[g]? = some (.cells cur T (0, 0)) := by
  rcases h.2 with ⟨h9, h1⟩ | ⟨g', cap', cur, h1, h2, h3, h4, h5, h6, h7⟩
  · cases h9
  · cases h1; exact ⟨cur, h3⟩
/-- One joining more. -/
theorem PuRel.step {z : Int} {t M base : Nat} {v : Value} {ps : List Pk} {leaf : List Nat} {w : World} {i : Nat} {f2 : List Pk} {pa top : Pk} {g1 cap1 : Nat} {wr : World} (h : PuRel z t M base v ps leaf w i (f2 ++ [pa]) top g1 cap1 wr) (F : PuFacts z t M base i f2 pa top g1 cap1 wr)
    {W6 W7 : World} (k6 : Kept [] wr W6) (k7 : Kept [t, g1] W6 W7) {gk g2 cap2 : Nat} (hgk : W6.heap.size ≤ gk) (hk : W7.heap[gk]? = some (.cells (partC pa.s pa.k ++ partC top.s top.k).toArray 90 (0, 0)))
    (ho : W7.ownsRow base 75 33 (.slice (some ⟨g2, 0, none⟩) (f2.length + 1) cap2) (f2.length + 1) (cellsK f2 ++ partC (nodT z pa.s top.s) (.pointer (some ⟨gk, 0, none⟩))))
    (hr : W7.heap[t]? = some (.cells #[.int .i64 z, .int .u64 (M : Int), .slice (some ⟨g2, 0, none⟩) (f2.length + 1) cap2] 65 (0, 0))) (hg : g2 = g1 ∨ W6.heap.size ≤ g2) :
    PuRel z t M base v ps leaf w (i + 1) f2 ⟨i + 1, nodT z pa.s top.s, .pointer (some ⟨gk, 0, none⟩), pa.l ++ top.l⟩ g2 cap2 W7 := by
  obtain ⟨cur, hcur⟩ := owns_block h.own
  have r6 := k6.heap h.row (by simp)
  have c6 := k6.heap hcur (by simp)
  have up : ∀ p ∈ f2 ++ [pa] ++ [top], PA z W7 p.h p.s p.k p.l := fun p hp => ((h.pa p hp).kept k6 (by simp)).keptT k7 r6 c6
  refine ⟨rfl, hr, ?_, ?_, F.inc, F.sum, ?_, ?_, ?_⟩
  · rw [cellsK_app, cellsK_one1]; exact ho
  · intro p hp
    rcases List.mem_append.1 hp with h1 | h1
    · exact up p (by simp [h1])
    · rw [List.mem_singleton] at h1
      subst h1
      have ua := up pa (by simp)
      have ut := up top (by simp)
      rw [F.ph] at ua
      rw [h.th] at ut
      exact ⟨gk, _, _, _, _, _, _, rfl, hk, ua, ut, rfl, rfl⟩
  · rw [← h.lv, leavesK_app, leavesK_app, leavesK_app, leavesK_one1, leavesK_one1, leavesK_one1, List.append_assoc]
  · refine (h.kept.trans k6 (by simp)).trans k7 ?_
    intro x hx
    simp only [List.mem_cons, List.not_mem_nil, or_false] at hx
    rcases hx with rfl | rfl
    · left; simp
    · rcases h.lies with h9 | h9
      · left; simp [h9]
      · right; exact h9
  · rcases hg with rfl | hg
    · exact h.lies
    · right
      have := h.kept.size
      have := k6.size
      omega
theorem PuRel.start {z : Int} {t N base : Nat} {v : Value} {ps : List Pk} {leaf : List Nat} {w wr : World} {g1 cap1 : Nat} (hpk : PKs z w ps) (hN : N = (leavesK ps).length) (hl : Dg leaf) (hf : formB z leaf = true) (k : Kept (t :: v.ownBlock.toList) w wr)
    (hv : ∀ b, v.ownBlock = some b → ∃ cs m, w.heap[b]? = some (.cells cs 75 m)) (ht : ∃ cs m, w.heap[t]? = some (.cells cs 65 m))
    (hr : wr.heap[t]? = some (.cells #[.int .i64 z, .int .u64 ((N + 1 : Nat) : Int), .slice (some ⟨g1, 0, none⟩) (ps.length + 1) cap1] 65 (0, 0)))
    (ho : wr.ownsRow base 75 33 (.slice (some ⟨g1, 0, none⟩) (ps.length + 1) cap1) (ps.length + 1) (cellsK ps ++ partC leaf (.pointer none))) (hg : v.ownBlock = some g1 ∨ w.heap.size ≤ g1) :
    PuRel z t (N + 1) base v ps leaf w 0 ps ⟨0, leaf, .pointer none, [leaf]⟩ g1 cap1 wr := by
  refine ⟨rfl, hr, ?_, ?_, hpk.inc, ?_, ?_, k, hg⟩
  · rw [cellsK_app, cellsK_one1]; exact ho
  · intro p hp
    rcases List.mem_append.1 hp with h1 | h1
    · refine (hpk.ok p h1).kept k ?_
      intro b hb cs m h9
      simp only [List.mem_cons, Option.mem_toList] at hb
      rcases hb with rfl | hb
      · obtain ⟨c1, m1, e⟩ := ht
        rw [e] at h9; simp at h9
      · obtain ⟨c1, m1, e⟩ := hv b hb
        rw [e] at h9; simp at h9
    · rw [List.mem_singleton] at h1
      subst h1
      exact ⟨rfl, rfl, hl, hf⟩
  · rw [hN, leavesK_len hpk.ok]
  · rw [leavesK_app, leavesK_one1]
/-- What push leaves. -/
def PushD (z : Int) (t N base : Nat) (v : Value) (ps : List Pk) (leaf : List Nat) (w w' : World) : Prop :=
  ∃ (g cap : Nat) (qs : List Pk), w'.heap[t]? = some (.cells #[.int .i64 z, .int .u64 ((N + 1 : Nat) : Int), .slice (some ⟨g, 0, none⟩) qs.length cap] 65 (0, 0)) ∧ w'.ownsRow base 75 33 (.slice (some ⟨g, 0, none⟩) qs.length cap) qs.length (cellsK qs) ∧
    PKs z w' qs ∧ leavesK qs = leavesK ps ++ [leaf] ∧ qs ≠ [] ∧ Kept (t :: v.ownBlock.toList) w w' ∧ (v.ownBlock = some g ∨ w.heap.size ≤ g)
theorem PuRel.fin {z : Int} {t N base : Nat} {v : Value} {ps : List Pk} {leaf : List Nat} {w : World} {c m : Nat} {front : List Pk} {top : Pk} {g1 cap1 : Nat} {wr : World} (h : PuRel z t (N + 1) base v ps leaf w c front top g1 cap1 wr) (hc : N + 1 = 2 ^ c * (2 * m + 1)) : PushD z t N base v ps leaf w wr := by
  have hlen : (front ++ [top]).length = front.length + 1 := by simp
  refine ⟨g1, cap1, front ++ [top], ?_, ?_, ⟨h.pa, ?_⟩, h.lv, by simp, h.kept, h.lies⟩
  · rw [hlen]; exact h.row
  · rw [hlen]; exact h.own
  · rw [List.reverse_append, List.reverse_cons, List.reverse_nil, List.nil_append, List.singleton_append, List.map_cons, h.th]
    exact ⟨Nat.zero_le _, push_end hc h.inc h.sum⟩

end Go.Proofs.YtecadmldnjlibaaDoor
namespace Go.Proofs.YtecadmldnjlibaaDoor
open Go.RowKit Go.BigFrame
set_option linter.unusedVariables false
set_option linter.unusedSimpArgs false

theorem inc_split : ∀ {S T : List Nat} {b x : Nat}, Inc b (S ++ x :: T) → Inc (x + 1) T ∧ b ≤ x ∧ Inc b S ∧ ∀ y ∈ S, y < x
  | [], T, b, x, h => ⟨h.2, h.1, trivial, by simp⟩
  | y :: S, T, b, x, h => by
    obtain ⟨h1, h2⟩ := h
    obtain ⟨e1, e2, e3, e4⟩ := inc_split (S := S) h2
    refine ⟨e1, by omega, ⟨h1, e3⟩, ?_⟩
    intro z hz
    rcases List.mem_cons.1 hz with rfl | hz
    · omega
    · exact e4 z hz
theorem sumP_app (S T : List Nat) : sumP (S ++ T) = sumP S + sumP T := by simp [sumP]
theorem inc_lt : ∀ {S : List Nat} {b x : Nat}, Inc b S → (∀ y ∈ S, y < x) → b ≤ x → sumP S + 2 ^ b ≤ 2 ^ x
  | [], b, x, _, _, hb => by simp [sumP]; exact Nat.pow_le_pow_right (by omega) hb
  | h :: S, b, x, hi, hy, hb => by
    have hx := hy h (by simp)
    have h1 := inc_lt (S := S) (b := h + 1) (x := x) hi.2 (fun y hm => hy y (by simp [hm])) (by omega)
    have h2 : 2 ^ b ≤ 2 ^ h := Nat.pow_le_pow_right (by omega) hi.1
    rw [sumP_cons]
    rw [Nat.pow_succ] at h1
    omega
theorem inc_down : ∀ {S : List Nat} {b : Nat} (c : Nat), Inc (b + c) S → Inc b (S.map (· - c)) ∧ sumP S = 2 ^ c * sumP (S.map (· - c))
  | [], b, c, _ => ⟨trivial, by simp [sumP]⟩
  | h :: S, b, c, hi => by
    obtain ⟨h1, h2⟩ := hi
    have e : h + 1 = (h - c + 1) + c := by omega
    rw [e] at h2
    obtain ⟨e1, e2⟩ := inc_down c h2
    refine ⟨⟨by simp only; omega, e1⟩, ?_⟩
    rw [List.map_cons, sumP_cons, sumP_cons, e2, Nat.mul_add, ← Nat.pow_add]
    congr 2
    omega
theorem inc_mem : ∀ {S : List Nat} {b : Nat}, Inc b S → ∀ y ∈ S, b ≤ y
  | [], _, _, y, hy => by simp at hy
  | h :: S, b, hi, y, hy => by
    rcases List.mem_cons.1 hy with rfl | hy
    · exact hi.1
    · have h1 := inc_mem hi.2 y hy
      have h2 := hi.1
      omega
theorem pop_inc : ∀ (f : Nat) (S : List Nat), Inc 0 S → (∀ h ∈ S, h < f) → Lib.popAux f (sumP S) = S.length
  | 0, S, _, h => by
    cases S with
    | nil => rfl
    | cons x S => exact absurd (h x (by simp)) (by omega)
  | f + 1, S, hi, h => by
    rw [Lib.popAux]
    cases S with
    | nil =>
      have := pop_inc f [] trivial (by simp)
      simpa [sumP] using this
    | cons x S =>
      by_cases hx : x = 0
      · subst hx
        have h2 : Inc (0 + 1) S := hi.2
        obtain ⟨e1, e2⟩ := inc_down 1 h2
        have h3 := pop_inc f _ e1 (by
          intro y hy
          obtain ⟨z, hz, rfl⟩ := List.mem_map.1 hy
          have := h z (by simp [hz])
          have := inc_mem h2 z hz
          omega)
        rw [sumP_cons, e2]
        have e3 : (2 ^ 0 + 2 ^ 1 * sumP (S.map (· - 1))) % 2 = 1 := by omega
        have e4 : (2 ^ 0 + 2 ^ 1 * sumP (S.map (· - 1))) / 2 = sumP (S.map (· - 1)) := by omega
        rw [e3, e4, h3, List.length_map, List.length_cons]; omega
      · have h2 : Inc (0 + 1) (x :: S) := ⟨by omega, hi.2⟩
        obtain ⟨e1, e2⟩ := inc_down 1 h2
        have h3 := pop_inc f _ e1 (by
          intro y hy
          obtain ⟨z, hz, rfl⟩ := List.mem_map.1 hy
          have := h z hz
          have := inc_mem h2 z hz
          omega)
        rw [e2]
        have e3 : (2 ^ 1 * sumP ((x :: S).map (· - 1))) % 2 = 0 := by omega
        have e4 : (2 ^ 1 * sumP ((x :: S).map (· - 1))) / 2 = sumP ((x :: S).map (· - 1)) := by omega
        rw [e3, e4, h3, List.length_map]; omega
theorem xor_high {k q x y : Nat} (hx : x < 2 ^ k) (hy : y < 2 ^ k) : (2 ^ k * q + x) ^^^ (2 ^ k * q + y) = x ^^^ y := by
  apply Nat.eq_of_testBit_eq
  intro i
  rw [Nat.testBit_xor, Nat.testBit_xor, Nat.testBit_two_pow_mul_add q hx, Nat.testBit_two_pow_mul_add q hy]
  by_cases h : i < k
  · rw [if_pos h, if_pos h]
  · rw [if_neg h, if_neg h]
    have e1 : x.testBit i = false := Nat.testBit_lt_two_pow (Nat.lt_of_lt_of_le hx (Nat.pow_le_pow_right (by omega) (by omega)))
    have e2 : y.testBit i = false := Nat.testBit_lt_two_pow (Nat.lt_of_lt_of_le hy (Nat.pow_le_pow_right (by omega) (by omega)))
    rw [e1, e2]; simp
theorem xor_top {k b r : Nat} (hb : b < 2 ^ k) (hr : r < 2 ^ k) : 2 ^ k ≤ (r ^^^ (2 ^ k + b)) ∧ (r ^^^ (2 ^ k + b)) < 2 ^ (k + 1) := by
  have hp : 2 ^ (k + 1) = 2 * 2 ^ k := by rw [Nat.pow_succ]; omega
  refine ⟨?_, Nat.xor_lt_two_pow (by omega) (by omega)⟩
  apply Nat.ge_two_pow_of_testBit
  rw [Nat.testBit_xor, Nat.testBit_lt_two_pow hr]
  have : (2 ^ k + b).testBit k = true := by
    rw [Nat.testBit_two_pow_add_eq, Nat.testBit_lt_two_pow hb]; rfl
  rw [this]; rfl
theorem find_peak {z : Int} {w : World} : ∀ {ps : List Pk} {lo : Nat}, (∀ p ∈ ps, PA z w p.h p.s p.k p.l) → lo < (leavesK ps).length → ∃ A p B, ps = A ++ p :: B ∧ (leavesK A).length ≤ lo ∧ lo < (leavesK A).length + 2 ^ p.h
  | [], lo, _, h => by simp [leavesK] at h
  | p :: ps, lo, hok, h => by
    have hp := (hok p (by simp)).len
    have e : leavesK (p :: ps) = p.l ++ leavesK ps := by simp [leavesK]
    rw [e, List.length_append, hp] at h
    by_cases hl : lo < 2 ^ p.h
    · exact ⟨[], p, ps, rfl, by simp [leavesK], by simpa [leavesK] using hl⟩
    · obtain ⟨A, q, B, rfl, h1, h2⟩ := find_peak (ps := ps) (lo := lo - 2 ^ p.h) (fun q hq => hok q (by simp [hq])) (by omega)
      have e2 : leavesK (p :: A) = p.l ++ leavesK A := by simp [leavesK]
      refine ⟨p :: A, q, B, rfl, ?_, ?_⟩ <;> rw [e2, List.length_append, hp] <;> omega
/-- The peak that holds the leaf lo. -/
theorem peak_at {z : Int} {w : World} {ps : List Pk} (h : PKs z w ps) {lo n : Nat} (hn : n = (leavesK ps).length) (hlo : lo < n) (hb : n < 32768) :
    ∃ A p B, ps = A ++ p :: B ∧ Lib.bitLen (lo ^^^ n) = p.h + 1 ∧ Lib.onesCount (n / 2 ^ (p.h + 1)) = A.length ∧ (leavesK A).length = lo / 2 ^ p.h * 2 ^ p.h ∧ p.h < 15 ∧ ∀ h, 2 ^ h ∣ lo → lo + 2 ^ h ≤ n → h ≤ p.h := by
  obtain ⟨A, p, B, rfl, h1, h2⟩ := find_peak h.ok (lo := lo) (by omega)
  have hi := h.inc
  rw [List.reverse_append, List.reverse_cons, List.append_assoc, List.map_append, List.singleton_append, List.map_cons] at hi
  obtain ⟨i1, i2, i3, i4⟩ := inc_split hi
  have lA := leavesK_len (ps := A) (fun q hq => h.ok q (by simp [hq]))
  have lB := leavesK_len (ps := B) (fun q hq => h.ok q (by simp [hq]))
  have lp := (h.ok p (by simp)).len
  have ltot : (leavesK (A ++ p :: B)).length = (leavesK A).length + 2 ^ p.h + (leavesK B).length := by
    rw [leavesK_app, List.length_append]
    have e : leavesK (p :: B) = p.l ++ leavesK B := by simp [leavesK]
    rw [e, List.length_append, lp]; omega
  have hB := inc_lt i3 i4 (Nat.zero_le _)
  obtain ⟨j1, j2⟩ := inc_down (b := 0) (p.h + 1) (by rw [Nat.zero_add]; exact i1)
  obtain ⟨q, hq⟩ : ∃ q, sumP ((A.reverse.map (·.h)).map (· - (p.h + 1))) = q := ⟨_, rfl⟩
  rw [hq] at j2
  obtain ⟨k, hk⟩ : ∃ k, p.h = k := ⟨_, rfl⟩
  rw [hk] at h2 ltot hB j1 j2 hq
  have hp0 : 1 ≤ 2 ^ k := Nat.one_le_two_pow
  have hp : 2 ^ (k + 1) = 2 * 2 ^ k := by rw [Nat.pow_succ]; omega
  obtain ⟨r, hr⟩ : ∃ r, lo = 2 ^ (k + 1) * q + r := ⟨lo - 2 ^ (k + 1) * q, by omega⟩
  have hr2 : r < 2 ^ k := by omega
  obtain ⟨b, hbb⟩ : ∃ b, (leavesK B).length = b := ⟨_, rfl⟩
  have hb2 : b < 2 ^ k := by omega
  have hn2 : n = 2 ^ (k + 1) * q + (2 ^ k + b) := by omega
  have hk12 : k < 15 := by
    rcases Nat.lt_or_ge k 15 with h9 | h9
    · exact h9
    · have : 2 ^ 15 ≤ 2 ^ k := Nat.pow_le_pow_right (by omega) h9
      omega
  refine ⟨A, p, B, rfl, ?_, ?_, ?_, ?_, ?_⟩
  · rw [hk]
    have hx := xor_top hb2 hr2
    have e : lo ^^^ n = r ^^^ (2 ^ k + b) := by rw [hr, hn2]; exact xor_high (by omega) (by omega)
    rw [e]
    have hlt : (r ^^^ (2 ^ k + b)) < 2 ^ 64 := Nat.lt_of_lt_of_le hx.2 (Nat.pow_le_pow_right (by omega) (by omega))
    rw [bitLen_log _ (by omega) hlt, (Nat.log2_eq_iff (by omega)).2 hx]
  · rw [hk]
    have e : n / 2 ^ (k + 1) = q := by
      rw [hn2, Nat.mul_add_div (by omega), Nat.div_eq_of_lt (by omega)]; omega
    rw [e]
    have hql : q < 32768 := by
      have : q ≤ 2 ^ (k + 1) * q := Nat.le_mul_of_pos_left q (by omega)
      omega
    have h9 := pop_inc 64 _ j1 (by
      intro y hy
      rcases Nat.lt_or_ge y 64 with h9 | h9
      · exact h9
      · have h8 : 2 ^ y ≤ q := by
          rw [← hq]
          obtain ⟨S1, S2, e⟩ := List.append_of_mem hy
          rw [e, sumP_app, sumP_cons]; omega
        have h7 : 2 ^ 64 ≤ 2 ^ y := Nat.pow_le_pow_right (by omega) h9
        omega)
    rw [hq] at h9
    unfold Lib.onesCount
    rw [h9]; simp
  · rw [hk]
    have e : lo / 2 ^ k = 2 * q := by
      have e2 : lo = 2 ^ k * (2 * q) + r := by rw [hr, hp, Nat.mul_comm 2 (2 ^ k), Nat.mul_assoc]
      rw [e2, Nat.mul_add_div (by omega), Nat.div_eq_of_lt hr2]; omega
    rw [e, lA, j2, hp, Nat.mul_comm (2 * q), ← Nat.mul_assoc, Nat.mul_comm 2]
  · rw [hk]; exact hk12
  · rw [hk]
    intro h hd hle
    rcases Nat.lt_or_ge k h with h9 | h9
    · exfalso
      obtain ⟨e, he⟩ : ∃ e, h = k + 1 + e := ⟨h - (k + 1), by omega⟩
      have h8 : 2 ^ (k + 1) ≤ 2 ^ h := Nat.pow_le_pow_right (by omega) (by omega)
      have h7 : 2 ^ (k + 1) ∣ lo := Nat.dvd_trans (Nat.pow_dvd_pow 2 (by omega)) hd
      rw [hr] at h7
      have h6 : 2 ^ (k + 1) ∣ r := (Nat.dvd_add_right (Nat.dvd_mul_right _ _)).1 h7
      have h5 : r = 0 := Nat.eq_zero_of_dvd_of_lt h6 (by omega)
      omega
    · exact h9
/-- The leaves of the whole subtree of the height h that holds lo. -/
def subL (L : List (List Nat)) (lo h : Nat) : List (List Nat) := (L.drop (lo / 2 ^ h * 2 ^ h)).take (2 ^ h)
theorem subL_kids {L : List (List Nat)} {lo h : Nat} {l0 l1 : List (List Nat)} (e : l0 ++ l1 = subL L lo (h + 1)) (h0 : l0.length = 2 ^ h) (h1 : l1.length = 2 ^ h) : (lo / 2 ^ h % 2 = 0 → l0 = subL L lo h) ∧ (lo / 2 ^ h % 2 = 1 → l1 = subL L lo h) := by
  have hp : 2 ^ (h + 1) = 2 ^ h * 2 := Nat.pow_succ ..
  have hd : lo / 2 ^ (h + 1) = lo / 2 ^ h / 2 := by rw [hp, Nat.div_div_eq_div_mul]
  obtain ⟨x, hx⟩ : ∃ x, lo / 2 ^ h = x := ⟨_, rfl⟩
  unfold subL at e ⊢
  rw [hd, hx, hp] at e
  rw [hx]
  constructor
  · intro hm
    have e1 : x / 2 * (2 ^ h * 2) = x * 2 ^ h := by
      have : x = x / 2 * 2 := by omega
      conv => rhs; rw [this]
      rw [Nat.mul_assoc, Nat.mul_comm 2]
    rw [e1] at e
    have h9 := congrArg (List.take (2 ^ h)) e
    rw [List.take_left' h0, List.take_take, Nat.min_eq_left (by omega)] at h9
    exact h9
  · intro hm
    have e1 : x / 2 * (2 ^ h * 2) + 2 ^ h = x * 2 ^ h := by
      have : x = x / 2 * 2 + 1 := by omega
      conv => rhs; rw [this]
      rw [Nat.add_mul, Nat.one_mul, Nat.mul_assoc, Nat.mul_comm 2]
    have h9 := congrArg (List.drop (2 ^ h)) e
    rw [List.drop_left' h0, List.drop_take, List.drop_drop] at h9
    rw [h9, e1]
    congr 1
    omega
theorem subL_all {L : List (List Nat)} {lo h : Nat} (hd : 2 ^ h ∣ lo) : subL L lo h = (L.drop lo).take (2 ^ h) := by
  unfold subL
  rw [Nat.div_mul_cancel hd]
theorem leaves_peak {A B : List Pk} {p : Pk} {lo : Nat} (ha : (leavesK A).length = lo / 2 ^ p.h * 2 ^ p.h) (hp : p.l.length = 2 ^ p.h) : p.l = subL (leavesK (A ++ p :: B)) lo p.h := by
  unfold subL
  have e : leavesK (A ++ p :: B) = leavesK A ++ (p.l ++ leavesK B) := by rw [leavesK_app]; simp [leavesK]
  rw [e, ← ha, List.drop_left, ← hp, List.take_left]
end Go.Proofs.YtecadmldnjlibaaDoor
namespace Go.Proofs.YtecadmldnjlibaaDoor
open Go.RowKit Go.BigFrame
set_option linter.unusedVariables false
set_option linter.unusedSimpArgs false

def sw1 (x : Nat) : Nat := ((x / 2) &&& 6148914691236517205) + (x &&& 6148914691236517205)
def sw2 (x : Nat) : Nat := ((x / 4) &&& 3689348814741910323) + (x &&& 3689348814741910323)
def sw3 (x : Nat) : Nat := (x / 16 + x) &&& 1085102592571150095
def sw4 (x : Nat) : Nat := x + x / 256
def sw5 (x : Nat) : Nat := x + x / 65536
def sw6 (x : Nat) : Nat := x + x / 4294967296
theorem pop_zero : ∀ (f : Nat), Lib.popAux f 0 = 0
  | 0 => rfl
  | f + 1 => by unfold Lib.popAux; rw [show (0 : Nat) / 2 = 0 from rfl, pop_zero f]
theorem pop_short : ∀ (k f x : Nat), x < 2 ^ k → k ≤ f → Lib.popAux f x = Lib.popAux k x
  | 0, f, x, h, _ => by
    have : x = 0 := by simpa using h
    rw [this, pop_zero, pop_zero]
  | k + 1, 0, x, h, hf => by omega
  | k + 1, f + 1, x, h, hf => by
    unfold Lib.popAux
    rw [pop_short k f (x / 2) (by rw [Nat.pow_succ] at h; omega) (by omega)]
def swC (x : Nat) : Bool := (sw6 (sw5 (sw4 (sw3 (sw2 (sw1 x))))) &&& 127) == Lib.popAux 15 x
def swL (k : Nat) : Nat → Bool
  | 0 => true
  | n + 1 => swC (256 * k + n) && swL k n
theorem swL_at (k : Nat) : ∀ (n j : Nat), swL k n = true → j < n → swC (256 * k + j) = true
  | 0, j, _, h => by omega
  | n + 1, j, h, hj => by
    unfold swL at h
    rw [Bool.and_eq_true] at h
    rcases Nat.lt_or_ge j n with h1 | h1
    · exact swL_at k n j h.2 h1
    · rw [show j = n by omega]; exact h.1
theorem sw_two : ∀ (k : Fin 128), swL k.val 256 = true := by decide +kernel
theorem sw_all (x : Nat) (hx : x < 32768) : (sw6 (sw5 (sw4 (sw3 (sw2 (sw1 x))))) &&& 127) = Lib.onesCount x := by
  have h := swL_at (x / 256) 256 (x % 256) (sw_two ⟨x / 256, by omega⟩) (by omega)
  have e : 256 * (x / 256) + x % 256 = x := by omega
  rw [e] at h
  unfold swC at h
  rw [beq_iff_eq] at h
  rw [h]
  exact (pop_short 15 64 x (by omega) (by omega)).symm
theorem i64_and_natT (x y : Nat) (hx : x < 9223372036854775808) (hy : y < 9223372036854775808) : bits BinOp.and IntKind.i64 (x : Int) (y : Int) = ((x &&& y : Nat) : Int) := by
  have h1 : (BitVec.ofInt 64 (x : Int)).toNat = x := by rw [BitVec.ofInt_natCast, BitVec.toNat_ofNat]; exact Nat.mod_eq_of_lt (by omega)
  have h2 : (BitVec.ofInt 64 (y : Int)).toNat = y := by rw [BitVec.ofInt_natCast, BitVec.toNat_ofNat]; exact Nat.mod_eq_of_lt (by omega)
  have h := Nat.and_lt_two_pow (n := 63) x (by simpa using hy)
  show IntKind.i64.wrap ((BitVec.ofInt 64 (x : Int) &&& BitVec.ofInt 64 (y : Int)).toNat : Int) = _
  rw [BitVec.toNat_and, h1, h2]
  simp [IntKind.wrap, IntKind.signed, IntKind.bits]
  omega
theorem wrU (y : Int) : IntKind.u64.wrap y = y % 18446744073709551616 := by simp [IntKind.wrap, IntKind.signed, IntKind.bits]
theorem sw1_le (x : Nat) : sw1 x ≤ 2 * x := by
  have h1 := Nat.and_le_left (n := x / 2) (m := 6148914691236517205)
  have h2 := Nat.and_le_left (n := x) (m := 6148914691236517205)
  unfold sw1; omega
theorem sw2_le (x : Nat) : sw2 x ≤ 2 * x := by
  have h1 := Nat.and_le_left (n := x / 4) (m := 3689348814741910323)
  have h2 := Nat.and_le_left (n := x) (m := 3689348814741910323)
  unfold sw2; omega
theorem sw3_le (x : Nat) : sw3 x ≤ 2 * x := by
  have h1 := Nat.and_le_left (n := x / 16 + x) (m := 1085102592571150095)
  unfold sw3; omega
theorem sw1_eq (x : Nat) (h : x ≤ 1000000000) : IntKind.u64.wrap (bits BinOp.and IntKind.u64 ((x : Int) / 2) 6148914691236517205 + bits BinOp.and IntKind.u64 (x : Int) 6148914691236517205) = ((sw1 x : Nat) : Int) := by
  have e1 := u64_and_natT (x / 2) 6148914691236517205 (by omega) (by omega)
  have e2 := u64_and_natT x 6148914691236517205 (by omega) (by omega)
  have e3 := sw1_le x
  have c1 : ((x / 2 : Nat) : Int) = (x : Int) / 2 := by omega
  have c2 : ((6148914691236517205 : Nat) : Int) = 6148914691236517205 := rfl
  rw [c1, c2] at e1
  rw [c2] at e2
  rw [e1, e2, wrU]
  unfold sw1 at e3 ⊢
  omega
theorem sw2_eq (x : Nat) (h : x ≤ 1000000000) : IntKind.u64.wrap (bits BinOp.and IntKind.u64 ((x : Int) / 4) 3689348814741910323 + bits BinOp.and IntKind.u64 (x : Int) 3689348814741910323) = ((sw2 x : Nat) : Int) := by
  have e1 := u64_and_natT (x / 4) 3689348814741910323 (by omega) (by omega)
  have e2 := u64_and_natT x 3689348814741910323 (by omega) (by omega)
  have e3 := sw2_le x
  have c1 : ((x / 4 : Nat) : Int) = (x : Int) / 4 := by omega
  have c2 : ((3689348814741910323 : Nat) : Int) = 3689348814741910323 := rfl
  rw [c1, c2] at e1
  rw [c2] at e2
  rw [e1, e2, wrU]
  unfold sw2 at e3 ⊢
  omega
theorem sw3_eq (x : Nat) (h : x ≤ 1000000000) : bits BinOp.and IntKind.u64 (IntKind.u64.wrap ((x : Int) / 16 + (x : Int))) 1085102592571150095 = ((sw3 x : Nat) : Int) := by
  have e1 := u64_and_natT (x / 16 + x) 1085102592571150095 (by omega) (by omega)
  have c1 : ((x / 16 + x : Nat) : Int) = IntKind.u64.wrap ((x : Int) / 16 + x) := by rw [wrU]; omega
  have c2 : ((1085102592571150095 : Nat) : Int) = 1085102592571150095 := rfl
  rw [c1, c2] at e1
  exact e1
theorem sw4_eq (x : Nat) (h : x ≤ 1000000000) : IntKind.u64.wrap ((x : Int) + (x : Int) / 256) = ((sw4 x : Nat) : Int) := by rw [wrU]; unfold sw4; omega
theorem sw5_eq (x : Nat) (h : x ≤ 1000000000) : IntKind.u64.wrap ((x : Int) + (x : Int) / 65536) = ((sw5 x : Nat) : Int) := by rw [wrU]; unfold sw5; omega
theorem sw6_eq (x : Nat) (h : x ≤ 1000000000) : IntKind.u64.wrap ((x : Int) + (x : Int) / 4294967296) = ((sw6 x : Nat) : Int) := by rw [wrU]; unfold sw6; omega

set_option maxRecDepth 100000 in
set_option maxHeartbeats 1000000 in
theorem ones64_any (x : Nat) (w : World) (hx : x < 32768) :
    Calls Tryd.prog 63 #[.int .u64 x] w fun e w' => e = .returned (.int .i64 (Lib.onesCount x)) ∧ w' = w := by
  have b1 := sw1_le x
  have b2 := sw2_le (sw1 x)
  have b3 := sw3_le (sw2 (sw1 x))
  have b4 : sw4 (sw3 (sw2 (sw1 x))) ≤ 2 * sw3 (sw2 (sw1 x)) := by unfold sw4; omega
  have b5 : sw5 (sw4 (sw3 (sw2 (sw1 x)))) ≤ 2 * sw4 (sw3 (sw2 (sw1 x))) := by unfold sw5; omega
  have b6 : sw6 (sw5 (sw4 (sw3 (sw2 (sw1 x))))) ≤ 2 * sw5 (sw4 (sw3 (sw2 (sw1 x)))) := by unfold sw6; omega
  have HE := hide (sw_all x hx)
  have E1 := hide (sw1_eq x (by omega))
  have E2 := hide (sw2_eq (sw1 x) (by omega))
  have E3 := hide (sw3_eq (sw2 (sw1 x)) (by omega))
  have E4 := hide (sw4_eq (sw3 (sw2 (sw1 x))) (by omega))
  have E5 := hide (sw5_eq (sw4 (sw3 (sw2 (sw1 x)))) (by omega))
  have E6 := hide (sw6_eq (sw5 (sw4 (sw3 (sw2 (sw1 x))))) (by omega))
  have B := hide (by omega : sw6 (sw5 (sw4 (sw3 (sw2 (sw1 x))))) ≤ 1000000000)
  clear b1 b2 b3 b4 b5 b6
  go_enter Tryd.func63, Tryd.ntmps63
  go_wp2_with fail
  go_ret
  refine ⟨?_, rfl⟩
  simp only [unhide E1, unhide E2, unhide E3, unhide E4, unhide E5, unhide E6]
  show Ending.returned (Value.int .i64 (bits BinOp.and IntKind.i64 (wrap64 ((sw6 (sw5 (sw4 (sw3 (sw2 (sw1 x)))))  : Nat) : Int)) 127)) = _
  have hB := unhide B
  rw [show wrap64 ((sw6 (sw5 (sw4 (sw3 (sw2 (sw1 x))))) : Nat) : Int) = ((sw6 (sw5 (sw4 (sw3 (sw2 (sw1 x))))) : Nat) : Int) from by unfold wrap64; omega]
  have h9 := i64_and_natT (sw6 (sw5 (sw4 (sw3 (sw2 (sw1 x)))))) 127 (by omega) (by omega)
  rw [unhide HE] at h9
  exact congrArg (fun y => Ending.returned (Value.int .i64 y)) h9
end Go.Proofs.YtecadmldnjlibaaDoor
/-
  A region that draws its order, with loads that must come ahead of SOME of its stores only ('a, b = b, a' of whole rows): what holds of the world hangs on what has been carried out. No program.
-/
namespace Go.Proofs.YtecadmldnjlibaaDoor
open Go
set_option linter.unusedVariables false
set_option linter.unusedSimpArgs false
section
variable {P : Program} {ops : Array Oper} {Q : Exit → Act → World → Prop} {md : Region.Mode} {S : Array Bool → World → Prop}

/-- Whatever comes up, S holds of what has come up and of the world behind it. -/
def AnyL (P : Program) (md : Region.Mode) (ops : Array Oper) (Q : Exit → Act → World → Prop) (S : Array Bool → World → Prop) : Nat → Array Bool → Act → World → Prop
  | 0, d, a, w => Region.ready md ops d = [] ∧ Q .normal a w
  | g + 1, d, a, w => (Region.ready md ops d = [] → Q .normal a w) ∧ ∀ i ∈ Region.ready md ops d, wpOp P ops Q i (fun a' w' => S (d.setIfInBounds i true) w' ∧ AnyL P md ops Q S g (d.setIfInBounds i true) a' w') a w

theorem AnyL.any : ∀ (g : Nat) (d : Array Bool) (a : Act) (w : World), AnyL P md ops Q S g d a w → wpAny P md ops Q g d a w
  | 0, _, _, _, h => h
  | g + 1, _, _, _, h => ⟨h.1, fun i hi => wpOp_mono (fun a' w' h' => AnyL.any g _ a' w' h'.2) (h.2 i hi)⟩

/-- Number i may be taken first, if it yields its value in every world that meets T, S says T as long as number t has not come up, and t waits for i. -/
theorem AnyL.first {i t : Nat} {oi ot : Oper} {v : Value} {T : World → Prop} (hi : ops[i]? = some oi) (ht : ops[t]? = some ot) (hit : t ≠ i) (hb : ∃ e ∈ ot.after, Region.binds md e = true ∧ e.on = i)
    (hsel : ∀ (j : Nat) (o : Oper) cs b, ops[j]? = some o → o.op ≠ .select cs b) (hQ : ∀ c a w, Q (.panic c) (a.put oi.dst v) w → Q (.panic c) a w)
    (hST : ∀ d w, S d w → d.getD t true = false → T w) (hSi : ∀ d w, S (d.setIfInBounds i true) w ↔ S d w) :
    ∀ (g : Nat) (d : Array Bool) (a : Act) (w : World),
      (∀ j oj, ops[j]? = some oj → j ≠ i → d.getD j true = false → (∀ e ∈ oj.after, Region.binds md e = true → e.on ≠ i) → oi.apart ops oj = true) →
      i ∈ Region.ready md ops d → YieldsIf P ops T oi v a → d.getD t true = false → S d w →
      AnyL P md ops Q S g (d.setIfInBounds i true) (a.put oi.dst v) w → AnyL P md ops Q S (g + 1) d a w := by
  intro g
  induction g with
  | zero =>
    intro d a w _ hr hy hdt hS H
    refine ⟨fun h => (by rw [h] at hr; cases hr), fun j hj => ?_⟩
    by_cases hji : j = i
    · subst hji; exact hy.wpOp hi (hST d w hS hdt) ⟨(hSi d w).2 hS, H⟩
    · have := ready_mono hj hji
      rw [H.1] at this
      cases this
  | succ g ih =>
    intro d a w hfree hr hy hdt hS H
    refine ⟨fun h => (by rw [h] at hr; cases hr), fun j hj => ?_⟩
    by_cases hji : j = i
    · subst hji; exact hy.wpOp hi (hST d w hS hdt) ⟨(hSi d w).2 hS, H⟩
    · have h1 := H.2 j (ready_mono hj hji)
      obtain ⟨hjun, oj, hoj, hall⟩ := mem_ready.1 hj
      have hnot : ∀ e ∈ oj.after, Region.binds md e = true → e.on ≠ i := fun e he hb heq => by
        have h1 := hall e he hb
        have h0 := (mem_ready.1 hr).1
        rw [heq] at h1
        rcases Nat.lt_or_ge i d.size with h' | h'
        · simp [h'] at h0 h1; rw [h0] at h1; cases h1
        · simp [Array.getElem?_eq_none h'] at h1
      have hjt : j ≠ t := fun e9 => by
        subst e9
        rw [ht] at hoj
        injection hoj with hoj
        obtain ⟨e, he, hb1, hb2⟩ := hb
        exact hnot e (by rw [← hoj]; exact he) hb1 hb2
      have h2 := wpOp_putIf hoj (hfree j oj hoj hji hjun hnot) (fun cs b => hsel i oi cs b hi) (fun cs b => hsel j oj cs b hoj) hQ hy h1
      refine wpOp_mono (fun a' w' h3 => ?_) h2
      have hc := Array.setIfInBounds_comm (xs := d) true true hji
      have hS' : S (d.setIfInBounds j true) w' := (hSi _ w').1 (by rw [hc]; exact h3.2.1)
      refine ⟨hS', ih (d.setIfInBounds j true) a' w' (fun k ok hk hki hun hno => ?_) (ready_mono hr (Ne.symm hji)) h3.1 ?_ hS' ?_⟩
      · refine hfree k ok hk hki ?_ hno
        by_cases hjk : j = k
        · subst hjk; exact hjun
        · rw [getD_set_ne true hjk] at hun; exact hun
      · rw [getD_set_ne true hjt]; exact hdt
      · rw [hc]; exact h3.2.2
theorem AnyL.take {i t : Nat} {oi ot : Oper} {v : Value} {T : World → Prop} {g : Nat} {d : Array Bool} {a : Act} {w : World} (hi : ops[i]? = some oi) (ht : ops[t]? = some ot) (hit : t ≠ i) (hs : Region.noSelect ops = true) (hf : Region.free md ops d i = true)
    (hr : (Region.ready md ops d).contains i = true) (hb : ot.after.any (fun e => Region.binds md e && e.on == i) = true) (hQ : ∀ c a w, Q (.panic c) (a.put oi.dst v) w → Q (.panic c) a w)
    (hST : ∀ d w, S d w → d.getD t true = false → T w) (hSi : ∀ d w, S (d.setIfInBounds i true) w ↔ S d w) (hy : YieldsIf P ops T oi v a) (hd : d.getD t true = false) (hS : S d w)
    (h : AnyL P md ops Q S g (d.setIfInBounds i true) (a.put oi.dst v) w) : AnyL P md ops Q S (g + 1) d a w := by
  refine AnyL.first hi ht hit ?_ (Region.noSelect_spec hs) hQ hST hSi g d a w (Region.free_spec hi hf) (by simpa using hr) hy hd hS h
  obtain ⟨e, he, h9⟩ := Array.any_eq_true'.1 hb
  simp only [Bool.and_eq_true, beq_iff_eq] at h9
  exact ⟨e, he, h9⟩
theorem AnyL.forced {i : Nat} {o : Oper} {g : Nat} {d : Array Bool} {a : Act} {w : World} (hr : Region.ready md ops d = [i]) (ho : ops[i]? = some o) (hg : o.guard = none)
    (h : ∀ K : Act → World → Prop, (∀ a' w', S (d.setIfInBounds i true) w' → AnyL P md ops Q S g (d.setIfInBounds i true) a' w' → K a' w') → o.wp P a w K Q) : AnyL P md ops Q S (g + 1) d a w := by
  refine ⟨fun h0 => (by rw [hr] at h0; cases h0), fun j hj => ?_⟩
  rw [hr] at hj
  obtain rfl : j = i := by simpa using hj
  refine wpOp_step ho (fun K' hK => ?_)
  rw [if_pos (by unfold Region.wanted; rw [hg])]
  exact h K' (fun a' w' h1 h2 => hK a' w' ⟨h1, h2⟩)
end

section
variable {P : Program} {Q : Exit → Act → World → Prop}
theorem wp_swap8 {id : Nat} {o0 o1 o2 o3 o4 o5 o6 o7 : Oper} {a : Act} {w : World} (T4 T6 : World → Prop) (hm : P.follows .mixedOrders = true) (hs : Region.noSelect #[o0, o1, o2, o3, o4, o5, o6, o7] = true)
    (f0 : Region.free .any #[o0, o1, o2, o3, o4, o5, o6, o7] #[false, false, false, false, false, false, false, false] 0 = true) (r0 : (Region.ready .any #[o0, o1, o2, o3, o4, o5, o6, o7] #[false, false, false, false, false, false, false, false]).contains 0 = true) (e0 : o4.after.any (fun e => Region.binds .any e && e.on == 0) = true)
    (f1 : Region.free .any #[o0, o1, o2, o3, o4, o5, o6, o7] #[true, false, false, false, false, false, false, false] 1 = true) (r1 : (Region.ready .any #[o0, o1, o2, o3, o4, o5, o6, o7] #[true, false, false, false, false, false, false, false]).contains 1 = true) (e1 : o4.after.any (fun e => Region.binds .any e && e.on == 1) = true)
    (f2 : Region.free .any #[o0, o1, o2, o3, o4, o5, o6, o7] #[true, true, false, false, false, false, false, false] 2 = true) (r2 : (Region.ready .any #[o0, o1, o2, o3, o4, o5, o6, o7] #[true, true, false, false, false, false, false, false]).contains 2 = true) (e2 : o6.after.any (fun e => Region.binds .any e && e.on == 2) = true)
    (f3 : Region.free .any #[o0, o1, o2, o3, o4, o5, o6, o7] #[true, true, true, false, false, false, false, false] 3 = true) (r3 : (Region.ready .any #[o0, o1, o2, o3, o4, o5, o6, o7] #[true, true, true, false, false, false, false, false]).contains 3 = true) (e3 : o4.after.any (fun e => Region.binds .any e && e.on == 3) = true)
    (r4 : Region.ready .any #[o0, o1, o2, o3, o4, o5, o6, o7] #[true, true, true, true, false, false, false, false] = [4]) (g4 : o4.guard = none)
    (r5 : Region.ready .any #[o0, o1, o2, o3, o4, o5, o6, o7] #[true, true, true, true, true, false, false, false] = [5]) (g5 : o5.guard = none)
    (r6 : Region.ready .any #[o0, o1, o2, o3, o4, o5, o6, o7] #[true, true, true, true, true, true, false, false] = [6]) (g6 : o6.guard = none)
    (r7 : Region.ready .any #[o0, o1, o2, o3, o4, o5, o6, o7] #[true, true, true, true, true, true, true, false] = [7]) (g7 : o7.guard = none)
    (rr : Region.ready .any #[o0, o1, o2, o3, o4, o5, o6, o7] #[true, true, true, true, true, true, true, true] = []) (hT4 : T4 w.drew) (hT6 : T6 w.drew) (v0 v1 v2 v3 : Value) (A0 A1 A2 A3 : Act)
    (p0 : a.put o0.dst v0 = A0) (p1 : A0.put o1.dst v1 = A1) (p2 : A1.put o2.dst v2 = A2) (p3 : A2.put o3.dst v3 = A3)
    (hy0 : YieldsIf P #[o0, o1, o2, o3, o4, o5, o6, o7] T4 o0 v0 a) (hy1 : YieldsIf P #[o0, o1, o2, o3, o4, o5, o6, o7] T4 o1 v1 A0) (hy2 : YieldsIf P #[o0, o1, o2, o3, o4, o5, o6, o7] T6 o2 v2 A1) (hy3 : YieldsIf P #[o0, o1, o2, o3, o4, o5, o6, o7] T4 o3 v3 A2)
    (W1 W2 W3 W4 : World) (s4 : ∀ K : Act → World → Prop, K A3 W1 → o4.wp P A3 w.drew K (NoPanic Q)) (k4 : T6 W1) (s5 : ∀ K : Act → World → Prop, K A3 W2 → o5.wp P A3 W1 K (NoPanic Q)) (k5 : T6 W2)
    (s6 : ∀ K : Act → World → Prop, K A3 W3 → o6.wp P A3 W2 K (NoPanic Q)) (s7 : ∀ K : Act → World → Prop, K A3 W4 → o7.wp P A3 W3 K (NoPanic Q)) (h : Q .normal A3 W4) :
    (Code.region id #[o0, o1, o2, o3, o4, o5, o6, o7] true).wp P Q a w := by
  subst p0 p1 p2 p3
  refine wp_region_noPanic ?_
  refine wp_region_any hm ?_
  refine AnyL.any (S := fun d w' => (d.getD 4 true = false → T4 w') ∧ (d.getD 6 true = false → T6 w')) _ _ _ _ ?_
  show AnyL P .any #[o0, o1, o2, o3, o4, o5, o6, o7] (NoPanic Q) _ 8 #[false, false, false, false, false, false, false, false] a w.drew
  have hSi : ∀ i, i ≠ 4 → i ≠ 6 → ∀ (d : Array Bool) (w' : World), (((d.setIfInBounds i true).getD 4 true = false → T4 w') ∧ ((d.setIfInBounds i true).getD 6 true = false → T6 w')) ↔ ((d.getD 4 true = false → T4 w') ∧ (d.getD 6 true = false → T6 w')) := by
    intro i h4 h6 d w'
    rw [getD_set_ne true h4, getD_set_ne true h6]
  have hS0 : ∀ d : Array Bool, (d.getD 4 true = false → T4 w.drew) ∧ (d.getD 6 true = false → T6 w.drew) := fun d => ⟨fun _ => hT4, fun _ => hT6⟩
  refine AnyL.take (i := 0) (t := 4) (oi := o0) (ot := o4) (T := T4) rfl rfl (by decide) hs f0 r0 e0 (fun _ _ _ h => h) (fun d w' h9 hd => h9.1 hd) (hSi 0 (by decide) (by decide)) hy0 rfl (hS0 _) ?_
  refine AnyL.take (i := 1) (t := 4) (oi := o1) (ot := o4) (T := T4) rfl rfl (by decide) hs f1 r1 e1 (fun _ _ _ h => h) (fun d w' h9 hd => h9.1 hd) (hSi 1 (by decide) (by decide)) hy1 rfl (hS0 _) ?_
  refine AnyL.take (i := 2) (t := 6) (oi := o2) (ot := o6) (T := T6) rfl rfl (by decide) hs f2 r2 e2 (fun _ _ _ h => h) (fun d w' h9 hd => h9.2 hd) (hSi 2 (by decide) (by decide)) hy2 rfl (hS0 _) ?_
  refine AnyL.take (i := 3) (t := 4) (oi := o3) (ot := o4) (T := T4) rfl rfl (by decide) hs f3 r3 e3 (fun _ _ _ h => h) (fun d w' h9 hd => h9.1 hd) (hSi 3 (by decide) (by decide)) hy3 rfl (hS0 _) ?_
  refine AnyL.forced r4 rfl g4 (fun K hK => s4 K (hK _ _ ⟨fun h9 => (by cases h9), fun _ => k4⟩ ?_))
  refine AnyL.forced r5 rfl g5 (fun K hK => s5 K (hK _ _ ⟨fun h9 => (by cases h9), fun _ => k5⟩ ?_))
  refine AnyL.forced r6 rfl g6 (fun K hK => s6 K (hK _ _ ⟨fun h9 => (by cases h9), fun h9 => (by cases h9)⟩ ?_))
  refine AnyL.forced r7 rfl g7 (fun K hK => s7 K (hK _ _ ⟨fun h9 => (by cases h9), fun h9 => (by cases h9)⟩ ?_))
  exact ⟨rr, NoPanic.normal h⟩
theorem wp_asg4 {id : Nat} {o0 o1 o2 o3 : Oper} {a : Act} {w : World} (S : World → Prop) (hm : P.follows .mixedOrders = true) (hs : Region.noSelect #[o0, o1, o2, o3] = true)
    (f0 : Region.free .any #[o0, o1, o2, o3] #[false, false, false, false] 0 = true) (r0 : (Region.ready .any #[o0, o1, o2, o3] #[false, false, false, false]).contains 0 = true) (f1 : Region.free .any #[o0, o1, o2, o3] #[true, false, false, false] 1 = true) (r1 : (Region.ready .any #[o0, o1, o2, o3] #[true, false, false, false]).contains 1 = true)
    (r2 : Region.ready .any #[o0, o1, o2, o3] #[true, true, false, false] = [2]) (r3 : Region.ready .any #[o0, o1, o2, o3] #[true, true, true, false] = [3]) (rr : Region.ready .any #[o0, o1, o2, o3] #[true, true, true, true] = []) (g2 : o2.guard = none) (g3 : o3.guard = none)
    (hS : S w.drew) (v0 v1 : Value) (A0 A1 : Act) (p0 : a.put o0.dst v0 = A0) (p1 : A0.put o1.dst v1 = A1) (hy0 : YieldsIf P #[o0, o1, o2, o3] S o0 v0 a) (hy1 : YieldsIf P #[o0, o1, o2, o3] S o1 v1 A0)
    (W1 W2 : World) (s2 : ∀ K : Act → World → Prop, K A1 W1 → o2.wp P A1 w.drew K (NoPanic Q)) (k2 : S W1) (s3 : ∀ K : Act → World → Prop, K A1 W2 → o3.wp P A1 W1 K (NoPanic Q)) (k3 : S W2) (h : Q .normal A1 W2) :
    (Code.region id #[o0, o1, o2, o3] true).wp P Q a w := by
  subst p0 p1
  refine wp_region_noPanic ?_
  refine wp_region_held_drew (S := S) hm hS (fun hH => ?_)
  show wpAnyH P .any #[o0, o1, o2, o3] (NoPanic Q) S 4 #[false, false, false, false] a w.drew
  refine wpAnyH_take (i := 0) (oi := o0) rfl hs f0 r0 (fun _ _ _ h => h) hy0 hS ?_
  refine wpAnyH_take (i := 1) (oi := o1) rfl hs f1 r1 (fun _ _ _ h => h) hy1 hS ?_
  refine wpAnyH_ready (rs := [2]) r2 (by simp) (AllReadyH.cons (o := o2) rfl (fun K hK => ?_) AllReadyH.nil)
  have wa : ∀ y, Region.wanted o2 y = true := fun y => by unfold Region.wanted; rw [g2]
  rw [if_pos (wa _)]
  refine s2 K (hK.out _ _ k2 (fun _ => ?_))
  refine wpAnyH_ready (rs := [3]) r3 (by simp) (AllReadyH.cons (o := o3) rfl (fun K hK => ?_) AllReadyH.nil)
  have wb : ∀ y, Region.wanted o3 y = true := fun y => by unfold Region.wanted; rw [g3]
  rw [if_pos (wb _)]
  refine s3 K (hK.out _ _ k3 (fun _ => ?_))
  exact ⟨rr, NoPanic.normal h⟩
end
end Go.Proofs.YtecadmldnjlibaaDoor
/-
  Laws for drawn regions with a late store, by genchain.py. No program.
-/
namespace Go.Proofs.YtecadmldnjlibaaDoor
open Go Go.RowKit Go.BigFrame
set_option linter.unusedVariables false
set_option linter.unusedSimpArgs false
section
variable {P : Program} {Q : Exit → Act → World → Prop}
theorem wp_pu12 {id : Nat} {o0 o1 o2 o3 o4 o5 o6 o7 o8 o9 o10 o11 : Oper} {a : Act} {w : World} (hm : P.follows .mixedOrders = true) (hs : Region.noSelect #[o0, o1, o2, o3, o4, o5, o6, o7, o8, o9, o10, o11] = true)
    (f0 : Region.free .any #[o0, o1, o2, o3, o4, o5, o6, o7, o8, o9, o10, o11] #[false, false, false, false, false, false, false, false, false, false, false, false] 0 = true) (r0 : (Region.ready .any #[o0, o1, o2, o3, o4, o5, o6, o7, o8, o9, o10, o11] #[false, false, false, false, false, false, false, false, false, false, false, false]).contains 0 = true) (e0 : o11.after.any (fun e => Region.binds .any e && e.on == 0) = true)
    (f1 : Region.free .any #[o0, o1, o2, o3, o4, o5, o6, o7, o8, o9, o10, o11] #[true, false, false, false, false, false, false, false, false, false, false, false] 1 = true) (r1 : (Region.ready .any #[o0, o1, o2, o3, o4, o5, o6, o7, o8, o9, o10, o11] #[true, false, false, false, false, false, false, false, false, false, false, false]).contains 1 = true) (e1 : o11.after.any (fun e => Region.binds .any e && e.on == 1) = true)
    (f2 : Region.free .any #[o0, o1, o2, o3, o4, o5, o6, o7, o8, o9, o10, o11] #[true, true, false, false, false, false, false, false, false, false, false, false] 2 = true) (r2 : (Region.ready .any #[o0, o1, o2, o3, o4, o5, o6, o7, o8, o9, o10, o11] #[true, true, false, false, false, false, false, false, false, false, false, false]).contains 2 = true) (e2 : o11.after.any (fun e => Region.binds .any e && e.on == 2) = true)
    (f3 : Region.free .any #[o0, o1, o2, o3, o4, o5, o6, o7, o8, o9, o10, o11] #[true, true, true, false, false, false, false, false, false, false, false, false] 3 = true) (r3 : (Region.ready .any #[o0, o1, o2, o3, o4, o5, o6, o7, o8, o9, o10, o11] #[true, true, true, false, false, false, false, false, false, false, false, false]).contains 3 = true) (e3 : o11.after.any (fun e => Region.binds .any e && e.on == 3) = true)
    (f4 : Region.free .any #[o0, o1, o2, o3, o4, o5, o6, o7, o8, o9, o10, o11] #[true, true, true, true, false, false, false, false, false, false, false, false] 4 = true) (r4 : (Region.ready .any #[o0, o1, o2, o3, o4, o5, o6, o7, o8, o9, o10, o11] #[true, true, true, true, false, false, false, false, false, false, false, false]).contains 4 = true) (e4 : o11.after.any (fun e => Region.binds .any e && e.on == 4) = true)
    (f5 : Region.free .any #[o0, o1, o2, o3, o4, o5, o6, o7, o8, o9, o10, o11] #[true, true, true, true, true, false, false, false, false, false, false, false] 5 = true) (r5 : (Region.ready .any #[o0, o1, o2, o3, o4, o5, o6, o7, o8, o9, o10, o11] #[true, true, true, true, true, false, false, false, false, false, false, false]).contains 5 = true) (e5 : o11.after.any (fun e => Region.binds .any e && e.on == 5) = true)
    (f6 : Region.free .any #[o0, o1, o2, o3, o4, o5, o6, o7, o8, o9, o10, o11] #[true, true, true, true, true, true, false, false, false, false, false, false] 6 = true) (r6 : (Region.ready .any #[o0, o1, o2, o3, o4, o5, o6, o7, o8, o9, o10, o11] #[true, true, true, true, true, true, false, false, false, false, false, false]).contains 6 = true) (e6 : o11.after.any (fun e => Region.binds .any e && e.on == 6) = true)
    (q7 : Region.ready .any #[o0, o1, o2, o3, o4, o5, o6, o7, o8, o9, o10, o11] #[true, true, true, true, true, true, true, false, false, false, false, false] = [7]) (g7 : o7.guard = none)
    (q8 : Region.ready .any #[o0, o1, o2, o3, o4, o5, o6, o7, o8, o9, o10, o11] #[true, true, true, true, true, true, true, true, false, false, false, false] = [8]) (g8 : o8.guard = none)
    (q9 : Region.ready .any #[o0, o1, o2, o3, o4, o5, o6, o7, o8, o9, o10, o11] #[true, true, true, true, true, true, true, true, true, false, false, false] = [9]) (g9 : o9.guard = none)
    (q10 : Region.ready .any #[o0, o1, o2, o3, o4, o5, o6, o7, o8, o9, o10, o11] #[true, true, true, true, true, true, true, true, true, true, false, false] = [10]) (g10 : o10.guard = none)
    (q11 : Region.ready .any #[o0, o1, o2, o3, o4, o5, o6, o7, o8, o9, o10, o11] #[true, true, true, true, true, true, true, true, true, true, true, false] = [11]) (g11 : o11.guard = none)
    (rr : Region.ready .any #[o0, o1, o2, o3, o4, o5, o6, o7, o8, o9, o10, o11] #[true, true, true, true, true, true, true, true, true, true, true, true] = [])
    (v0 v1 v2 v3 v4 v5 v6 : Value) (A0 A1 A2 A3 A4 A5 A6 : Act) (T : World → Prop)
    (I0 : World → Prop)
    (I1 : Value → World → Prop)
    (I2 : Value → Value → World → Prop)
    (I3 : Value → Value → Value → World → Prop)
    (I4 : Value → Value → Value → Value → World → Prop)
    (IE : Value → Value → Value → Value → World → Prop)
    (p0 : a.put o0.dst v0 = A0) (hy0 : YieldsIf P #[o0, o1, o2, o3, o4, o5, o6, o7, o8, o9, o10, o11] T o0 v0 a)
    (p1 : A0.put o1.dst v1 = A1) (hy1 : YieldsIf P #[o0, o1, o2, o3, o4, o5, o6, o7, o8, o9, o10, o11] T o1 v1 A0)
    (p2 : A1.put o2.dst v2 = A2) (hy2 : YieldsIf P #[o0, o1, o2, o3, o4, o5, o6, o7, o8, o9, o10, o11] T o2 v2 A1)
    (p3 : A2.put o3.dst v3 = A3) (hy3 : YieldsIf P #[o0, o1, o2, o3, o4, o5, o6, o7, o8, o9, o10, o11] T o3 v3 A2)
    (p4 : A3.put o4.dst v4 = A4) (hy4 : YieldsIf P #[o0, o1, o2, o3, o4, o5, o6, o7, o8, o9, o10, o11] T o4 v4 A3)
    (p5 : A4.put o5.dst v5 = A5) (hy5 : YieldsIf P #[o0, o1, o2, o3, o4, o5, o6, o7, o8, o9, o10, o11] T o5 v5 A4)
    (p6 : A5.put o6.dst v6 = A6) (hy6 : YieldsIf P #[o0, o1, o2, o3, o4, o5, o6, o7, o8, o9, o10, o11] T o6 v6 A5)
    (i0 : I0 w.drew)
    (hIT : (∀ w', I0  w' → T w') ∧ (∀ (u0 : Value) w', I1 u0 w' → T w') ∧ (∀ (u0 u1 : Value) w', I2 u0 u1 w' → T w') ∧ (∀ (u0 u1 u2 : Value) w', I3 u0 u1 u2 w' → T w') ∧ (∀ (u0 u1 u2 u3 : Value) w', I4 u0 u1 u2 u3 w' → T w'))
    (s0 : ∀ w', I0  w' → ∀ K : Act → World → Prop, (∀ (u0 : Value) w2, I1 u0 w2 → K (A6.put o7.dst u0) w2) → o7.wp P A6 w' K (NoPanic Q))
    (s1 : ∀ (u0 : Value) w', I1 u0 w' → ∀ K : Act → World → Prop, (∀ (u1 : Value) w2, I2 u0 u1 w2 → K ((A6.put o7.dst u0).put o8.dst u1) w2) → o8.wp P (A6.put o7.dst u0) w' K (NoPanic Q))
    (s2 : ∀ (u0 u1 : Value) w', I2 u0 u1 w' → ∀ K : Act → World → Prop, (∀ (u2 : Value) w2, I3 u0 u1 u2 w2 → K (((A6.put o7.dst u0).put o8.dst u1).put o9.dst u2) w2) → o9.wp P ((A6.put o7.dst u0).put o8.dst u1) w' K (NoPanic Q))
    (s3 : ∀ (u0 u1 u2 : Value) w', I3 u0 u1 u2 w' → ∀ K : Act → World → Prop, (∀ (u3 : Value) w2, I4 u0 u1 u2 u3 w2 → K ((((A6.put o7.dst u0).put o8.dst u1).put o9.dst u2).put o10.dst u3) w2) → o10.wp P (((A6.put o7.dst u0).put o8.dst u1).put o9.dst u2) w' K (NoPanic Q))
    (se : ∀ (u0 u1 u2 u3 : Value) w', I4 u0 u1 u2 u3 w' → ∀ K : Act → World → Prop, (∀ w2, IE u0 u1 u2 u3 w2 → K ((((A6.put o7.dst u0).put o8.dst u1).put o9.dst u2).put o10.dst u3) w2) → o11.wp P ((((A6.put o7.dst u0).put o8.dst u1).put o9.dst u2).put o10.dst u3) w' K (NoPanic Q))
    (h : ∀ (u0 u1 u2 u3 : Value) w', IE u0 u1 u2 u3 w' → Q .normal ((((A6.put o7.dst u0).put o8.dst u1).put o9.dst u2).put o10.dst u3) w') :
    (Code.region id #[o0, o1, o2, o3, o4, o5, o6, o7, o8, o9, o10, o11] true).wp P Q a w := by
  subst p0 p1 p2 p3 p4 p5 p6
  obtain ⟨z0, z1, z2, z3, z4⟩ := hIT
  refine wp_region_noPanic ?_
  refine wp_region_any hm ?_
  refine AnyL.any (S := fun d w' => d.getD 11 true = false → T w') _ _ _ _ ?_
  show AnyL P .any #[o0, o1, o2, o3, o4, o5, o6, o7, o8, o9, o10, o11] (NoPanic Q) _ 12 #[false, false, false, false, false, false, false, false, false, false, false, false] a w.drew
  have hSi : ∀ i, i ≠ 11 → ∀ (d : Array Bool) (w' : World), ((d.setIfInBounds i true).getD 11 true = false → T w') ↔ (d.getD 11 true = false → T w') := by
    intro i h4 d w'
    rw [getD_set_ne true h4]
  refine AnyL.take (i := 0) (t := 11) (oi := o0) (ot := o11) (T := T) rfl rfl (by decide) hs f0 r0 e0 (fun _ _ _ h => h) (fun d w' h9 hd => h9 hd) (hSi 0 (by decide)) hy0 rfl (fun _ => z0 _ i0) ?_
  refine AnyL.take (i := 1) (t := 11) (oi := o1) (ot := o11) (T := T) rfl rfl (by decide) hs f1 r1 e1 (fun _ _ _ h => h) (fun d w' h9 hd => h9 hd) (hSi 1 (by decide)) hy1 rfl (fun _ => z0 _ i0) ?_
  refine AnyL.take (i := 2) (t := 11) (oi := o2) (ot := o11) (T := T) rfl rfl (by decide) hs f2 r2 e2 (fun _ _ _ h => h) (fun d w' h9 hd => h9 hd) (hSi 2 (by decide)) hy2 rfl (fun _ => z0 _ i0) ?_
  refine AnyL.take (i := 3) (t := 11) (oi := o3) (ot := o11) (T := T) rfl rfl (by decide) hs f3 r3 e3 (fun _ _ _ h => h) (fun d w' h9 hd => h9 hd) (hSi 3 (by decide)) hy3 rfl (fun _ => z0 _ i0) ?_
  refine AnyL.take (i := 4) (t := 11) (oi := o4) (ot := o11) (T := T) rfl rfl (by decide) hs f4 r4 e4 (fun _ _ _ h => h) (fun d w' h9 hd => h9 hd) (hSi 4 (by decide)) hy4 rfl (fun _ => z0 _ i0) ?_
  refine AnyL.take (i := 5) (t := 11) (oi := o5) (ot := o11) (T := T) rfl rfl (by decide) hs f5 r5 e5 (fun _ _ _ h => h) (fun d w' h9 hd => h9 hd) (hSi 5 (by decide)) hy5 rfl (fun _ => z0 _ i0) ?_
  refine AnyL.take (i := 6) (t := 11) (oi := o6) (ot := o11) (T := T) rfl rfl (by decide) hs f6 r6 e6 (fun _ _ _ h => h) (fun d w' h9 hd => h9 hd) (hSi 6 (by decide)) hy6 rfl (fun _ => z0 _ i0) ?_
  refine AnyL.forced q7 rfl g7 (fun K hK => s0  w.drew i0 K (fun u0 w1 i1 => hK _ _ (fun _ => z1 u0 w1 i1) ?_))
  refine AnyL.forced q8 rfl g8 (fun K hK => s1 u0 w1 i1 K (fun u1 w2 i2 => hK _ _ (fun _ => z2 u0 u1 w2 i2) ?_))
  refine AnyL.forced q9 rfl g9 (fun K hK => s2 u0 u1 w2 i2 K (fun u2 w3 i3 => hK _ _ (fun _ => z3 u0 u1 u2 w3 i3) ?_))
  refine AnyL.forced q10 rfl g10 (fun K hK => s3 u0 u1 u2 w3 i3 K (fun u3 w4 i4 => hK _ _ (fun _ => z4 u0 u1 u2 u3 w4 i4) ?_))
  refine AnyL.forced q11 rfl g11 (fun K hK => se u0 u1 u2 u3 w4 i4 K (fun we ie => hK _ _ (fun h9 => (by cases h9)) ?_))
  exact ⟨rr, NoPanic.normal (h u0 u1 u2 u3 we ie)⟩

end
end Go.Proofs.YtecadmldnjlibaaDoor
/-
  Laws for drawn regions, by genreg.py. No program.
-/
namespace Go.Proofs.YtecadmldnjlibaaDoor
open Go Go.RowKit Go.BigFrame
set_option linter.unusedVariables false
set_option linter.unusedSimpArgs false
section
variable {P : Program} {Q : Exit → Act → World → Prop}
theorem wp_pu19 {id : Nat} {o0 o1 o2 o3 o4 o5 o6 o7 o8 o9 o10 o11 o12 o13 o14 o15 o16 o17 o18 : Oper} {a : Act} {w : World} (hm : P.follows .mixedOrders = true) (hs : Region.noSelect #[o0, o1, o2, o3, o4, o5, o6, o7, o8, o9, o10, o11, o12, o13, o14, o15, o16, o17, o18] = true)
    (f0 : Region.free .any #[o0, o1, o2, o3, o4, o5, o6, o7, o8, o9, o10, o11, o12, o13, o14, o15, o16, o17, o18] #[false, false, false, false, false, false, false, false, false, false, false, false, false, false, false, false, false, false, false] 0 = true) (r0 : (Region.ready .any #[o0, o1, o2, o3, o4, o5, o6, o7, o8, o9, o10, o11, o12, o13, o14, o15, o16, o17, o18] #[false, false, false, false, false, false, false, false, false, false, false, false, false, false, false, false, false, false, false]).contains 0 = true)
    (f1 : Region.free .any #[o0, o1, o2, o3, o4, o5, o6, o7, o8, o9, o10, o11, o12, o13, o14, o15, o16, o17, o18] #[true, false, false, false, false, false, false, false, false, false, false, false, false, false, false, false, false, false, false] 1 = true) (r1 : (Region.ready .any #[o0, o1, o2, o3, o4, o5, o6, o7, o8, o9, o10, o11, o12, o13, o14, o15, o16, o17, o18] #[true, false, false, false, false, false, false, false, false, false, false, false, false, false, false, false, false, false, false]).contains 1 = true)
    (f2 : Region.free .any #[o0, o1, o2, o3, o4, o5, o6, o7, o8, o9, o10, o11, o12, o13, o14, o15, o16, o17, o18] #[true, true, false, false, false, false, false, false, false, false, false, false, false, false, false, false, false, false, false] 2 = true) (r2 : (Region.ready .any #[o0, o1, o2, o3, o4, o5, o6, o7, o8, o9, o10, o11, o12, o13, o14, o15, o16, o17, o18] #[true, true, false, false, false, false, false, false, false, false, false, false, false, false, false, false, false, false, false]).contains 2 = true)
    (f3 : Region.free .any #[o0, o1, o2, o3, o4, o5, o6, o7, o8, o9, o10, o11, o12, o13, o14, o15, o16, o17, o18] #[true, true, true, false, false, false, false, false, false, false, false, false, false, false, false, false, false, false, false] 3 = true) (r3 : (Region.ready .any #[o0, o1, o2, o3, o4, o5, o6, o7, o8, o9, o10, o11, o12, o13, o14, o15, o16, o17, o18] #[true, true, true, false, false, false, false, false, false, false, false, false, false, false, false, false, false, false, false]).contains 3 = true)
    (f4 : Region.free .any #[o0, o1, o2, o3, o4, o5, o6, o7, o8, o9, o10, o11, o12, o13, o14, o15, o16, o17, o18] #[true, true, true, true, false, false, false, false, false, false, false, false, false, false, false, false, false, false, false] 4 = true) (r4 : (Region.ready .any #[o0, o1, o2, o3, o4, o5, o6, o7, o8, o9, o10, o11, o12, o13, o14, o15, o16, o17, o18] #[true, true, true, true, false, false, false, false, false, false, false, false, false, false, false, false, false, false, false]).contains 4 = true)
    (f5 : Region.free .any #[o0, o1, o2, o3, o4, o5, o6, o7, o8, o9, o10, o11, o12, o13, o14, o15, o16, o17, o18] #[true, true, true, true, true, false, false, false, false, false, false, false, false, false, false, false, false, false, false] 5 = true) (r5 : (Region.ready .any #[o0, o1, o2, o3, o4, o5, o6, o7, o8, o9, o10, o11, o12, o13, o14, o15, o16, o17, o18] #[true, true, true, true, true, false, false, false, false, false, false, false, false, false, false, false, false, false, false]).contains 5 = true)
    (f6 : Region.free .any #[o0, o1, o2, o3, o4, o5, o6, o7, o8, o9, o10, o11, o12, o13, o14, o15, o16, o17, o18] #[true, true, true, true, true, true, false, false, false, false, false, false, false, false, false, false, false, false, false] 6 = true) (r6 : (Region.ready .any #[o0, o1, o2, o3, o4, o5, o6, o7, o8, o9, o10, o11, o12, o13, o14, o15, o16, o17, o18] #[true, true, true, true, true, true, false, false, false, false, false, false, false, false, false, false, false, false, false]).contains 6 = true)
    (f7 : Region.free .any #[o0, o1, o2, o3, o4, o5, o6, o7, o8, o9, o10, o11, o12, o13, o14, o15, o16, o17, o18] #[true, true, true, true, true, true, true, false, false, false, false, false, false, false, false, false, false, false, false] 7 = true) (r7 : (Region.ready .any #[o0, o1, o2, o3, o4, o5, o6, o7, o8, o9, o10, o11, o12, o13, o14, o15, o16, o17, o18] #[true, true, true, true, true, true, true, false, false, false, false, false, false, false, false, false, false, false, false]).contains 7 = true)
    (f8 : Region.free .any #[o0, o1, o2, o3, o4, o5, o6, o7, o8, o9, o10, o11, o12, o13, o14, o15, o16, o17, o18] #[true, true, true, true, true, true, true, true, false, false, false, false, false, false, false, false, false, false, false] 8 = true) (r8 : (Region.ready .any #[o0, o1, o2, o3, o4, o5, o6, o7, o8, o9, o10, o11, o12, o13, o14, o15, o16, o17, o18] #[true, true, true, true, true, true, true, true, false, false, false, false, false, false, false, false, false, false, false]).contains 8 = true)
    (f9 : Region.free .any #[o0, o1, o2, o3, o4, o5, o6, o7, o8, o9, o10, o11, o12, o13, o14, o15, o16, o17, o18] #[true, true, true, true, true, true, true, true, true, false, false, false, false, false, false, false, false, false, false] 9 = true) (r9 : (Region.ready .any #[o0, o1, o2, o3, o4, o5, o6, o7, o8, o9, o10, o11, o12, o13, o14, o15, o16, o17, o18] #[true, true, true, true, true, true, true, true, true, false, false, false, false, false, false, false, false, false, false]).contains 9 = true)
    (f10 : Region.free .any #[o0, o1, o2, o3, o4, o5, o6, o7, o8, o9, o10, o11, o12, o13, o14, o15, o16, o17, o18] #[true, true, true, true, true, true, true, true, true, true, false, false, false, false, false, false, false, false, false] 10 = true) (r10 : (Region.ready .any #[o0, o1, o2, o3, o4, o5, o6, o7, o8, o9, o10, o11, o12, o13, o14, o15, o16, o17, o18] #[true, true, true, true, true, true, true, true, true, true, false, false, false, false, false, false, false, false, false]).contains 10 = true)
    (f11 : Region.free .any #[o0, o1, o2, o3, o4, o5, o6, o7, o8, o9, o10, o11, o12, o13, o14, o15, o16, o17, o18] #[true, true, true, true, true, true, true, true, true, true, true, false, false, false, false, false, false, false, false] 11 = true) (r11 : (Region.ready .any #[o0, o1, o2, o3, o4, o5, o6, o7, o8, o9, o10, o11, o12, o13, o14, o15, o16, o17, o18] #[true, true, true, true, true, true, true, true, true, true, true, false, false, false, false, false, false, false, false]).contains 11 = true)
    (f12 : Region.free .any #[o0, o1, o2, o3, o4, o5, o6, o7, o8, o9, o10, o11, o12, o13, o14, o15, o16, o17, o18] #[true, true, true, true, true, true, true, true, true, true, true, true, false, false, false, false, false, false, false] 12 = true) (r12 : (Region.ready .any #[o0, o1, o2, o3, o4, o5, o6, o7, o8, o9, o10, o11, o12, o13, o14, o15, o16, o17, o18] #[true, true, true, true, true, true, true, true, true, true, true, true, false, false, false, false, false, false, false]).contains 12 = true)
    (f13 : Region.free .any #[o0, o1, o2, o3, o4, o5, o6, o7, o8, o9, o10, o11, o12, o13, o14, o15, o16, o17, o18] #[true, true, true, true, true, true, true, true, true, true, true, true, true, false, false, false, false, false, false] 13 = true) (r13 : (Region.ready .any #[o0, o1, o2, o3, o4, o5, o6, o7, o8, o9, o10, o11, o12, o13, o14, o15, o16, o17, o18] #[true, true, true, true, true, true, true, true, true, true, true, true, true, false, false, false, false, false, false]).contains 13 = true)
    (f14 : Region.free .any #[o0, o1, o2, o3, o4, o5, o6, o7, o8, o9, o10, o11, o12, o13, o14, o15, o16, o17, o18] #[true, true, true, true, true, true, true, true, true, true, true, true, true, true, false, false, false, false, false] 14 = true) (r14 : (Region.ready .any #[o0, o1, o2, o3, o4, o5, o6, o7, o8, o9, o10, o11, o12, o13, o14, o15, o16, o17, o18] #[true, true, true, true, true, true, true, true, true, true, true, true, true, true, false, false, false, false, false]).contains 14 = true)
    (q_ : Region.ready .any #[o0, o1, o2, o3, o4, o5, o6, o7, o8, o9, o10, o11, o12, o13, o14, o15, o16, o17, o18] #[true, true, true, true, true, true, true, true, true, true, true, true, true, true, true, false, false, false, false] = [15, 16])
    (q15_ : Region.ready .any #[o0, o1, o2, o3, o4, o5, o6, o7, o8, o9, o10, o11, o12, o13, o14, o15, o16, o17, o18] #[true, true, true, true, true, true, true, true, true, true, true, true, true, true, true, true, false, false, false] = [16])
    (q16_ : Region.ready .any #[o0, o1, o2, o3, o4, o5, o6, o7, o8, o9, o10, o11, o12, o13, o14, o15, o16, o17, o18] #[true, true, true, true, true, true, true, true, true, true, true, true, true, true, true, false, true, false, false] = [15])
    (q15_16_ : Region.ready .any #[o0, o1, o2, o3, o4, o5, o6, o7, o8, o9, o10, o11, o12, o13, o14, o15, o16, o17, o18] #[true, true, true, true, true, true, true, true, true, true, true, true, true, true, true, true, true, false, false] = [17])
    (q15_16_17_ : Region.ready .any #[o0, o1, o2, o3, o4, o5, o6, o7, o8, o9, o10, o11, o12, o13, o14, o15, o16, o17, o18] #[true, true, true, true, true, true, true, true, true, true, true, true, true, true, true, true, true, true, false] = [18])
    (q15_16_17_18_ : Region.ready .any #[o0, o1, o2, o3, o4, o5, o6, o7, o8, o9, o10, o11, o12, o13, o14, o15, o16, o17, o18] #[true, true, true, true, true, true, true, true, true, true, true, true, true, true, true, true, true, true, true] = [])
    (g15 : o15.guard = none)    (g16 : o16.guard = none)    (g17 : o17.guard = none)    (g18 : o18.guard = none)
    (ne16_15 : ∀ d, o16.dst = some d → o15.dst ≠ some d)
    (v0 v1 v2 v3 v4 v5 v6 v7 v8 v9 v10 v11 v12 v13 v14 : Value) (A0 A1 A2 A3 A4 A5 A6 A7 A8 A9 A10 A11 A12 A13 A14 : Act)
    (S : World → Prop)
    (I_ : World → Prop)
    (I15_ : Value → World → Prop)
    (I16_ : Value → World → Prop)
    (I15_16_ : Value → Value → World → Prop)
    (I15_16_17_ : Value → Value → Value → World → Prop)
    (I15_16_17_18_ : Value → Value → Value → Value → World → Prop)
    (p0 : a.put o0.dst v0 = A0) (hy0 : YieldsIf P #[o0, o1, o2, o3, o4, o5, o6, o7, o8, o9, o10, o11, o12, o13, o14, o15, o16, o17, o18] S o0 v0 a)
    (p1 : A0.put o1.dst v1 = A1) (hy1 : YieldsIf P #[o0, o1, o2, o3, o4, o5, o6, o7, o8, o9, o10, o11, o12, o13, o14, o15, o16, o17, o18] S o1 v1 A0)
    (p2 : A1.put o2.dst v2 = A2) (hy2 : YieldsIf P #[o0, o1, o2, o3, o4, o5, o6, o7, o8, o9, o10, o11, o12, o13, o14, o15, o16, o17, o18] S o2 v2 A1)
    (p3 : A2.put o3.dst v3 = A3) (hy3 : YieldsIf P #[o0, o1, o2, o3, o4, o5, o6, o7, o8, o9, o10, o11, o12, o13, o14, o15, o16, o17, o18] S o3 v3 A2)
    (p4 : A3.put o4.dst v4 = A4) (hy4 : YieldsIf P #[o0, o1, o2, o3, o4, o5, o6, o7, o8, o9, o10, o11, o12, o13, o14, o15, o16, o17, o18] S o4 v4 A3)
    (p5 : A4.put o5.dst v5 = A5) (hy5 : YieldsIf P #[o0, o1, o2, o3, o4, o5, o6, o7, o8, o9, o10, o11, o12, o13, o14, o15, o16, o17, o18] S o5 v5 A4)
    (p6 : A5.put o6.dst v6 = A6) (hy6 : YieldsIf P #[o0, o1, o2, o3, o4, o5, o6, o7, o8, o9, o10, o11, o12, o13, o14, o15, o16, o17, o18] S o6 v6 A5)
    (p7 : A6.put o7.dst v7 = A7) (hy7 : YieldsIf P #[o0, o1, o2, o3, o4, o5, o6, o7, o8, o9, o10, o11, o12, o13, o14, o15, o16, o17, o18] S o7 v7 A6)
    (p8 : A7.put o8.dst v8 = A8) (hy8 : YieldsIf P #[o0, o1, o2, o3, o4, o5, o6, o7, o8, o9, o10, o11, o12, o13, o14, o15, o16, o17, o18] S o8 v8 A7)
    (p9 : A8.put o9.dst v9 = A9) (hy9 : YieldsIf P #[o0, o1, o2, o3, o4, o5, o6, o7, o8, o9, o10, o11, o12, o13, o14, o15, o16, o17, o18] S o9 v9 A8)
    (p10 : A9.put o10.dst v10 = A10) (hy10 : YieldsIf P #[o0, o1, o2, o3, o4, o5, o6, o7, o8, o9, o10, o11, o12, o13, o14, o15, o16, o17, o18] S o10 v10 A9)
    (p11 : A10.put o11.dst v11 = A11) (hy11 : YieldsIf P #[o0, o1, o2, o3, o4, o5, o6, o7, o8, o9, o10, o11, o12, o13, o14, o15, o16, o17, o18] S o11 v11 A10)
    (p12 : A11.put o12.dst v12 = A12) (hy12 : YieldsIf P #[o0, o1, o2, o3, o4, o5, o6, o7, o8, o9, o10, o11, o12, o13, o14, o15, o16, o17, o18] S o12 v12 A11)
    (p13 : A12.put o13.dst v13 = A13) (hy13 : YieldsIf P #[o0, o1, o2, o3, o4, o5, o6, o7, o8, o9, o10, o11, o12, o13, o14, o15, o16, o17, o18] S o13 v13 A12)
    (p14 : A13.put o14.dst v14 = A14) (hy14 : YieldsIf P #[o0, o1, o2, o3, o4, o5, o6, o7, o8, o9, o10, o11, o12, o13, o14, o15, o16, o17, o18] S o14 v14 A13)
    (i0 : I_ w.drew)
    (hIS : (∀ w', I_  w' → S w') ∧ (∀ (u15 : Value) w', I15_ u15 w' → S w') ∧ (∀ (u16 : Value) w', I16_ u16 w' → S w') ∧ (∀ (u15 u16 : Value) w', I15_16_ u15 u16 w' → S w') ∧ (∀ (u15 u16 u17 : Value) w', I15_16_17_ u15 u16 u17 w' → S w') ∧ (∀ (u15 u16 u17 u18 : Value) w', I15_16_17_18_ u15 u16 u17 u18 w' → S w'))
    (s_15 : ∀ w', I_  w' → ∀ K : Act → World → Prop, (∀ (u15 : Value) w2, I15_ u15 w2 → K (A14.put o15.dst u15) w2) → o15.wp P A14 w' K (NoPanic Q))
    (s_16 : ∀ w', I_  w' → ∀ K : Act → World → Prop, (∀ (u16 : Value) w2, I16_ u16 w2 → K (A14.put o16.dst u16) w2) → o16.wp P A14 w' K (NoPanic Q))
    (s15_16 : ∀ (u15 : Value) w', I15_ u15 w' → ∀ K : Act → World → Prop, (∀ (u16 : Value) w2, I15_16_ u15 u16 w2 → K ((A14.put o15.dst u15).put o16.dst u16) w2) → o16.wp P (A14.put o15.dst u15) w' K (NoPanic Q))
    (s16_15 : ∀ (u16 : Value) w', I16_ u16 w' → ∀ K : Act → World → Prop, (∀ (u15 : Value) w2, I15_16_ u15 u16 w2 → K ((A14.put o16.dst u16).put o15.dst u15) w2) → o15.wp P (A14.put o16.dst u16) w' K (NoPanic Q))
    (s15_16_17 : ∀ (u15 u16 : Value) w', I15_16_ u15 u16 w' → ∀ K : Act → World → Prop, (∀ (u17 : Value) w2, I15_16_17_ u15 u16 u17 w2 → K (((A14.put o15.dst u15).put o16.dst u16).put o17.dst u17) w2) → o17.wp P ((A14.put o15.dst u15).put o16.dst u16) w' K (NoPanic Q))
    (s15_16_17_18 : ∀ (u15 u16 u17 : Value) w', I15_16_17_ u15 u16 u17 w' → ∀ K : Act → World → Prop, (∀ (u18 : Value) w2, I15_16_17_18_ u15 u16 u17 u18 w2 → K ((((A14.put o15.dst u15).put o16.dst u16).put o17.dst u17).put o18.dst u18) w2) → o18.wp P (((A14.put o15.dst u15).put o16.dst u16).put o17.dst u17) w' K (NoPanic Q))
    (h : ∀ (u15 u16 u17 u18 : Value) w', I15_16_17_18_ u15 u16 u17 u18 w' → Q .normal ((((A14.put o15.dst u15).put o16.dst u16).put o17.dst u17).put o18.dst u18) w') :
    (Code.region id #[o0, o1, o2, o3, o4, o5, o6, o7, o8, o9, o10, o11, o12, o13, o14, o15, o16, o17, o18] true).wp P Q a w := by
  subst p0 p1 p2 p3 p4 p5 p6 p7 p8 p9 p10 p11 p12 p13 p14
  obtain ⟨z_, z15_, z16_, z15_16_, z15_16_17_, z15_16_17_18_⟩ := hIS
  refine wp_region_noPanic ?_
  refine wp_region_held_drew (S := S) hm (z_ _ i0) (fun hH => ?_)
  show wpAnyH P .any #[o0, o1, o2, o3, o4, o5, o6, o7, o8, o9, o10, o11, o12, o13, o14, o15, o16, o17, o18] (NoPanic Q) S 19 #[false, false, false, false, false, false, false, false, false, false, false, false, false, false, false, false, false, false, false] a w.drew
  refine wpAnyH_take (i := 0) (oi := o0) rfl hs f0 r0 (fun _ _ _ h => h) hy0 hH ?_
  refine wpAnyH_take (i := 1) (oi := o1) rfl hs f1 r1 (fun _ _ _ h => h) hy1 hH ?_
  refine wpAnyH_take (i := 2) (oi := o2) rfl hs f2 r2 (fun _ _ _ h => h) hy2 hH ?_
  refine wpAnyH_take (i := 3) (oi := o3) rfl hs f3 r3 (fun _ _ _ h => h) hy3 hH ?_
  refine wpAnyH_take (i := 4) (oi := o4) rfl hs f4 r4 (fun _ _ _ h => h) hy4 hH ?_
  refine wpAnyH_take (i := 5) (oi := o5) rfl hs f5 r5 (fun _ _ _ h => h) hy5 hH ?_
  refine wpAnyH_take (i := 6) (oi := o6) rfl hs f6 r6 (fun _ _ _ h => h) hy6 hH ?_
  refine wpAnyH_take (i := 7) (oi := o7) rfl hs f7 r7 (fun _ _ _ h => h) hy7 hH ?_
  refine wpAnyH_take (i := 8) (oi := o8) rfl hs f8 r8 (fun _ _ _ h => h) hy8 hH ?_
  refine wpAnyH_take (i := 9) (oi := o9) rfl hs f9 r9 (fun _ _ _ h => h) hy9 hH ?_
  refine wpAnyH_take (i := 10) (oi := o10) rfl hs f10 r10 (fun _ _ _ h => h) hy10 hH ?_
  refine wpAnyH_take (i := 11) (oi := o11) rfl hs f11 r11 (fun _ _ _ h => h) hy11 hH ?_
  refine wpAnyH_take (i := 12) (oi := o12) rfl hs f12 r12 (fun _ _ _ h => h) hy12 hH ?_
  refine wpAnyH_take (i := 13) (oi := o13) rfl hs f13 r13 (fun _ _ _ h => h) hy13 hH ?_
  refine wpAnyH_take (i := 14) (oi := o14) rfl hs f14 r14 (fun _ _ _ h => h) hy14 hH ?_
  generalize (((((((((((((((a.put o0.dst v0).put o1.dst v1).put o2.dst v2).put o3.dst v3).put o4.dst v4).put o5.dst v5).put o6.dst v6).put o7.dst v7).put o8.dst v8).put o9.dst v9).put o10.dst v10).put o11.dst v11).put o12.dst v12).put o13.dst v13).put o14.dst v14) = B at *
  have wa15 : ∀ y, Region.wanted o15 y = true := fun y => by unfold Region.wanted; rw [g15]
  have wa16 : ∀ y, Region.wanted o16 y = true := fun y => by unfold Region.wanted; rw [g16]
  have wa17 : ∀ y, Region.wanted o17 y = true := fun y => by unfold Region.wanted; rw [g17]
  have wa18 : ∀ y, Region.wanted o18 y = true := fun y => by unfold Region.wanted; rw [g18]
  have t15_16_17_18_ : ∀ (u15 u16 u17 u18 : Value) w', I15_16_17_18_ u15 u16 u17 u18 w' → wpAnyH P .any #[o0, o1, o2, o3, o4, o5, o6, o7, o8, o9, o10, o11, o12, o13, o14, o15, o16, o17, o18] (NoPanic Q) S 0 #[true, true, true, true, true, true, true, true, true, true, true, true, true, true, true, true, true, true, true] ((((B.put o15.dst u15).put o16.dst u16).put o17.dst u17).put o18.dst u18) w' := by
    intro u15 u16 u17 u18 w0 i0
    exact ⟨q15_16_17_18_, NoPanic.normal (h u15 u16 u17 u18 w0 i0)⟩
  have t15_16_17_ : ∀ (u15 u16 u17 : Value) w', I15_16_17_ u15 u16 u17 w' → wpAnyH P .any #[o0, o1, o2, o3, o4, o5, o6, o7, o8, o9, o10, o11, o12, o13, o14, o15, o16, o17, o18] (NoPanic Q) S 1 #[true, true, true, true, true, true, true, true, true, true, true, true, true, true, true, true, true, true, false] (((B.put o15.dst u15).put o16.dst u16).put o17.dst u17) w' := by
    intro u15 u16 u17 w0 i0
    refine wpAnyH_ready (rs := [18]) q15_16_17_ (by simp) (AllReadyH.cons (o := o18) rfl (fun K hK => ?_) AllReadyH.nil)
    · rw [if_pos (wa18 _)]
      refine s15_16_17_18 u15 u16 u17 w0 i0 K (fun u18 w1 i1 => hK.out _ _ (z15_16_17_18_ u15 u16 u17 u18 w1 i1) (fun _ => ?_))
      clear hK
      exact t15_16_17_18_ u15 u16 u17 u18 w1 i1
  have t15_16_ : ∀ (u15 u16 : Value) w', I15_16_ u15 u16 w' → wpAnyH P .any #[o0, o1, o2, o3, o4, o5, o6, o7, o8, o9, o10, o11, o12, o13, o14, o15, o16, o17, o18] (NoPanic Q) S 2 #[true, true, true, true, true, true, true, true, true, true, true, true, true, true, true, true, true, false, false] ((B.put o15.dst u15).put o16.dst u16) w' := by
    intro u15 u16 w0 i0
    refine wpAnyH_ready (rs := [17]) q15_16_ (by simp) (AllReadyH.cons (o := o17) rfl (fun K hK => ?_) AllReadyH.nil)
    · rw [if_pos (wa17 _)]
      refine s15_16_17 u15 u16 w0 i0 K (fun u17 w1 i1 => hK.out _ _ (z15_16_17_ u15 u16 u17 w1 i1) (fun _ => ?_))
      clear hK
      exact t15_16_17_ u15 u16 u17 w1 i1
  have t16_ : ∀ (u16 : Value) w', I16_ u16 w' → wpAnyH P .any #[o0, o1, o2, o3, o4, o5, o6, o7, o8, o9, o10, o11, o12, o13, o14, o15, o16, o17, o18] (NoPanic Q) S 3 #[true, true, true, true, true, true, true, true, true, true, true, true, true, true, true, false, true, false, false] (B.put o16.dst u16) w' := by
    intro u16 w0 i0
    refine wpAnyH_ready (rs := [15]) q16_ (by simp) (AllReadyH.cons (o := o15) rfl (fun K hK => ?_) AllReadyH.nil)
    · rw [if_pos (wa15 _)]
      refine s16_15 u16 w0 i0 K (fun u15 w1 i1 => hK.out _ _ (z15_16_ u15 u16 w1 i1) (fun _ => ?_))
      clear hK
      rw [Act.put_comm _ _ _ ne16_15]
      exact t15_16_ u15 u16 w1 i1
  have t15_ : ∀ (u15 : Value) w', I15_ u15 w' → wpAnyH P .any #[o0, o1, o2, o3, o4, o5, o6, o7, o8, o9, o10, o11, o12, o13, o14, o15, o16, o17, o18] (NoPanic Q) S 3 #[true, true, true, true, true, true, true, true, true, true, true, true, true, true, true, true, false, false, false] (B.put o15.dst u15) w' := by
    intro u15 w0 i0
    refine wpAnyH_ready (rs := [16]) q15_ (by simp) (AllReadyH.cons (o := o16) rfl (fun K hK => ?_) AllReadyH.nil)
    · rw [if_pos (wa16 _)]
      refine s15_16 u15 w0 i0 K (fun u16 w1 i1 => hK.out _ _ (z15_16_ u15 u16 w1 i1) (fun _ => ?_))
      clear hK
      exact t15_16_ u15 u16 w1 i1
  have t_ : ∀ w', I_  w' → wpAnyH P .any #[o0, o1, o2, o3, o4, o5, o6, o7, o8, o9, o10, o11, o12, o13, o14, o15, o16, o17, o18] (NoPanic Q) S 4 #[true, true, true, true, true, true, true, true, true, true, true, true, true, true, true, false, false, false, false] B w' := by
    intro w0 i0
    refine wpAnyH_ready (rs := [15, 16]) q_ (by simp) (AllReadyH.cons (o := o15) rfl (fun K hK => ?_) (AllReadyH.cons (o := o16) rfl (fun K hK => ?_) AllReadyH.nil))
    · rw [if_pos (wa15 _)]
      refine s_15  w0 i0 K (fun u15 w1 i1 => hK.out _ _ (z15_ u15 w1 i1) (fun _ => ?_))
      clear hK
      exact t15_ u15 w1 i1
    · rw [if_pos (wa16 _)]
      refine s_16  w0 i0 K (fun u16 w1 i1 => hK.out _ _ (z16_ u16 w1 i1) (fun _ => ?_))
      clear hK
      exact t16_ u16 w1 i1
  exact t_ w.drew i0

end
end Go.Proofs.YtecadmldnjlibaaDoor
