import Derived.Test.YtbljofojeagdkaaDoorDNrt
namespace Go.Proofs.YtbljofojeagdkaaDoor
open Go.RowKit Go.BigFrame
set_option linter.unusedVariables false
set_option linter.unusedSimpArgs false

/-- The greatest power of two below n. -/
def spl (n : Nat) : Nat := 2 ^ (n - 1).log2
theorem spl_lt {n : Nat} (h : 2 ≤ n) : spl n < n := by
  have := Nat.log2_self_le (n := n - 1) (by omega)
  unfold spl; omega
theorem spl_pos (n : Nat) : 1 ≤ spl n := Nat.one_le_two_pow
theorem spl_two {n : Nat} (h : 2 ≤ n) : n ≤ 2 * spl n := by
  have h1 := Nat.lt_log2_self (n := n - 1)
  unfold spl
  rw [Nat.pow_succ] at h1
  omega
/-- A digest's row. -/
def Dg (d : List Nat) : Prop := d.length = 32 ∧ ∀ x ∈ d, x < 256
def zD : List Nat := List.replicate 32 0
theorem zD_dg : Dg zD := ⟨by simp [zD], fun x hx => by simp [zD] at hx; omega⟩
def nodS (z : Int) (l r : List Nat) : List Nat := sumD z (nodeB z l r)
theorem nodS_dg (z : Int) (l r : List Nat) : Dg (nodS z l r) := by
  refine ⟨sumD_len _ _, ?_⟩
  unfold nodS sumD
  split
  · exact cutL_byte _ _ (hash_byte _)
  · intro x hx; simp at hx; omega
theorem cutL_cutL (k : Nat) (d : List Nat) (hk : k ≤ d.length) : cutL k (cutL k d) = cutL k d := by
  unfold cutL
  rw [List.take_append_of_le_length (by simp; omega), List.take_take, Nat.min_self]
theorem nodS_form {z : Int} (hw : widthB z = true) (l r : List Nat) : formB z (nodS z l r) = true := by
  have hz : 1 ≤ z ∧ z ≤ 32 := by simpa [widthB] using hw
  unfold formB nodS sumD
  simp only [hw, if_true, Bool.true_and, decide_eq_true_eq]
  exact cutL_cutL _ _ (by rw [hash_len]; omega)
/-- The root to which a proof leads, the proof turned round: its last digest first. -/
def clD (z : Int) (leaf : List Nat) : List (List Nat) → Nat → Nat → Option (List Nat)
  | [], _, n => if n = 1 then some leaf else none
  | d :: rest, i, n => if n = 1 then none else if i < spl n then (clD z leaf rest i (spl n)).map (fun x => nodS z x d) else (clD z leaf rest (i - spl n) (n - spl n)).map (fun x => nodS z d x)
/-- The two roots. -/
def twD (z : Int) (old : List Nat) : List (List Nat) → Nat → Nat → Bool → Option (List Nat × List Nat)
  | [], m, n, whole => if m = n ∧ whole = true then some (old, old) else none
  | d :: rest, m, n, whole => if m = n then (if whole = false ∧ rest = [] then some (d, d) else none)
    else if m ≤ spl n then (twD z old rest m (spl n) whole).map (fun x => (x.1, nodS z x.2 d)) else (twD z old rest (m - spl n) (n - spl n) false).map (fun x => (nodS z d x.1, nodS z d x.2))
theorem clD_ok {z : Int} (hw : widthB z = true) {leaf : List Nat} (hl : Dg leaf) (hf : formB z leaf = true) : ∀ (p : List (List Nat)) (i n : Nat) (d : List Nat), clD z leaf p i n = some d → Dg d ∧ formB z d = true
  | [], i, n, d, h => by
    unfold clD at h
    split at h
    · simp only [Option.some.injEq] at h; subst h; exact ⟨hl, hf⟩
    · simp at h
  | x :: r, i, n, d, h => by
    unfold clD at h
    split at h
    · simp at h
    · split at h
      · obtain ⟨y, _, rfl⟩ := Option.map_eq_some_iff.1 h
        exact ⟨nodS_dg _ _ _, nodS_form hw _ _⟩
      · obtain ⟨y, _, rfl⟩ := Option.map_eq_some_iff.1 h
        exact ⟨nodS_dg _ _ _, nodS_form hw _ _⟩
theorem twD_ok {z : Int} (hw : widthB z = true) {old : List Nat} (hl : Dg old) (hf : formB z old = true) : ∀ (p : List (List Nat)) (m n : Nat) (b : Bool) (d : List Nat × List Nat), (∀ x ∈ p, Dg x ∧ formB z x = true) → twD z old p m n b = some d → (Dg d.1 ∧ formB z d.1 = true) ∧ (Dg d.2 ∧ formB z d.2 = true)
  | [], m, n, b, d, hp, h => by
    unfold twD at h
    split at h
    · simp only [Option.some.injEq] at h; subst h; exact ⟨⟨hl, hf⟩, ⟨hl, hf⟩⟩
    · simp at h
  | x :: r, m, n, b, d, hp, h => by
    unfold twD at h
    split at h
    · split at h
      · simp only [Option.some.injEq] at h; subst h; exact ⟨hp x (by simp), hp x (by simp)⟩
      · simp at h
    · split at h
      · obtain ⟨y, hy, rfl⟩ := Option.map_eq_some_iff.1 h
        exact ⟨(twD_ok hw hl hf r _ _ _ y (fun u hu => hp u (by simp [hu])) hy).1, ⟨nodS_dg _ _ _, nodS_form hw _ _⟩⟩
      · obtain ⟨y, hy, rfl⟩ := Option.map_eq_some_iff.1 h
        exact ⟨⟨nodS_dg _ _ _, nodS_form hw _ _⟩, ⟨nodS_dg _ _ _, nodS_form hw _ _⟩⟩
/-- What RootOf answers. -/
def clO (z : Int) (leaf : List Nat) (i n : Nat) (p : List (List Nat)) : Option (List Nat) := clD z leaf p.reverse i n
def rootE (z : Int) (leaf : List Nat) (i n : Nat) (p : List (List Nat)) : Nat := if formedE z (leaf :: p) ≠ 0 then formedE z (leaf :: p) else if n ≤ i then 4 else if (clO z leaf i n p).isSome then 0 else 10
def rootD (z : Int) (leaf : List Nat) (i n : Nat) (p : List (List Nat)) : List Nat := if rootE z leaf i n p = 0 then (clO z leaf i n p).getD zD else zD
/-- What RootsOf answers. -/
def twO (z : Int) (old : List Nat) (m n : Nat) (b : Bool) (p : List (List Nat)) : Option (List Nat × List Nat) := twD z old p.reverse m n b
def rootsE (z : Int) (old : List Nat) (m n : Nat) (p : List (List Nat)) : Nat := if formedE z (old :: p) ≠ 0 then formedE z (old :: p) else if m = 0 ∨ n ≤ m then 4 else if (twO z old m n true p).isSome then 0 else 10
def rootsD (z : Int) (old : List Nat) (m n : Nat) (p : List (List Nat)) : List Nat × List Nat := if rootsE z old m n p = 0 then (twO z old m n true p).getD (zD, zD) else (zD, zD)
/-- What Inclusion answers. -/
def incE (z : Int) (leaf : List Nat) (i n : Nat) (p : List (List Nat)) (root : List Nat) : Nat := if formedE z (leaf :: root :: p) ≠ 0 then formedE z (leaf :: root :: p) else if rootE z leaf i n p ≠ 0 then rootE z leaf i n p else if rootD z leaf i n p = root then 0 else 10
/-- What Consistency answers. -/
def conE (z : Int) (m n : Nat) (old root : List Nat) (p : List (List Nat)) : Nat :=
  if formedE z (old :: root :: p) ≠ 0 then formedE z (old :: root :: p) else if n < m then 4 else if m = n then (if p = [] ∧ old = root then 0 else 10) else if m = 0 then (if p = [] ∧ old = sumD z [] then 0 else 10) else
    if rootsE z old m n p ≠ 0 then rootsE z old m n p else if (rootsD z old m n p).1 = old ∧ (rootsD z old m n p).2 = root then 0 else 10
theorem formedE_cases (z : Int) (ds : List (List Nat)) : formedE z ds = 0 ∨ formedE z ds = 1 ∨ formedE z ds = 3 := by
  unfold formedE; split; simp; split <;> simp
theorem formedE_zero {z : Int} {ds : List (List Nat)} (h : formedE z ds = 0) : widthB z = true ∧ ∀ d ∈ ds, formB z d = true := by
  unfold formedE at h
  split at h
  · simp at h
  · rename_i h1
    split at h
    · rename_i h2
      exact ⟨by simpa using h1, List.all_eq_true.1 h2⟩
    · simp at h
end Go.Proofs.YtbljofojeagdkaaDoor
