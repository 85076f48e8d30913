import Derived.Test.YtdnacefdihipnadWritten
import Derived.ProofKit
import Derived.OpenShut
import Derived.Deep.Slices
namespace Go.Proofs.Ytdnacefdihipnad
open Go.ChangeShapes Go.WideShapes Go.ChangeAt Go.RowKit Go.Deep
set_option linter.unusedVariables false
set_option linter.unusedSimpArgs false

theorem own : ownKnob Try.prog.godebug = none := by kernel_rfl
theorem laidOut : laidOutB Try.prog = true := by kernel_rfl
theorem nat_of_wf {x : Int} (h : (Lit.int .u64 x).wf = true) : ∃ n : Nat, x = n ∧ n < 18446744073709551616 := by
  simp [Lit.wf, IntKind.min, IntKind.max, IntKind.signed, IntKind.bits] at h
  exact ⟨x.toNat, by omega, by omega⟩
theorem byte_of_wf {x : Int} (h : (Lit.int .u8 x).wf = true) : 0 ≤ x ∧ x < 256 := by
  simp [Lit.wf, IntKind.min, IntKind.max, IntKind.signed, IntKind.bits] at h
  exact ⟨by omega, by omega⟩
theorem int_of_wf {x : Int} (h : (Lit.int .i64 x).wf = true) : -9223372036854775808 ≤ x ∧ x ≤ 9223372036854775807 := by
  simp [Lit.wf, IntKind.min, IntKind.max, IntKind.signed, IntKind.bits] at h
  exact ⟨by omega, by omega⟩

theorem bulk_one {H : Type} (d : DataW H) : 1 ≤ Rows.uptoBulk d := by
  cases d with
  | lit l => cases l <;> simp [Rows.uptoBulk]
  | nil => simp [Rows.uptoBulk]
  | ptr d => simp [Rows.uptoBulk]
  | slice elems spare => simp [Rows.uptoBulk]
  | agg parts => simp [Rows.uptoBulk]
  | iface t d => simp [Rows.uptoBulk]
  | map entries => simp [Rows.uptoBulk]
  | held h => simp [Rows.uptoBulk]
theorem bulk_len {H : Type} (l : List (DataW H)) : l.length ≤ Rows.uptoBulkAll l := by
  induction l with
  | nil => simp [Rows.uptoBulkAll]
  | cons x r ih => have := bulk_one x; simp only [Rows.uptoBulkAll, List.length_cons]; omega

section
variable {H : Type} {enc : TypeId × Value → H} {W : World}

/-- Bytes that came in, as the walks want them. -/
theorem open_bytes {fuel : Nat} {cs : List Value} {x : DataW H × List MemPlace} (h : DataW.trod enc Try.prog W 0 (fun _ => true) true fuel 25 cs = some x) (hB : Rows.uptoBulk x.1 ≤ 1048576) :
    ∃ v bs, cs = [v] ∧ Rd W v bs ∧ bs.length + 1 ≤ Rows.uptoBulk x.1 := by
  rcases open_ints Try.underlying25 Try.underlying5 (by kernel_rfl) h with ⟨rfl, rfl⟩ | ⟨a, len, cap, zs, rfl, _, hl, hm, hz, rfl, hcell, hwz⟩
  · exact ⟨_, [], rfl, Rd.nil W, by simp [Rows.uptoBulk]⟩
  · have h1 := bulk_len (lits (H := H) .u8 (zs.take len))
    have h2 : (lits (H := H) .u8 (zs.take len)).length = len := by simp only [lits, List.length_map, List.length_take]; simp at hz; omega
    simp only [Rows.uptoBulk] at hB
    refine ⟨_, (zs.take len).map Int.toNat, rfl, ⟨_, _, _, rfl, ?_, hl, ⟨by unfold maxLen at hm; omega, by omega⟩, by simp, ?_, ?_⟩, ?_⟩
    · simp at hz; simp; omega
    · intro y hy
      obtain ⟨z, hz1, rfl⟩ := List.mem_map.1 hy
      have := byte_of_wf (hwz z (List.mem_of_mem_take hz1)); omega
    · intro hp
      simp at hz
      have hc0 := hcell 0 (by omega)
      obtain ⟨b, off, spot⟩ := a
      have hspot : spot = none := by simpa [Addr.add] using World.cell?_spot hc0
      subst hspot
      refine ⟨b, off, rfl, fun i hi => ?_⟩
      have hc := hcell i (by omega)
      have hzi : i < zs.length := by omega
      rw [Addr.add_mid] at hc
      rw [hc]
      have hw := byte_of_wf (hwz (zs[i]) (List.getElem_mem hzi))
      simp only [List.getD_eq_getElem?_getD, List.getElem?_eq_getElem hzi, Option.getD_some, List.getElem?_map, List.getElem?_take, hi, if_true, Option.map_some]
      simp [u8]; omega
    · simp only [Rows.uptoBulk]
      have : ((zs.take len).map Int.toNat).length = len := by simp at hz; simp; omega
      omega

/-- How much an Op weighs. -/
def wt (ops : List OpD) : Nat := (ops.map fun o => o.p.length + 5).sum

theorem layB_len (k : Int) (x : Nat) (p : List Nat) (hx : x < 18446744073709551616) (hp : p.length < 18446744073709551616) : (layB k x p).length ≤ p.length + 10 := by
  have h1 := uv_len x hx
  have h2 := uv_len p.length hp
  unfold layB
  repeat (first | (split; simp [wide_len]; try omega) | omega)
  all_goals simp

theorem bulk_part {d : DataW H} {l : List (DataW H)} (h : d ∈ l) : Rows.uptoBulk d ≤ Rows.uptoBulkAll l := by
  induction l with
  | nil => cases h
  | cons x r ih =>
    simp only [Rows.uptoBulkAll]
    cases List.mem_cons.1 h with
    | inl e => subst e; omega
    | inr e => have := ih e; omega

theorem wt_le (f : Nat → OpD) (D : Nat → DataW H) (l : List Nat) (h : ∀ i ∈ l, (f i).p.length + 5 ≤ Rows.uptoBulk (D i)) : wt (l.map f) ≤ Rows.uptoBulkAll (l.map D) := by
  induction l with
  | nil => simp [wt, Rows.uptoBulkAll]
  | cons a l ih =>
    have h1 := h a (by simp)
    have h2 := ih (fun i hi => h i (by simp [hi]))
    simp only [wt, List.map_cons, List.sum_cons, Rows.uptoBulkAll] at h2 ⊢
    omega

theorem wt_script (ops : List OpD) (h : ∀ o ∈ ops, o.x < 18446744073709551616 ∧ o.p.length ≤ 1048576) : (scriptB ops).length ≤ 2 * wt ops := by
  induction ops with
  | nil => simp [scriptB]
  | cons o r ih =>
    have h1 := h o (by simp)
    have h2 := ih (fun i hi => h i (by simp [hi]))
    have h3 := layB_len o.k o.x o.p h1.1 (by omega)
    simp only [scriptB, wt, List.flatMap_cons, List.length_append, List.map_cons, List.sum_cons] at h2 ⊢
    omega
theorem wt_mem {ops : List OpD} {o : OpD} (h : o ∈ ops) : o.p.length ≤ wt ops := by
  induction ops with
  | nil => cases h
  | cons a r ih =>
    simp only [wt, List.map_cons, List.sum_cons] at ih ⊢
    cases List.mem_cons.1 h with
    | inl e => subst e; omega
    | inr e => have := ih e; omega
end
end Go.Proofs.Ytdnacefdihipnad
