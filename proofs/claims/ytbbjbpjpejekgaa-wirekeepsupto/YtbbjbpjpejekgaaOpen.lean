import Derived.Test.YtbbjbpjpejekgaaWritten
import Derived.ProofKit
import Derived.OpenShut
import Derived.Deep.Slices
namespace Go.Proofs.Ytbbjbpjpejekgaa
open Go.ChangeShapes Go.WideShapes Go.ChangeAt Go.RowKit Go.Deep
set_option linter.unusedVariables false
set_option linter.unusedSimpArgs false

theorem own : ownKnob Try.prog.godebug = none := by kernel_rfl
theorem laidOut : laidOutB Try.prog = true := by kernel_rfl
theorem nat_of_wf {x : Int} (h : (Lit.int .u64 x).wf = true) : ∃ n : Nat, x = n ∧ n < 18446744073709551616 := by
  simp [Lit.wf, IntKind.min, IntKind.max, IntKind.signed, IntKind.bits] at h
  exact ⟨x.toNat, by omega, by omega⟩
theorem byte_of_wf {x : Int} (h : (Lit.int .u8 x).wf = true) : 0 ≤ x ∧ x < 256 := by
  simp [Lit.wf, IntKind.min, IntKind.max, IntKind.signed, IntKind.bits] at h
  exact ⟨by omega, by omega⟩
theorem int_of_wf {x : Int} (h : (Lit.int .i64 x).wf = true) : -9223372036854775808 ≤ x ∧ x ≤ 9223372036854775807 := by
  simp [Lit.wf, IntKind.min, IntKind.max, IntKind.signed, IntKind.bits] at h
  exact ⟨by omega, by omega⟩

theorem bulk_one {H : Type} (d : DataW H) : 1 ≤ Rows.uptoBulk d := by
  cases d with
  | lit l => cases l <;> simp [Rows.uptoBulk]
  | nil => simp [Rows.uptoBulk]
  | ptr d => simp [Rows.uptoBulk]
  | slice elems spare => simp [Rows.uptoBulk]
  | agg parts => simp [Rows.uptoBulk]
  | iface t d => simp [Rows.uptoBulk]
  | map entries => simp [Rows.uptoBulk]
  | held h => simp [Rows.uptoBulk]
theorem bulk_len {H : Type} (l : List (DataW H)) : l.length ≤ Rows.uptoBulkAll l := by
  induction l with
  | nil => simp [Rows.uptoBulkAll]
  | cons x r ih => have := bulk_one x; simp only [Rows.uptoBulkAll, List.length_cons]; omega

section
variable {H : Type} {enc : TypeId × Value → H} {W : World}

/-- Bytes that came in, as the walks want them. -/
theorem open_bytes {fuel : Nat} {cs : List Value} {x : DataW H × List MemPlace} (h : DataW.trod enc Try.prog W 0 (fun _ => true) true fuel 22 cs = some x) (hB : Rows.uptoBulk x.1 ≤ 1048576) :
    ∃ v bs, cs = [v] ∧ Rd W v bs ∧ bs.length + 1 ≤ Rows.uptoBulk x.1 := by
  rcases open_ints Try.underlying22 Try.underlying5 (by kernel_rfl) h with ⟨rfl, rfl⟩ | ⟨a, len, cap, zs, rfl, _, hl, hm, hz, rfl, hcell, hwz⟩
  · exact ⟨_, [], rfl, Rd.nil W, by simp [Rows.uptoBulk]⟩
  · have h1 := bulk_len (lits (H := H) .u8 (zs.take len))
    have h2 : (lits (H := H) .u8 (zs.take len)).length = len := by simp only [lits, List.length_map, List.length_take]; simp at hz; omega
    simp only [Rows.uptoBulk] at hB
    refine ⟨_, (zs.take len).map Int.toNat, rfl, ⟨_, _, _, rfl, ?_, hl, ⟨by unfold maxLen at hm; omega, by omega⟩, by simp, ?_, ?_⟩, ?_⟩
    · simp at hz; simp; omega
    · intro y hy
      obtain ⟨z, hz1, rfl⟩ := List.mem_map.1 hy
      have := byte_of_wf (hwz z (List.mem_of_mem_take hz1)); omega
    · intro hp
      simp at hz
      have hc0 := hcell 0 (by omega)
      obtain ⟨b, off, spot⟩ := a
      have hspot : spot = none := by simpa [Addr.add] using World.cell?_spot hc0
      subst hspot
      refine ⟨b, off, rfl, fun i hi => ?_⟩
      have hc := hcell i (by omega)
      have hzi : i < zs.length := by omega
      rw [Addr.add_mid] at hc
      rw [hc]
      have hw := byte_of_wf (hwz (zs[i]) (List.getElem_mem hzi))
      simp only [List.getD_eq_getElem?_getD, List.getElem?_eq_getElem hzi, Option.getD_some, List.getElem?_map, List.getElem?_take, hi, if_true, Option.map_some]
      simp [u8]; omega
    · simp only [Rows.uptoBulk]
      have : ((zs.take len).map Int.toNat).length = len := by simp at hz; simp; omega
      omega

/-- How much an Op weighs. -/
def wt (ops : List OpD) : Nat := (ops.map fun o => o.p.length + 5).sum

theorem layB_len (k : Int) (x : Nat) (p : List Nat) (hx : x < 18446744073709551616) (hp : p.length < 18446744073709551616) : (layB k x p).length ≤ p.length + 10 := by
  have h1 := uv_len x hx
  have h2 := uv_len p.length hp
  unfold layB
  repeat (first | (split; simp [wide_len]; try omega) | omega)
  all_goals simp

theorem bulk_part {d : DataW H} {l : List (DataW H)} (h : d ∈ l) : Rows.uptoBulk d ≤ Rows.uptoBulkAll l := by
  induction l with
  | nil => cases h
  | cons x r ih =>
    simp only [Rows.uptoBulkAll]
    cases List.mem_cons.1 h with
    | inl e => subst e; omega
    | inr e => have := ih e; omega

/-- One Op that came in. -/
theorem open_op {n : Nat} {cs : List Value} {x : DataW H × List MemPlace} (h : DataW.trod enc Try.prog W 0 (fun _ => true) true n 44 cs = some x) (hB : Rows.uptoBulk x.1 ≤ 1048576) :
    ∃ o : OpD, cs = [.int .i64 o.k, .int .u64 o.x, .int .i64 o.n, o.pv] ∧ o.x < 18446744073709551616 ∧ -9223372036854775808 ≤ o.k ∧ o.k ≤ 9223372036854775807 ∧ -9223372036854775808 ≤ o.n ∧ o.n ≤ 9223372036854775807 ∧ Rd W o.pv o.p ∧ o.p.length + 5 ≤ Rows.uptoBulk x.1 := by
  obtain ⟨xs, m, _, rfl, hl, hlen, hf⟩ := DataW.trod_struct Try.underlying44 h
  have hC : Try.prog.cellsOf 44 = 4 := by kernel_rfl
  have c3 : Try.prog.cellsOf 3 = 1 := by kernel_rfl
  have c22 : Try.prog.cellsOf 30 = 1 := by kernel_rfl
  have c24 : Try.prog.cellsOf 22 = 1 := by kernel_rfl
  rw [hC] at hl
  match xs, hlen, cs, hl with
  | [y0, y1, y2, y3], _, [u0, u1, u2, u3], _ =>
    have h0 : DataW.trod enc Try.prog W 0 (fun _ => true) true m 3 [u0] = some y0 := by simpa [c3] using hf 0 _ rfl
    have h1 : DataW.trod enc Try.prog W 0 (fun _ => true) true m 30 [u1] = some y1 := by simpa [c22] using hf 1 _ rfl
    have h2 : DataW.trod enc Try.prog W 0 (fun _ => true) true m 3 [u2] = some y2 := by simpa [c3] using hf 2 _ rfl
    have h3 : DataW.trod enc Try.prog W 0 (fun _ => true) true m 22 [u3] = some y3 := by simpa [c24] using hf 3 _ rfl
    obtain ⟨k, e0, rfl, w0⟩ := DataW.trod_int Try.underlying3 h0
    obtain ⟨x, e1, rfl, w1⟩ := DataW.trod_int Try.underlying30 h1
    obtain ⟨n', e2, rfl, w2⟩ := DataW.trod_int Try.underlying3 h2
    simp only [List.cons.injEq, and_true] at e0 e1 e2
    subst e0 e1 e2
    simp only [List.map_cons, List.map_nil, Rows.uptoBulk, Rows.uptoBulkAll] at hB
    obtain ⟨v, bs, e3, hr, hb⟩ := open_bytes h3 (by omega)
    simp only [List.cons.injEq, and_true] at e3
    subst e3
    obtain ⟨xn, rfl, hxn⟩ := nat_of_wf w1
    have hk := int_of_wf w0
    have hn := int_of_wf w2
    refine ⟨⟨k, xn, n', u3, bs⟩, rfl, hxn, hk.1, hk.2, hn.1, hn.2, hr, ?_⟩
    simp only [List.map_cons, List.map_nil, Rows.uptoBulk, Rows.uptoBulkAll]; omega

theorem wt_le (f : Nat → OpD) (D : Nat → DataW H) (l : List Nat) (h : ∀ i ∈ l, (f i).p.length + 5 ≤ Rows.uptoBulk (D i)) : wt (l.map f) ≤ Rows.uptoBulkAll (l.map D) := by
  induction l with
  | nil => simp [wt, Rows.uptoBulkAll]
  | cons a l ih =>
    have h1 := h a (by simp)
    have h2 := ih (fun i hi => h i (by simp [hi]))
    simp only [wt, List.map_cons, List.sum_cons, Rows.uptoBulkAll] at h2 ⊢
    omega

/-- A script that came in. -/
theorem open_script {fuel : Nat} {cs : List Value} {x : DataW H × List MemPlace} (h : DataW.trod enc Try.prog W 0 (fun _ => true) true fuel 23 cs = some x) (hB : Rows.uptoBulk x.1 ≤ 1048576) :
    ∃ v ops, cs = [v] ∧ SRd W v ops ∧ wt ops + 1 ≤ Rows.uptoBulk x.1 := by
  rcases open_slice Try.underlying23 h with ⟨rfl, rfl⟩ | ⟨a, len, cap, m, n, D, Pl, rfl, _, hl, hm, hmm, rfl, hx⟩
  · exact ⟨_, [], rfl, ⟨none, 0, rfl, by simp, by simp, by simp, by simp, by simp⟩, by simp [wt, Rows.uptoBulk]⟩
  · have hC : Try.prog.cellsOf 44 = 4 := by kernel_rfl
    rw [hC] at hx
    simp only [if_true] at hmm
    simp only [Rows.uptoBulk] at hB
    have hlb : len ≤ 1048576 := by have := bulk_len ((List.range len).map D); simp at this; omega
    haveI : Inhabited OpD := ⟨⟨0, 0, 0, .slice none 0 0, []⟩⟩
    obtain ⟨f, hf⟩ := choose_lt (α := OpD) (n := len) (p := fun i o => (∀ j v, [Value.int .i64 o.k, .int .u64 o.x, .int .i64 o.n, o.pv][j]? = some v → W.cell? ((a.add (i * 4)).add j) = some v) ∧ o.x < 18446744073709551616 ∧ -9223372036854775808 ≤ o.k ∧ o.k ≤ 9223372036854775807 ∧ -9223372036854775808 ≤ o.n ∧ o.n ≤ 9223372036854775807 ∧ Rd W o.pv o.p ∧ o.p.length + 5 ≤ Rows.uptoBulk (D i)) (fun i hi => by
      obtain ⟨cs', h1, h2⟩ := hx i (by omega)
      have hDi : Rows.uptoBulk (D i) ≤ Rows.uptoBulkAll ((List.range len).map D) := bulk_part (List.mem_map.2 ⟨i, List.mem_range.2 hi, rfl⟩)
      obtain ⟨o, rfl, b1, b2, b3, b4, b5, b6, b7⟩ := open_op h2 (by simp only; omega)
      obtain ⟨_, hlen, hc⟩ := World.cells?_some h1
      refine ⟨o, fun j v hj => ?_, b1, b2, b3, b4, b5, b6, b7⟩
      have hj4 : j < 4 := by
        rcases Nat.lt_or_ge j 4 with h | h
        · exact h
        · rw [List.getElem?_eq_none (by simpa using h)] at hj; cases hj
      rw [hc j hj4, hj])
    refine ⟨_, (List.range len).map f, rfl, ⟨some a, cap, by simp, by simpa using hl, by unfold maxLen at hm; omega, by simp; omega, ?_, ?_⟩, ?_⟩
    · intro o ho
      obtain ⟨i, hi, rfl⟩ := List.mem_map.1 ho
      obtain ⟨_, b1, b2, b3, b4, b5, b6, _⟩ := hf i (List.mem_range.1 hi)
      exact ⟨b1, b2, b3, b4, b5, b6⟩
    · intro hp
      simp at hp
      obtain ⟨b, off, spot⟩ := a
      have hc0 := (hf 0 hp).1 0 _ rfl
      have hspot : spot = none := by simpa [Addr.add] using World.cell?_spot hc0
      subst hspot
      refine ⟨b, off, rfl, fun i o ho => ?_⟩
      rw [List.getElem?_map] at ho
      obtain ⟨j, hj, rfl⟩ := Option.map_eq_some_iff.1 ho
      obtain ⟨hi, rfl⟩ := List.getElem?_eq_some_iff.1 hj
      simp only [List.getElem_range, List.length_range] at hi ⊢
      have hc := (hf i hi).1
      have d0 := hc 0 _ rfl
      have d1 := hc 1 _ rfl
      have d2 := hc 2 _ rfl
      have d3 := hc 3 _ rfl
      simp only [Addr.add_mid, Nat.add_zero] at d0 d1 d2 d3
      exact ⟨d0, d1, d2, d3⟩
    · have := wt_le f D (List.range len) (fun i hi => (hf i (List.mem_range.1 hi)).2.2.2.2.2.2.2)
      simp only [Rows.uptoBulk]; omega

theorem wt_script (ops : List OpD) (h : ∀ o ∈ ops, o.x < 18446744073709551616 ∧ o.p.length ≤ 1048576) : (scriptB ops).length ≤ 2 * wt ops := by
  induction ops with
  | nil => simp [scriptB]
  | cons o r ih =>
    have h1 := h o (by simp)
    have h2 := ih (fun i hi => h i (by simp [hi]))
    have h3 := layB_len o.k o.x o.p h1.1 (by omega)
    simp only [scriptB, wt, List.flatMap_cons, List.length_append, List.map_cons, List.sum_cons] at h2 ⊢
    omega
theorem wt_mem {ops : List OpD} {o : OpD} (h : o ∈ ops) : o.p.length ≤ wt ops := by
  induction ops with
  | nil => cases h
  | cons a r ih =>
    simp only [wt, List.map_cons, List.sum_cons] at ih ⊢
    cases List.mem_cons.1 h with
    | inl e => subst e; omega
    | inr e => have := ih e; omega
end
end Go.Proofs.Ytbbjbpjpejekgaa
