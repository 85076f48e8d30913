import Derived.Test.YtdnacefdihipnadGen
import Derived.Test.YtdnacefdihipnadBack
import Derived.Test.YtdnacefdihipnadOpen
import Derived.Test.YtdnacefdihipnadTook
namespace Go.Proofs.Ytdnacefdihipnad
open Go.ChangeShapes Go.WideShapes Go.ChangeAt Go.RowKit Go.Deep
set_option linter.unusedVariables false
set_option linter.unusedSimpArgs false

/-- A slice of Things, as it lies in w; each Thing as the Op that it is. -/
def TRd (w : World) (v : Value) (ops : List OpD) : Prop :=
  ∃ (ao : Option Addr) (cap : Nat), v = .slice ao ops.length cap ∧ ops.length ≤ cap ∧ cap ≤ 9223372036854775807 ∧ ops.length ≤ 140737488355328 ∧
    (∀ o ∈ ops, o.x < 18446744073709551616 ∧ Rd w o.pv o.p) ∧
    (0 < ops.length → ∃ b off, ao = some ⟨b, off, none⟩ ∧ ∀ i o, ops[i]? = some o → ∃ kr, o.k = kk kr ∧
      w.cell? ⟨b, off + i * 3, none⟩ = some (.int .u8 kr) ∧ w.cell? ⟨b, off + i * 3 + 1, none⟩ = some (.int .u64 o.x) ∧ w.cell? ⟨b, off + i * 3 + 2, none⟩ = some o.pv)

theorem TRd.get {w0 w : World} {ao : Option Addr} {cap : Nat} {ops : List OpD} (h : TRd w0 (.slice ao ops.length cap) ops) (k : Kept [] w0 w) (i : Nat) (o : OpD) (ho : ops[i]? = some o) :
    ∃ b off ao2 n2 c2 kr, ao = some ⟨b, off, none⟩ ∧ o.pv = .slice ao2 n2 c2 ∧ o.k = kk kr ∧ w.cell? ⟨b, off + i * 3, none⟩ = some (.int .u8 kr) ∧ w.cell? ⟨b, off + i * 3 + 1, none⟩ = some (.int .u64 o.x) ∧ w.cell? ⟨b, off + i * 3 + 2, none⟩ = some (.slice ao2 n2 c2) ∧
      o.x < 18446744073709551616 ∧ b < w.heap.size ∧ Rd w0 o.pv o.p := by
  obtain ⟨ao', cap', he, _, _, _, h3, h4⟩ := h
  cases he
  obtain ⟨hi, rfl⟩ := List.getElem?_eq_some_iff.1 ho
  obtain ⟨b, off, rfl, hc⟩ := h4 (by omega)
  obtain ⟨kr, hk, c0, c1, c2⟩ := hc i _ ho
  obtain ⟨a1, a6⟩ := h3 _ (List.getElem_mem hi)
  obtain ⟨ao2, n2, c2', hpv⟩ : ∃ ao n c, (ops[i]).pv = .slice ao n c := by obtain ⟨ao, n, c, e, _⟩ := a6; exact ⟨ao, n, c, e⟩
  rw [hpv] at c2
  exact ⟨b, off, ao2, n2, c2', kr, rfl, hpv, hk, k.cell c0 (by simp), k.cell c1 (by simp), k.cell c2 (by simp), a1, block_lt_of_cell (k.cell c0 (by simp)), a6⟩

section
variable {H : Type} {enc : TypeId × Value → H} {W : World}

theorem open_thing {n : Nat} {cs : List Value} {x : DataW H × List MemPlace} (h : DataW.trod enc Try.prog W 0 (fun _ => true) true n 33 cs = some x) (hB : Rows.uptoBulk x.1 ≤ 1048576) :
    ∃ (o : OpD) (kr : Int), cs = [.int .u8 kr, .int .u64 o.x, o.pv] ∧ o.k = kk kr ∧ o.x < 18446744073709551616 ∧ Rd W o.pv o.p ∧ o.p.length + 4 ≤ Rows.uptoBulk x.1 := by
  obtain ⟨xs, m, _, rfl, hl, hlen, hf⟩ := DataW.trod_struct Try.underlying33 h
  have hC : Try.prog.cellsOf 33 = 3 := by kernel_rfl
  have c5 : Try.prog.cellsOf 5 = 1 := by kernel_rfl
  have c22 : Try.prog.cellsOf 31 = 1 := by kernel_rfl
  have c24 : Try.prog.cellsOf 25 = 1 := by kernel_rfl
  rw [hC] at hl
  match xs, hlen, cs, hl with
  | [y0, y1, y3], _, [u0, u1, u3], _ =>
    have h0 : DataW.trod enc Try.prog W 0 (fun _ => true) true m 5 [u0] = some y0 := by simpa [c5] using hf 0 _ rfl
    have h1 : DataW.trod enc Try.prog W 0 (fun _ => true) true m 31 [u1] = some y1 := by simpa [c22] using hf 1 _ rfl
    have h3 : DataW.trod enc Try.prog W 0 (fun _ => true) true m 25 [u3] = some y3 := by simpa [c24] using hf 2 _ rfl
    obtain ⟨k, e0, rfl, w0⟩ := DataW.trod_int Try.underlying5 h0
    obtain ⟨x, e1, rfl, w1⟩ := DataW.trod_int Try.underlying31 h1
    simp only [List.cons.injEq, and_true] at e0 e1
    subst e0 e1
    simp only [List.map_cons, List.map_nil, Rows.uptoBulk, Rows.uptoBulkAll] at hB
    obtain ⟨v, bs, e3, hr, hb⟩ := open_bytes h3 (by omega)
    simp only [List.cons.injEq, and_true] at e3
    subst e3
    obtain ⟨xn, rfl, hxn⟩ := nat_of_wf w1
    refine ⟨⟨kk k, xn, 0, u3, bs⟩, k, rfl, rfl, hxn, hr, ?_⟩
    simp only [List.map_cons, List.map_nil, Rows.uptoBulk, Rows.uptoBulkAll]; omega

def wt4 (ops : List OpD) : Nat := (ops.map fun o => o.p.length + 4).sum
theorem wt4_le (f : Nat → OpD) (D : Nat → DataW H) (l : List Nat) (h : ∀ i ∈ l, (f i).p.length + 4 ≤ Rows.uptoBulk (D i)) : wt4 (l.map f) ≤ Rows.uptoBulkAll (l.map D) := by
  induction l with
  | nil => simp [wt4, Rows.uptoBulkAll]
  | cons a l ih =>
    have h1 := h a (by simp)
    have h2 := ih (fun i hi => h i (by simp [hi]))
    simp only [wt4, List.map_cons, List.sum_cons, Rows.uptoBulkAll] at h2 ⊢
    omega
theorem wt4_wt (ops : List OpD) : wt ops ≤ 2 * wt4 ops := by
  induction ops with
  | nil => simp [wt, wt4]
  | cons a l ih => simp only [wt, wt4, List.map_cons, List.sum_cons] at ih ⊢; omega

theorem open_things {fuel : Nat} {cs : List Value} {x : DataW H × List MemPlace} (h : DataW.trod enc Try.prog W 0 (fun _ => true) true fuel 22 cs = some x) (hB : Rows.uptoBulk x.1 ≤ 1048576) :
    ∃ v ops, cs = [v] ∧ TRd W v ops ∧ wt4 ops + 1 ≤ Rows.uptoBulk x.1 := by
  rcases open_slice Try.underlying22 h with ⟨rfl, rfl⟩ | ⟨a, len, cap, m, n, D, Pl, rfl, _, hl, hm, hmm, rfl, hx⟩
  · exact ⟨_, [], rfl, ⟨none, 0, rfl, by simp, by simp, by simp, by simp, by simp⟩, by simp [wt4, Rows.uptoBulk]⟩
  · have hC : Try.prog.cellsOf 33 = 3 := by kernel_rfl
    rw [hC] at hx
    simp only [if_true] at hmm
    simp only [Rows.uptoBulk] at hB
    have hlb : len ≤ 1048576 := by have := bulk_len ((List.range len).map D); simp at this; omega
    haveI : Inhabited OpD := ⟨⟨0, 0, 0, .slice none 0 0, []⟩⟩
    obtain ⟨f, hf⟩ := choose_lt (α := OpD) (n := len) (p := fun i o => (∃ kr, o.k = kk kr ∧ ∀ j v, [Value.int .u8 kr, .int .u64 o.x, o.pv][j]? = some v → W.cell? ((a.add (i * 3)).add j) = some v) ∧ o.x < 18446744073709551616 ∧ Rd W o.pv o.p ∧ o.p.length + 4 ≤ Rows.uptoBulk (D i)) (fun i hi => by
      obtain ⟨cs', h1, h2⟩ := hx i (by omega)
      have hDi : Rows.uptoBulk (D i) ≤ Rows.uptoBulkAll ((List.range len).map D) := bulk_part (List.mem_map.2 ⟨i, List.mem_range.2 hi, rfl⟩)
      obtain ⟨o, kr, rfl, b0, b1, b6, b7⟩ := open_thing h2 (by simp only; omega)
      obtain ⟨_, hlen, hc⟩ := World.cells?_some h1
      refine ⟨o, ⟨kr, b0, fun j v hj => ?_⟩, b1, b6, b7⟩
      have hj4 : j < 3 := by
        rcases Nat.lt_or_ge j 3 with h | h
        · exact h
        · rw [List.getElem?_eq_none (by simpa using h)] at hj; cases hj
      rw [hc j hj4, hj])
    refine ⟨_, (List.range len).map f, rfl, ⟨some a, cap, by simp, by simpa using hl, by unfold maxLen at hm; omega, by simp; omega, ?_, ?_⟩, ?_⟩
    · intro o ho
      obtain ⟨i, hi, rfl⟩ := List.mem_map.1 ho
      obtain ⟨_, b1, b6, _⟩ := hf i (List.mem_range.1 hi)
      exact ⟨b1, b6⟩
    · intro hp
      simp at hp
      obtain ⟨b, off, spot⟩ := a
      obtain ⟨kr0, _, hc00⟩ := (hf 0 hp).1
      have hc0 := hc00 0 _ rfl
      have hspot : spot = none := by simpa [Addr.add] using World.cell?_spot hc0
      subst hspot
      refine ⟨b, off, rfl, fun i o ho => ?_⟩
      rw [List.getElem?_map] at ho
      obtain ⟨j, hj, rfl⟩ := Option.map_eq_some_iff.1 ho
      obtain ⟨hi, rfl⟩ := List.getElem?_eq_some_iff.1 hj
      simp only [List.getElem_range, List.length_range] at hi ⊢
      obtain ⟨kr, hkr, hc⟩ := (hf i hi).1
      have d0 := hc 0 _ rfl
      have d1 := hc 1 _ rfl
      have d2 := hc 2 _ rfl
      simp only [Addr.add_mid, Nat.add_zero] at d0 d1 d2
      exact ⟨kr, hkr, d0, d1, d2⟩
    · have := wt4_le f D (List.range len) (fun i hi => (hf i (List.mem_range.1 hi)).2.2.2)
      simp only [Rows.uptoBulk]; omega

theorem things_facts {v : Value} {ops : List OpD} (h : TRd W v ops) (hw : wt4 ops ≤ 1048576) : (scriptB ops).length ≤ 4194304 ∧ (∀ o ∈ ops, o.p.length ≤ 1048576 ∧ 1 ≤ o.k ∧ o.k ≤ 7 ∧ o.x < 18446744073709551616) ∧ ops.length ≤ 1048576 := by
  have hm : ∀ l : List OpD, (∀ o ∈ l, o.p.length ≤ wt4 l) ∧ l.length ≤ wt4 l := by
    intro l
    induction l with
    | nil => simp
    | cons a r ih =>
      simp only [wt4, List.map_cons, List.sum_cons, List.length_cons] at ih ⊢
      refine ⟨fun o ho => ?_, by omega⟩
      cases List.mem_cons.1 ho with
      | inl e => subst e; omega
      | inr e => have := ih.1 o e; omega
  obtain ⟨ao, cap, rfl, _, _, _, h3, h4⟩ := h
  have hp : ∀ o ∈ ops, o.p.length ≤ 1048576 := fun o ho => by have := (hm ops).1 o ho; omega
  have h1 := wt_script ops (fun o ho => ⟨(h3 o ho).1, hp o ho⟩)
  have h2 := wt4_wt ops
  refine ⟨by omega, fun o ho => ⟨hp o ho, ?_⟩, by have := (hm ops).2; omega⟩
  obtain ⟨i, hi, rfl⟩ := List.mem_iff_getElem.1 ho
  obtain ⟨b, off, _, hc⟩ := h4 (by omega)
  obtain ⟨kr, hk, _⟩ := hc i _ (List.getElem?_eq_getElem hi)
  have := kk_in kr
  exact ⟨by omega, by omega, (h3 _ ho).1⟩
end
end Go.Proofs.Ytdnacefdihipnad
