import Derived.Test.YtbljofojeagdkaaDoorOpenD
import Derived.Test.YtbljofojeagdkaaDoorMAsk
import Derived.Deep.Slices
namespace Go.Proofs.YtbljofojeagdkaaDoor
open Go.ChangeShapes Go.WideShapes Go.ChangeAt Go.RowKit Go.Deep
set_option linter.unusedVariables false
set_option linter.unusedSimpArgs false
section
variable {H : Type} {enc : TypeId × Value → H} {W : World}

theorem o_bulk_part {d : DataW H} {l : List (DataW H)} (h : d ∈ l) : Rows.uptoBulk d ≤ Rows.uptoBulkAll l := by
  induction l with
  | nil => cases h
  | cons x r ih =>
    simp only [Rows.uptoBulkAll]
    cases List.mem_cons.1 h with
    | inl e => subst e; omega
    | inr e => have := ih e; omega
theorem o_split (cs : List Value) (a n : Nat) : cs.drop a = (cs.drop a).take n ++ cs.drop (a + n) := by
  rw [← List.drop_drop, List.take_append_drop]

/-- Digests that came in. -/
theorem open_digs2 {fuel : Nat} {cs : List Value} {x : DataW H × List MemPlace} (h : DataW.trod enc Tryd.prog W 0 (fun _ => true) true fuel 25 cs = some x) (hB : Rows.uptoBulk x.1 ≤ 1048576) :
    ∃ v ds, cs = [v] ∧ RdD W v ds ∧ ds.length ≤ 1048576 := by
  rcases open_slice Tryd.underlying25 h with ⟨rfl, rfl⟩ | ⟨a, len, cap, m, n, D, Pl, rfl, _, hl, hm, hmm, rfl, hx⟩
  · exact ⟨_, [], rfl, ⟨none, 0, 0, rfl, rfl, Nat.le_refl _, by omega, fun d hd => by simp at hd, fun h => by omega⟩, by simp⟩
  · have hC : Tryd.prog.cellsOf 23 = 32 := by kernel_rfl
    rw [hC] at hx
    simp only [if_true] at hmm
    simp only [Rows.uptoBulk] at hB
    have hcap : cap ≤ 1048576 := by
      have h1 := bulk_len ((List.range len).map D)
      have h2 := bulk_len ((List.range (m - len)).map fun j => D (len + j))
      simp at h1 h2
      omega
    obtain ⟨f, hf⟩ := choose_lt (α := List Nat) (n := len) (p := fun i o => (∀ j v, (o.map u8)[j]? = some v → W.cell? ((a.add (i * 32)).add j) = some v) ∧ o.length = 32 ∧ ∀ y ∈ o, y < 256) (by
      intro i hi
      obtain ⟨cs', h1, h2⟩ := hx i (by omega)
      obtain ⟨l, rfl, hl1, hl2⟩ := open_dig h2
      obtain ⟨_, hlen, hc⟩ := World.cells?_some h1
      refine ⟨l, fun j v hv => ?_, hl1, hl2⟩
      have hj := (List.getElem?_eq_some_iff.1 hv).1
      have := hc j (by rw [List.length_map] at hj; omega)
      rw [this, ← hv, List.getElem?_eq_getElem hj])
    refine ⟨_, (List.range len).map f, rfl, ⟨some a, len, cap, rfl, by simp, hl, by omega, ?_, ?_⟩, by simp; omega⟩
    · intro d hd
      obtain ⟨i, hi, rfl⟩ := List.mem_map.1 hd
      exact (hf i (List.mem_range.1 hi)).2
    · intro hp
      obtain ⟨b, off, spot⟩ := a
      have h0 := hf 0 hp
      have hc0 := h0.1 0 (u8 ((f 0).getD 0 0)) (by rw [List.getElem?_map, List.getD_eq_getElem?_getD, List.getElem?_eq_getElem (by omega)]; rfl)
      have hspot : spot = none := by simpa [Addr.add] using World.cell?_spot hc0
      subst hspot
      refine ⟨b, off, rfl, fun i hi j v hv => ?_⟩
      have e9 : ((List.range len).map f).getD i [] = f i := by simp [List.getD_eq_getElem?_getD, hi]
      rw [e9] at hv
      have := (hf i hi).1 j v hv
      rw [Addr.add_mid, Addr.add_mid] at this
      exact this

/-- A question that came in. -/
theorem open_ask {fuel : Nat} {cs : List Value} {x : DataW H × List MemPlace} (h : DataW.trod enc Tryd.prog W 0 (fun _ => true) true fuel 27 cs = some x) (hB : Rows.uptoBulk x.1 ≤ 1048576) :
    ∃ (q : AskD) (pv : Value), cs = askC q pv ∧ OkA W q pv := by
  obtain ⟨xs, n, _, rfl, hl, hlen, hf⟩ := DataW.trod_struct Tryd.underlying27 h
  rw [show Tryd.prog.cellsOf 27 = 68 from by kernel_rfl] at hl
  match xs, hlen with
  | [y0, y1, y2, y3, y4, y5], _ =>
    have c3 : Tryd.prog.cellsOf 3 = 1 := by kernel_rfl
    have cd : Tryd.prog.cellsOf 23 = 32 := by kernel_rfl
    have cu : Tryd.prog.cellsOf 24 = 1 := by kernel_rfl
    have ck : Tryd.prog.cellsOf 25 = 1 := by kernel_rfl
    have f0 : DataW.trod enc Tryd.prog W 0 (fun _ => true) true n 3 ((cs.drop 0).take 1) = some y0 := by have this : DataW.trod enc Tryd.prog W 0 (fun _ => true) true n 3 ((cs.drop 0).take (Tryd.prog.cellsOf 3)) = some y0 := hf 0 _ rfl; rw [c3] at this; exact this
    have f1 : DataW.trod enc Tryd.prog W 0 (fun _ => true) true n 23 ((cs.drop 1).take 32) = some y1 := by have this : DataW.trod enc Tryd.prog W 0 (fun _ => true) true n 23 ((cs.drop 1).take (Tryd.prog.cellsOf 23)) = some y1 := hf 1 _ rfl; rw [cd] at this; exact this
    have f2 : DataW.trod enc Tryd.prog W 0 (fun _ => true) true n 24 ((cs.drop 33).take 1) = some y2 := by have this : DataW.trod enc Tryd.prog W 0 (fun _ => true) true n 24 ((cs.drop 33).take (Tryd.prog.cellsOf 24)) = some y2 := hf 2 _ rfl; rw [cu] at this; exact this
    have f3 : DataW.trod enc Tryd.prog W 0 (fun _ => true) true n 24 ((cs.drop 34).take 1) = some y3 := by have this : DataW.trod enc Tryd.prog W 0 (fun _ => true) true n 24 ((cs.drop 34).take (Tryd.prog.cellsOf 24)) = some y3 := hf 3 _ rfl; rw [cu] at this; exact this
    have f4 : DataW.trod enc Tryd.prog W 0 (fun _ => true) true n 25 ((cs.drop 35).take 1) = some y4 := by have this : DataW.trod enc Tryd.prog W 0 (fun _ => true) true n 25 ((cs.drop 35).take (Tryd.prog.cellsOf 25)) = some y4 := hf 4 _ rfl; rw [ck] at this; exact this
    have f5 : DataW.trod enc Tryd.prog W 0 (fun _ => true) true n 23 ((cs.drop 36).take 32) = some y5 := by have this : DataW.trod enc Tryd.prog W 0 (fun _ => true) true n 23 ((cs.drop 36).take (Tryd.prog.cellsOf 23)) = some y5 := hf 5 _ rfl; rw [cd] at this; exact this
    simp only [List.map_cons, List.map_nil, Rows.uptoBulk, Rows.uptoBulkAll] at hB
    obtain ⟨z, e0, _, w0⟩ := DataW.trod_int Tryd.underlying3 f0
    obtain ⟨l, e1, l1, l2⟩ := open_dig f1
    obtain ⟨i, e2, _, w2⟩ := DataW.trod_int Tryd.underlying24 f2
    obtain ⟨m, e3, _, w3⟩ := DataW.trod_int Tryd.underlying24 f3
    obtain ⟨dv, ds, e4, hds, hdl⟩ := open_digs2 f4 (by omega)
    obtain ⟨r, e5, r1, r2⟩ := open_dig f5
    have hi : 0 ≤ i ∧ i < 18446744073709551616 := by
      simp [Lit.wf, IntKind.min, IntKind.max, IntKind.signed, IntKind.bits] at w2
      omega
    have hm : 0 ≤ m ∧ m < 18446744073709551616 := by
      simp [Lit.wf, IntKind.min, IntKind.max, IntKind.signed, IntKind.bits] at w3
      omega
    refine ⟨⟨z, l, i.toNat, m.toNat, ds, r⟩, dv, ?_, ⟨int_of_wf w0, ⟨l1, l2⟩, by show i.toNat < _; omega, by show m.toNat < _; omega, hds, hdl, ⟨r1, r2⟩⟩⟩
    have hd : cs.drop 68 = [] := List.drop_eq_nil_of_le (by omega)
    have this := o_split cs 0 1
    rw [e0, o_split cs 1 32, e1, o_split cs 33 1, e2, o_split cs 34 1, e3, o_split cs 35 1, e4, o_split cs 36 32, e5, hd, List.drop_zero] at this
    rw [this]
    simp [askC, Int.toNat_of_nonneg hi.1, Int.toNat_of_nonneg hm.1]

set_option maxRecDepth 100000 in
theorem open_askv {b0 : Nat} {v : Value} {d : DataW H} {ps : List MemPlace} (hv : Value.okWide Tryd.prog W .any b0 27 v) (h : DataW.Trod enc Tryd.prog W 0 (fun _ => true) true 27 v d ps) (hB : Rows.uptoBulk d ≤ 1048576) :
    ∃ (q : AskD) (pv : Value), v = .agg (askC q pv).toArray ∧ OkA W q pv := by
  unfold Value.okWide at hv
  rw [Tryd.underlying27] at hv
  obtain ⟨cs, rfl, _, _⟩ := hv
  obtain ⟨fuel, hf⟩ := h
  obtain ⟨q, pv, e, h1⟩ := open_ask hf hB
  refine ⟨q, pv, ?_, h1⟩
  simp only [Value.cells] at e
  rw [← e]
end
end Go.Proofs.YtbljofojeagdkaaDoor
