import Derived.Test.YtgnbigijpneebaaDoorBunD
import Derived.Test.YtgnbigijpneebaaDoorBunB
import Derived.Test.YtgnbigijpneebaaDoorBunG
import Derived.Deep.Slices
import Derived.Deep.SlicePairs
namespace Go.Proofs.YtgnbigijpneebaaDoor
open Go Go.RowKit
set_option linter.unusedVariables false
set_option linter.unusedSimpArgs false
section
variable {H : Type} {enc : TypeId × Value → H} {W : World}

def natOf : Value → Nat
  | .int _ n => n.toNat
  | _ => 0
/-- A digest that came in. -/
theorem open_dig {fuel : Nat} {cs : List Value} {x : DataW H × List MemPlace} (h : DataW.trod enc Tryd.prog W 0 (fun _ => true) true fuel 26 cs = some x) :
    ∃ l : List Nat, cs = l.map u8 ∧ l.length = 32 ∧ ∀ y ∈ l, y < 256 := by
  obtain ⟨xs, m, _, rfl, hl, hn, hc⟩ := DataW.trod_array Tryd.underlying26 h
  rw [show Tryd.prog.cellsOf 26 = 32 from by kernel_rfl] at hl
  rw [show Tryd.prog.cellsOf 5 = 1 from by kernel_rfl] at hc
  have key : ∀ i (hi : i < cs.length), cs[i] = u8 (natOf cs[i]) ∧ natOf cs[i] < 256 := by
    intro i hi
    have h1 := hc i (by omega)
    rw [Nat.mul_one, List.getElem?_eq_getElem (by omega)] at h1
    obtain ⟨n, e, _, hw⟩ := DataW.trod_int Tryd.underlying5 h1
    rw [List.drop_eq_getElem_cons hi, List.take_succ_cons, List.take_zero] at e
    simp only [List.cons.injEq, and_true] at e
    have := byte_of_wf hw
    rw [e]
    refine ⟨?_, ?_⟩
    · simp [u8, natOf]; omega
    · simp [natOf]; omega
  refine ⟨cs.map natOf, ?_, by simp [hl], ?_⟩
  · rw [List.map_map]
    refine List.ext_getElem (by simp) fun i h1 h2 => ?_
    rw [List.getElem_map]
    exact (key i h1).1
  · intro y hy
    obtain ⟨v, hv, rfl⟩ := List.mem_map.1 hy
    obtain ⟨i, hi, rfl⟩ := List.getElem_of_mem hv
    exact (key i hi).2
set_option maxRecDepth 100000 in
theorem open_digv {b0 : Nat} {v : Value} {d : DataW H} {ps : List MemPlace} (hv : Value.okWide Tryd.prog W .any b0 26 v) (h : DataW.Trod enc Tryd.prog W 0 (fun _ => true) true 26 v d ps) :
    ∃ l : List Nat, v = .agg (brow l) ∧ l.length = 32 ∧ ∀ y ∈ l, y < 256 := by
  unfold Value.okWide at hv
  rw [Tryd.underlying26] at hv
  obtain ⟨cs, rfl, _, _⟩ := hv
  obtain ⟨fuel, hf⟩ := h
  obtain ⟨l, e, h1, h2⟩ := open_dig hf
  refine ⟨l, ?_, h1, h2⟩
  simp only [Value.cells] at e
  unfold brow
  rw [← e]
end
end Go.Proofs.YtgnbigijpneebaaDoor
namespace Go.Proofs.YtgnbigijpneebaaDoor
open Go.ChangeShapes Go.WideShapes Go.ChangeAt Go.RowKit Go.Deep
set_option linter.unusedVariables false
set_option linter.unusedSimpArgs false
section
variable {H : Type} {enc : TypeId × Value → H} {W : World}

theorem o_bulk_part {d : DataW H} {l : List (DataW H)} (h : d ∈ l) : Rows.uptoBulk d ≤ Rows.uptoBulkAll l := by
  induction l with
  | nil => cases h
  | cons x r ih =>
    simp only [Rows.uptoBulkAll]
    cases List.mem_cons.1 h with
    | inl e => subst e; omega
    | inr e => have := ih e; omega
theorem o_split (cs : List Value) (a n : Nat) : cs.drop a = (cs.drop a).take n ++ cs.drop (a + n) := by
  rw [← List.drop_drop, List.take_append_drop]

/-- Digests that came in. -/
theorem open_digs {fuel : Nat} {cs : List Value} {x : DataW H × List MemPlace} (h : DataW.trod enc Tryd.prog W 0 (fun _ => true) true fuel 29 cs = some x) (hB : Rows.uptoBulk x.1 ≤ 1048576) :
    ∃ v ds, cs = [v] ∧ RdD W v ds := by
  rcases open_slice Tryd.underlying29 h with ⟨rfl, rfl⟩ | ⟨a, len, cap, m, n, D, Pl, rfl, _, hl, hm, hmm, rfl, hx⟩
  · exact ⟨_, [], rfl, none, 0, 0, rfl, rfl, Nat.le_refl _, by omega, fun d hd => by simp at hd, fun h => by omega⟩
  · have hC : Tryd.prog.cellsOf 26 = 32 := by kernel_rfl
    rw [hC] at hx
    simp only [if_true] at hmm
    simp only [Rows.uptoBulk] at hB
    have hcap : cap ≤ 1048576 := by
      have h1 := bulk_len ((List.range len).map D)
      have h2 := bulk_len ((List.range (m - len)).map fun j => D (len + j))
      simp at h1 h2
      omega
    obtain ⟨f, hf⟩ := choose_lt (α := List Nat) (n := len) (p := fun i o => (∀ j v, (o.map u8)[j]? = some v → W.cell? ((a.add (i * 32)).add j) = some v) ∧ o.length = 32 ∧ ∀ y ∈ o, y < 256) (by
      intro i hi
      obtain ⟨cs', h1, h2⟩ := hx i (by omega)
      obtain ⟨l, rfl, hl1, hl2⟩ := open_dig h2
      obtain ⟨_, hlen, hc⟩ := World.cells?_some h1
      refine ⟨l, fun j v hv => ?_, hl1, hl2⟩
      have hj := (List.getElem?_eq_some_iff.1 hv).1
      have := hc j (by rw [List.length_map] at hj; omega)
      rw [this, ← hv, List.getElem?_eq_getElem hj])
    refine ⟨_, (List.range len).map f, rfl, some a, len, cap, rfl, by simp, hl, by omega, ?_, ?_⟩
    · intro d hd
      obtain ⟨i, hi, rfl⟩ := List.mem_map.1 hd
      exact (hf i (List.mem_range.1 hi)).2
    · intro hp
      obtain ⟨b, off, spot⟩ := a
      have h0 := hf 0 hp
      have hc0 := h0.1 0 (u8 ((f 0).getD 0 0)) (by rw [List.getElem?_map, List.getD_eq_getElem?_getD, List.getElem?_eq_getElem (by omega)]; rfl)
      have hspot : spot = none := by simpa [Addr.add] using World.cell?_spot hc0
      subst hspot
      refine ⟨b, off, rfl, fun i hi j v hv => ?_⟩
      have e9 : ((List.range len).map f).getD i [] = f i := by simp [List.getD_eq_getElem?_getD, hi]
      rw [e9] at hv
      have := (hf i hi).1 j v hv
      rw [Addr.add_mid, Addr.add_mid] at this
      exact this

theorem k_flat_bulk (f : Nat → List Nat × List Nat) (D0 D1 : Nat → DataW H) (l : List Nat) (h : ∀ i ∈ l, (f i).1.length + 1 ≤ Rows.uptoBulk (D0 i) ∧ (f i).2.length + 1 ≤ Rows.uptoBulk (D1 i)) : kwt (l.map f) ≤ Rows.uptoBulkAll (l.map fun i => .agg [D0 i, D1 i]) := by
  induction l with
  | nil => simp [kwt]
  | cons a l ih =>
    have h1 := h a (by simp)
    have h2 := ih (fun i hi => h i (by simp [hi]))
    simp only [kwt, List.map_cons, List.sum_cons, Rows.uptoBulkAll, Rows.uptoBulk] at h2 ⊢
    omega
/-- Pairs that came in. -/
theorem open_pairs {fuel : Nat} {cs : List Value} {x : DataW H × List MemPlace} (h : DataW.trod enc Tryd.prog W 0 (fun _ => true) true fuel 27 cs = some x) (hB : Rows.uptoBulk x.1 ≤ 1048576) :
    ∃ v ps, cs = [v] ∧ RdK W v ps ∧ kwt ps ≤ 1048576 := by
  rcases open_slice_pairs Tryd.underlying27 Tryd.underlying86 (by kernel_rfl) rfl rfl (by kernel_rfl) (by kernel_rfl) h with ⟨rfl, rfl⟩ | ⟨a, len, cap, m, n, V0, V1, D0, D1, P0, P1, rfl, _, hl, hm, hmm, rfl, hx⟩
  · exact ⟨_, [], rfl, ⟨none, 0, 0, [], [], rfl, rfl, Nat.le_refl _, by omega, fun i h => by omega, fun h => by omega⟩, by simp [kwt]⟩
  · simp only [if_true] at hmm
    simp only [Rows.uptoBulk] at hB
    obtain ⟨f, hf⟩ := choose_lt (α := List Nat × List Nat) (n := len) (p := fun i o => (Rd W (V0 i) o.1 ∧ Rd W (V1 i) o.2) ∧ o.1.length + 1 ≤ Rows.uptoBulk (D0 i) ∧ o.2.length + 1 ≤ Rows.uptoBulk (D1 i)) (by
      intro i hi
      obtain ⟨_, _, h0, h1⟩ := hx i (by omega)
      have hDi : Rows.uptoBulk (.agg [D0 i, D1 i]) ≤ Rows.uptoBulkAll ((List.range len).map fun i => .agg [D0 i, D1 i]) := o_bulk_part (List.mem_map.2 ⟨i, List.mem_range.2 hi, rfl⟩)
      simp only [Rows.uptoBulk, Rows.uptoBulkAll] at hDi
      obtain ⟨v, bs, e0, hr0, hb0⟩ := open_bytes h0
      obtain ⟨v', bs', e1, hr1, hb1⟩ := open_bytes h1
      simp only [List.cons.injEq, and_true] at e0 e1
      subst e0
      subst e1
      have g0 := bulk_bytes hb0
      have g1 := bulk_bytes hb1
      exact ⟨(bs, bs'), ⟨hr0 (by simp only at g0; omega), hr1 (by simp only at g1; omega)⟩, g0, g1⟩)
    refine ⟨_, (List.range len).map f, rfl, ⟨some a, len, cap, (List.range len).map V0, (List.range len).map V1, rfl, by simp, hl, by unfold maxLen at hm; omega, ?_, ?_⟩, ?_⟩
    · intro i hi
      have hc := (hf i hi).1
      simpa [List.getD_eq_getElem?_getD, hi] using hc
    · intro hp
      obtain ⟨b, off, spot⟩ := a
      have hc0 := (hx 0 (by omega)).1
      have hspot : spot = none := by simpa [Addr.add] using World.cell?_spot hc0
      subst hspot
      refine ⟨b, off, rfl, fun i hi => ?_⟩
      have hc := hx i (by omega)
      rw [Addr.add_mid, Addr.add_mid] at hc
      have := And.intro hc.1 hc.2.1
      simpa [List.getD_eq_getElem?_getD, hi, Nat.add_assoc] using this
    · have := k_flat_bulk f D0 D1 (List.range len) (fun i hi => (hf i (List.mem_range.1 hi)).2)
      omega
theorem pairB_kwt (ps : List (List Nat × List Nat)) (h : kwt ps ≤ 1048576) : (pairB ps).length ≤ 10 * kwt ps := by
  induction ps with
  | nil => simp [pairB]
  | cons x r ih =>
    have e : pairB (x :: r) = uv x.1.length ++ x.1 ++ (uv x.2.length ++ x.2) ++ pairB r := by simp [pairB]
    have ek : kwt (x :: r) = x.1.length + x.2.length + 2 + kwt r := by simp [kwt]
    have h1 := ih (by omega)
    have u1 := uv_len x.1.length (by omega)
    have u2 := uv_len x.2.length (by omega)
    rw [e, ek]
    simp only [List.length_append]
    omega

/-- A Root that came in. -/
theorem open_root {fuel : Nat} {cs : List Value} {x : DataW H × List MemPlace} (h : DataW.trod enc Tryd.prog W 0 (fun _ => true) true fuel 32 cs = some x) :
    ∃ (s : Nat) (l m : List Nat), cs = rootC s l m ∧ s < 18446744073709551616 ∧ (l.length = 32 ∧ ∀ y ∈ l, y < 256) ∧ (m.length = 32 ∧ ∀ y ∈ m, y < 256) := by
  obtain ⟨xs, n, _, rfl, hl, hlen, hf⟩ := DataW.trod_struct Tryd.underlying32 h
  rw [show Tryd.prog.cellsOf 32 = 65 from by kernel_rfl] at hl
  match xs, hlen with
  | [y0, y1, y2], _ =>
    have cu : Tryd.prog.cellsOf 30 = 1 := by kernel_rfl
    have cd : Tryd.prog.cellsOf 26 = 32 := by kernel_rfl
    have f0 : DataW.trod enc Tryd.prog W 0 (fun _ => true) true n 30 ((cs.drop 0).take 1) = some y0 := by rw [← cu]; exact hf 0 _ rfl
    have f1 : DataW.trod enc Tryd.prog W 0 (fun _ => true) true n 26 ((cs.drop 1).take 32) = some y1 := by rw [← cd]; exact hf 1 _ rfl
    have f2 : DataW.trod enc Tryd.prog W 0 (fun _ => true) true n 26 ((cs.drop 33).take 32) = some y2 := by rw [← cd]; exact hf 2 _ rfl
    obtain ⟨k, e0, _, w0⟩ := DataW.trod_int Tryd.underlying30 f0
    obtain ⟨l, e1, l1, l2⟩ := open_dig f1
    obtain ⟨m, e2, m1, m2⟩ := open_dig f2
    have hw : 0 ≤ k ∧ k < 18446744073709551616 := by
      simp [Lit.wf, IntKind.min, IntKind.max, IntKind.signed, IntKind.bits] at w0
      omega
    refine ⟨k.toNat, l, m, ?_, by omega, ⟨l1, l2⟩, ⟨m1, m2⟩⟩
    have hd : cs.drop 65 = [] := List.drop_eq_nil_of_le (by omega)
    have := o_split cs 0 1
    rw [e0, o_split cs 1 32, e1, o_split cs 33 32, e2, hd, List.drop_zero] at this
    rw [this, rootC, Int.toNat_of_nonneg hw.1]
    simp

/-- An Op that came in. -/
theorem open_op {fuel : Nat} {cs : List Value} {x : DataW H × List MemPlace} (h : DataW.trod enc Tryd.prog W 0 (fun _ => true) true fuel 34 cs = some x) (hB : Rows.uptoBulk x.1 ≤ 1048576) :
    ∃ (o : OpD) (pv kv dv : Value), cs = opC o pv kv dv ∧ OkD W o pv kv dv := by
  obtain ⟨xs, n, _, rfl, hl, hlen, hf⟩ := DataW.trod_struct Tryd.underlying34 h
  rw [show Tryd.prog.cellsOf 34 = 135 from by kernel_rfl] at hl
  match xs, hlen with
  | [y0, y1, y2, y3, y4, y5, y6, y7, y8], _ =>
    have ci : Tryd.prog.cellsOf 3 = 1 := by kernel_rfl
    have cb : Tryd.prog.cellsOf 24 = 1 := by kernel_rfl
    have cd : Tryd.prog.cellsOf 26 = 32 := by kernel_rfl
    have cp : Tryd.prog.cellsOf 27 = 1 := by kernel_rfl
    have cu : Tryd.prog.cellsOf 28 = 1 := by kernel_rfl
    have ck : Tryd.prog.cellsOf 29 = 1 := by kernel_rfl
    have cr : Tryd.prog.cellsOf 32 = 65 := by kernel_rfl
    have f0 : DataW.trod enc Tryd.prog W 0 (fun _ => true) true n 3 ((cs.drop 0).take 1) = some y0 := by rw [← ci]; exact hf 0 _ rfl
    have f1 : DataW.trod enc Tryd.prog W 0 (fun _ => true) true n 3 ((cs.drop 1).take 1) = some y1 := by have this : DataW.trod enc Tryd.prog W 0 (fun _ => true) true n 3 ((cs.drop 1).take (Tryd.prog.cellsOf 3)) = some y1 := hf 1 _ rfl; rw [ci] at this; exact this
    have f2 : DataW.trod enc Tryd.prog W 0 (fun _ => true) true n 24 ((cs.drop 2).take 1) = some y2 := by have this : DataW.trod enc Tryd.prog W 0 (fun _ => true) true n 24 ((cs.drop 2).take (Tryd.prog.cellsOf 24)) = some y2 := hf 2 _ rfl; rw [cb] at this; exact this
    have f3 : DataW.trod enc Tryd.prog W 0 (fun _ => true) true n 26 ((cs.drop 3).take 32) = some y3 := by have this : DataW.trod enc Tryd.prog W 0 (fun _ => true) true n 26 ((cs.drop 3).take (Tryd.prog.cellsOf 26)) = some y3 := hf 3 _ rfl; rw [cd] at this; exact this
    have f4 : DataW.trod enc Tryd.prog W 0 (fun _ => true) true n 26 ((cs.drop 35).take 32) = some y4 := by have this : DataW.trod enc Tryd.prog W 0 (fun _ => true) true n 26 ((cs.drop 35).take (Tryd.prog.cellsOf 26)) = some y4 := hf 4 _ rfl; rw [cd] at this; exact this
    have f5 : DataW.trod enc Tryd.prog W 0 (fun _ => true) true n 27 ((cs.drop 67).take 1) = some y5 := by have this : DataW.trod enc Tryd.prog W 0 (fun _ => true) true n 27 ((cs.drop 67).take (Tryd.prog.cellsOf 27)) = some y5 := hf 5 _ rfl; rw [cp] at this; exact this
    have f6 : DataW.trod enc Tryd.prog W 0 (fun _ => true) true n 28 ((cs.drop 68).take 1) = some y6 := by have this : DataW.trod enc Tryd.prog W 0 (fun _ => true) true n 28 ((cs.drop 68).take (Tryd.prog.cellsOf 28)) = some y6 := hf 6 _ rfl; rw [cu] at this; exact this
    have f7 : DataW.trod enc Tryd.prog W 0 (fun _ => true) true n 29 ((cs.drop 69).take 1) = some y7 := by have this : DataW.trod enc Tryd.prog W 0 (fun _ => true) true n 29 ((cs.drop 69).take (Tryd.prog.cellsOf 29)) = some y7 := hf 7 _ rfl; rw [ck] at this; exact this
    have f8 : DataW.trod enc Tryd.prog W 0 (fun _ => true) true n 32 ((cs.drop 70).take 65) = some y8 := by have this : DataW.trod enc Tryd.prog W 0 (fun _ => true) true n 32 ((cs.drop 70).take (Tryd.prog.cellsOf 32)) = some y8 := hf 8 _ rfl; rw [cr] at this; exact this
    simp only [List.map_cons, List.map_nil, Rows.uptoBulk, Rows.uptoBulkAll] at hB
    obtain ⟨k, e0, _, w0⟩ := DataW.trod_int Tryd.underlying3 f0
    obtain ⟨z, e1, _, w1⟩ := DataW.trod_int Tryd.underlying3 f1
    obtain ⟨pv, p, e2, hr2, hb2⟩ := open_bytes f2
    have g2 := bulk_bytes hb2
    obtain ⟨l, e3, l1, l2⟩ := open_dig f3
    obtain ⟨r, e4, r1, r2⟩ := open_dig f4
    obtain ⟨kv, ps, e5, hps, hkw⟩ := open_pairs f5 (by omega)
    obtain ⟨xb, e6, _, w6⟩ := DataW.trod_int Tryd.underlying28 f6
    obtain ⟨dv, ds, e7, hds⟩ := open_digs f7 (by omega)
    obtain ⟨s, lg, mp, e8, s1, g1', m1'⟩ := open_root f8
    have hx : 0 ≤ xb ∧ xb < 65536 := by
      simp [Lit.wf, IntKind.min, IntKind.max, IntKind.signed, IntKind.bits] at w6
      omega
    have hpk := pairB_kwt ps hkw
    refine ⟨⟨k, z, p, l, r, ps, xb.toNat, ds, s, lg, mp⟩, pv, kv, dv, ?_, ⟨int_of_wf w0, int_of_wf w1, hr2 (by omega), by show p.length ≤ _; omega, ⟨l1, l2⟩, ⟨r1, r2⟩, hps, by show (pairB ps).length ≤ _; omega, by show xb.toNat < _; omega, hds, s1, g1', m1'⟩⟩
    have hd : cs.drop 135 = [] := List.drop_eq_nil_of_le (by omega)
    have this := o_split cs 0 1
    rw [e0, o_split cs 1 1, e1, o_split cs 2 1, e2, o_split cs 3 32, e3, o_split cs 35 32, e4, o_split cs 67 1, e5, o_split cs 68 1, e6, o_split cs 69 1, e7, o_split cs 70 65, e8, hd, List.drop_zero] at this
    rw [this]
    simp [opC, Int.toNat_of_nonneg hx.1]

instance : Inhabited OpD := ⟨⟨0, 0, [], [], [], [], 0, [], 0, [], []⟩⟩
/-- Ops that came in. -/
theorem open_ops {fuel : Nat} {cs : List Value} {x : DataW H × List MemPlace} (h : DataW.trod enc Tryd.prog W 0 (fun _ => true) true fuel 22 cs = some x) (hB : Rows.uptoBulk x.1 ≤ 1048576) :
    ∃ v os, cs = [v] ∧ RdO W v os := by
  rcases open_slice Tryd.underlying22 h with ⟨rfl, rfl⟩ | ⟨a, len, cap, m, n, D, Pl, rfl, _, hl, hm, hmm, rfl, hx⟩
  · exact ⟨_, [], rfl, none, 0, 0, fun _ => undef, fun _ => undef, fun _ => undef, rfl, rfl, Nat.le_refl _, by omega, fun i hi => by simp at hi, fun h => by omega⟩
  · have hC : Tryd.prog.cellsOf 34 = 135 := by kernel_rfl
    rw [hC] at hx
    simp only [if_true] at hmm
    simp only [Rows.uptoBulk] at hB
    obtain ⟨f, hf⟩ := choose_lt (α := OpD × Value × Value × Value) (n := len) (p := fun i o => (∀ j v, (opC o.1 o.2.1 o.2.2.1 o.2.2.2)[j]? = some v → W.cell? ((a.add (i * 135)).add j) = some v) ∧ OkD W o.1 o.2.1 o.2.2.1 o.2.2.2) (by
      intro i hi
      obtain ⟨cs', h1, h2⟩ := hx i (by omega)
      have hDi : Rows.uptoBulk (D i) ≤ Rows.uptoBulkAll ((List.range len).map D) := o_bulk_part (List.mem_map.2 ⟨i, List.mem_range.2 hi, rfl⟩)
      obtain ⟨o, pv, kv, dv, rfl, ho⟩ := open_op h2 (by simp only; omega)
      obtain ⟨_, hlen, hc⟩ := World.cells?_some h1
      refine ⟨(o, pv, kv, dv), fun j v hv => ?_, ho⟩
      have hj := (List.getElem?_eq_some_iff.1 hv).1
      have := hc j (by have h9 := opC_len (pv := pv) (kv := kv) (dv := dv) ho.l.1 ho.r.1 ho.lg.1 ho.mp.1; rw [h9] at hj; exact hj)
      rw [this, ← hv, List.getElem?_eq_getElem hj])
    refine ⟨_, (List.range len).map fun i => (f i).1, rfl, some a, len, cap, fun i => (f i).2.1, fun i => (f i).2.2.1, fun i => (f i).2.2.2, rfl, by simp, hl, by unfold maxLen at hm; omega, ?_, ?_⟩
    · intro i hi
      have hi' : i < len := by simpa using hi
      have := (hf i hi').2
      simpa using this
    · intro hp
      obtain ⟨b, off, spot⟩ := a
      have h0 := hf 0 hp
      have hc0 := h0.1 0 _ rfl
      have hspot : spot = none := by simpa [Addr.add] using World.cell?_spot hc0
      subst hspot
      refine ⟨b, off, rfl, fun i hi j v hv => ?_⟩
      have hi' : i < len := by simpa using hi
      have e9 : ((List.range len).map fun i => (f i).1)[i] = (f i).1 := by simp
      rw [e9] at hv
      have := (hf i hi').1 j v hv
      rw [Addr.add_mid, Addr.add_mid] at this
      exact this
end
end Go.Proofs.YtgnbigijpneebaaDoor
