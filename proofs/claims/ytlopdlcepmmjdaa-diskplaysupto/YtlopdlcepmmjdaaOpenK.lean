import Derived.Test.YtlopdlcepmmjdaaOpenB
import Derived.Test.YtlopdlcepmmjdaaDk20
import Derived.Deep.Slices
namespace Go.Proofs.Ytlopdlcepmmjdaa
open Go.ChangeShapes Go.WideShapes Go.ChangeAt Go.RowKit Go.Deep
set_option linter.unusedVariables false
set_option linter.unusedSimpArgs false

/-- A file that came in. -/
structure IFile where
  nm : ByteArray
  v : Value
  bs : List Nat
  sy : Int
  nd : Bool

def ifC (f : IFile) : List Value := [.string f.nm, f.v, .int .i64 f.sy, .bool f.nd]
def faC (x : Int × Int) : List Value := [.int .i64 x.1, .int .i64 x.2]
def Rng (x : Int) : Prop := -9223372036854775808 ≤ x ∧ x ≤ 9223372036854775807
def OkKe (k : KeepD) : Prop := k.nm.size ≤ 1048576 ∧ Rng k.kb
def OkFa (x : Int × Int) : Prop := Rng x.1 ∧ Rng x.2
def OkIf (W : World) (f : IFile) : Prop := Rd W f.v f.bs ∧ f.nm.size ≤ 1048576 ∧ Rng f.sy
/-- A call that came in. -/
structure OpD where
  k : Int
  s : ByteArray
  pv : Value
  ps : List Nat
  fv : Value
  fl : List (Int × Int)
  cr : Int
  n : Int
  kv : Value
  ks : List KeepD

def opL (o : OpD) : List Value := [.int .i64 o.k, .string o.s, o.pv, o.fv, .int .i64 o.cr, .int .i64 o.n, o.kv]
structure OkOp (W : World) (o : OpD) : Prop where
  k : Rng o.k
  s : o.s.size ≤ 1048576
  p : Rd W o.pv o.ps
  f : RdC 2 W o.fv (o.fl.map faC)
  fr : ∀ x ∈ o.fl, OkFa x
  cr : Rng o.cr
  n : Rng o.n
  kk : RdC 3 W o.kv (o.ks.map keC)
  kr : ∀ x ∈ o.ks, OkKe x
def opW (o : OpD) : Nat := o.ps.length + o.fl.length + o.ks.length + 1

section
variable {H : Type} {enc : TypeId × Value → H} {W : World}

theorem k_part {d : DataW H} {l : List (DataW H)} (h : d ∈ l) : Rows.uptoBulk d ≤ Rows.uptoBulkAll l := by
  induction l with
  | nil => simp at h
  | cons a l ih =>
    simp only [Rows.uptoBulkAll]
    rcases List.mem_cons.1 h with rfl | h
    · omega
    · have := ih h; omega
theorem k_sum {α : Type} (D : Nat → DataW H) (f : Nat → α) (μ : α → Nat) (l : List Nat) (h : ∀ i ∈ l, μ (f i) ≤ Rows.uptoBulk (D i)) : ((l.map f).map μ).sum ≤ Rows.uptoBulkAll (l.map D) := by
  induction l with
  | nil => simp
  | cons a l ih =>
    have h1 := h a (by simp)
    have h2 := ih (fun i hi => h i (by simp [hi]))
    simp only [List.map_cons, Rows.uptoBulkAll, List.sum_cons]
    omega
theorem k_split (cs : List Value) (a n : Nat) : cs.drop a = (cs.drop a).take n ++ cs.drop (a + n) := by
  rw [← List.drop_drop, List.take_append_drop]
/-- A slice of rows that came in. -/
theorem open_rows {T E : TypeId} {s : Nat} (hu : Try.prog.underlying T = some (.slice E)) (hC : Try.prog.cellsOf E = s) {α : Type} [Inhabited α] (mk : α → List Value) (hne : ∀ a, (mk a).length = s) (hs0 : 0 < s) (Q : α → Prop) (μ : α → Nat)
    (hel : ∀ (n : Nat) (cs : List Value) (y : DataW H × List MemPlace), DataW.trod enc Try.prog W 0 (fun _ => true) true n E cs = some y → Rows.uptoBulk y.1 ≤ 1048576 → ∃ a, cs = mk a ∧ Q a ∧ μ a ≤ Rows.uptoBulk y.1)
    {fuel : Nat} {cs : List Value} {x : DataW H × List MemPlace} (h : DataW.trod enc Try.prog W 0 (fun _ => true) true fuel T cs = some x) (hB : Rows.uptoBulk x.1 ≤ 1048576) :
    ∃ (v : Value) (l : List α), cs = [v] ∧ RdC s W v (l.map mk) ∧ (∀ a ∈ l, Q a) ∧ (l.map μ).sum + 1 ≤ Rows.uptoBulk x.1 := by
  rcases open_slice hu h with ⟨rfl, rfl⟩ | ⟨a, len, cap, m, n, D, Pl, rfl, _, hl, hm, hmm, rfl, hx⟩
  · exact ⟨_, [], rfl, RdC.nil s W, by simp, by simp [Rows.uptoBulk]⟩
  · rw [hC] at hx
    simp only [if_true] at hmm
    simp only [Rows.uptoBulk] at hB ⊢
    obtain ⟨f, hf⟩ := choose_lt (α := α) (n := len) (p := fun i o => ((∀ j v, (mk o)[j]? = some v → W.cell? ((a.add (i * s)).add j) = some v) ∧ Q o) ∧ μ o ≤ Rows.uptoBulk (D i)) (by
      intro i hi
      obtain ⟨cs', h1, h2⟩ := hx i (by omega)
      have hDi : Rows.uptoBulk (D i) ≤ Rows.uptoBulkAll ((List.range len).map D) := k_part (List.mem_map.2 ⟨i, List.mem_range.2 hi, rfl⟩)
      obtain ⟨o, rfl, ho, hbb⟩ := hel _ _ _ h2 (by simp only; omega)
      obtain ⟨_, hlen, hc⟩ := World.cells?_some h1
      refine ⟨o, ⟨fun j v hv => ?_, ho⟩, hbb⟩
      have hj := (List.getElem?_eq_some_iff.1 hv).1
      have := hc j (by rw [hne] at hj; exact hj)
      rw [this, ← hv, List.getElem?_eq_getElem hj])
    refine ⟨_, (List.range len).map f, rfl, ⟨some a, len, cap, rfl, by simp, hl, by unfold maxLen at hm; omega, ?_⟩, ?_, ?_⟩
    · intro hp
      obtain ⟨b, off, spot⟩ := a
      have h0 := (hf 0 hp).1.1
      have hc0 := h0 0 _ (List.getElem?_eq_getElem (by rw [hne]; exact hs0))
      have hspot : spot = none := by simpa [Addr.add] using World.cell?_spot hc0
      subst hspot
      refine ⟨b, off, rfl, fun i hi j v hv => ?_⟩
      have hi' : i < len := by simpa using hi
      have e9 : (((List.range len).map f).map mk)[i] = mk (f i) := by simp
      rw [e9] at hv
      have := (hf i hi').1.1 j v hv
      rw [Addr.add_mid, Addr.add_mid] at this
      exact this
    · intro o ho
      obtain ⟨i, hi, rfl⟩ := List.mem_map.1 ho
      exact (hf i (List.mem_range.1 hi)).1.2
    · have := k_sum D f μ (List.range len) (fun i hi => (hf i (List.mem_range.1 hi)).2)
      omega
instance : Inhabited KeepD := ⟨⟨⟨#[]⟩, 0, false⟩⟩
instance : Inhabited IFile := ⟨⟨⟨#[]⟩, undef, [], 0, false⟩⟩
instance : Inhabited OpD := ⟨⟨0, ⟨#[]⟩, undef, [], undef, [], 0, 0, undef, []⟩⟩
theorem sum_len {α : Type} (l : List α) (μ : α → Nat) (h : ∀ a, 1 ≤ μ a) : l.length ≤ (l.map μ).sum := by
  induction l with
  | nil => simp
  | cons a l ih => have := h a; simp only [List.length_cons, List.map_cons, List.sum_cons]; omega

theorem open_keep {fuel : Nat} {cs : List Value} {x : DataW H × List MemPlace} (h : DataW.trod enc Try.prog W 0 (fun _ => true) true fuel 72 cs = some x) (hB : Rows.uptoBulk x.1 ≤ 1048576) :
    ∃ k : KeepD, cs = keC k ∧ OkKe k ∧ 1 ≤ Rows.uptoBulk x.1 := by
  obtain ⟨xs, n, _, rfl, hl, hlen, hf⟩ := DataW.trod_struct Try.underlying72 h
  rw [show Try.prog.cellsOf 72 = 3 from by kernel_rfl] at hl
  match xs, hlen with
  | [y0, y1, y2], _ =>
    have f0 : DataW.trod enc Try.prog W 0 (fun _ => true) true n 9 ((cs.drop 0).take 1) = some y0 := by have this : DataW.trod enc Try.prog W 0 (fun _ => true) true n 9 ((cs.drop 0).take (Try.prog.cellsOf 9)) = some y0 := hf 0 _ rfl; rw [show Try.prog.cellsOf 9 = 1 from by kernel_rfl] at this; exact this
    have f1 : DataW.trod enc Try.prog W 0 (fun _ => true) true n 3 ((cs.drop 1).take 1) = some y1 := by have this : DataW.trod enc Try.prog W 0 (fun _ => true) true n 3 ((cs.drop 1).take (Try.prog.cellsOf 3)) = some y1 := hf 1 _ rfl; rw [show Try.prog.cellsOf 3 = 1 from by kernel_rfl] at this; exact this
    have f2 : DataW.trod enc Try.prog W 0 (fun _ => true) true n 4 ((cs.drop 2).take 1) = some y2 := by have this : DataW.trod enc Try.prog W 0 (fun _ => true) true n 4 ((cs.drop 2).take (Try.prog.cellsOf 4)) = some y2 := hf 2 _ rfl; rw [show Try.prog.cellsOf 4 = 1 from by kernel_rfl] at this; exact this
    simp only [List.map_cons, List.map_nil, Rows.uptoBulk, Rows.uptoBulkAll] at hB ⊢
    obtain ⟨z0, e0, q0, w0⟩ := DataW.trod_string Try.underlying9 f0
    have b0 : z0.size + 1 ≤ Rows.uptoBulk y0.1 := by rw [q0]; show _ ≤ z0.data.toList.length + 1; rw [Array.length_toList]; exact Nat.le_refl _
    obtain ⟨z1, e1, q1, w1⟩ := DataW.trod_int Try.underlying3 f1
    have g1 := int_of_wf w1
    have b1 := bulk_one y1.1
    obtain ⟨z2, e2, q2⟩ := DataW.trod_bool Try.underlying4 f2
    have b2 := bulk_one y2.1
    have hd : cs.drop 3 = [] := List.drop_eq_nil_of_le (by omega)
    have this := k_split cs 0 1
    rw [e0, k_split cs 1 1, e1, k_split cs 2 1, e2, hd, List.drop_zero] at this
    exact ⟨⟨z0, z1, z2⟩, by rw [this]; rfl, ⟨by show z0.size ≤ _; omega, g1⟩, by omega⟩

theorem open_keeps {fuel : Nat} {cs : List Value} {x : DataW H × List MemPlace} (h : DataW.trod enc Try.prog W 0 (fun _ => true) true fuel 38 cs = some x) (hB : Rows.uptoBulk x.1 ≤ 1048576) :
    ∃ (v : Value) (l : List KeepD), cs = [v] ∧ RdC 3 W v (l.map keC) ∧ (∀ a ∈ l, OkKe a) ∧ l.length + 1 ≤ Rows.uptoBulk x.1 := by
  obtain ⟨v, l, h1, h2, h3, h4⟩ := open_rows Try.underlying38 (by kernel_rfl : Try.prog.cellsOf 72 = 3) keC (by intro a; rfl) (by decide) OkKe (fun _ => 1) (fun n cs y h hB => open_keep h hB) h hB
  exact ⟨v, l, h1, h2, h3, by have := sum_len l (fun _ => 1) (by simp); omega⟩

theorem open_fault {fuel : Nat} {cs : List Value} {x : DataW H × List MemPlace} (h : DataW.trod enc Try.prog W 0 (fun _ => true) true fuel 104 cs = some x) (hB : Rows.uptoBulk x.1 ≤ 1048576) :
    ∃ k : Int × Int, cs = faC k ∧ OkFa k ∧ 1 ≤ Rows.uptoBulk x.1 := by
  obtain ⟨xs, n, _, rfl, hl, hlen, hf⟩ := DataW.trod_struct Try.underlying104 h
  rw [show Try.prog.cellsOf 104 = 2 from by kernel_rfl] at hl
  match xs, hlen with
  | [y0, y1], _ =>
    have f0 : DataW.trod enc Try.prog W 0 (fun _ => true) true n 3 ((cs.drop 0).take 1) = some y0 := by have this : DataW.trod enc Try.prog W 0 (fun _ => true) true n 3 ((cs.drop 0).take (Try.prog.cellsOf 3)) = some y0 := hf 0 _ rfl; rw [show Try.prog.cellsOf 3 = 1 from by kernel_rfl] at this; exact this
    have f1 : DataW.trod enc Try.prog W 0 (fun _ => true) true n 3 ((cs.drop 1).take 1) = some y1 := by have this : DataW.trod enc Try.prog W 0 (fun _ => true) true n 3 ((cs.drop 1).take (Try.prog.cellsOf 3)) = some y1 := hf 1 _ rfl; rw [show Try.prog.cellsOf 3 = 1 from by kernel_rfl] at this; exact this
    simp only [List.map_cons, List.map_nil, Rows.uptoBulk, Rows.uptoBulkAll] at hB ⊢
    obtain ⟨z0, e0, q0, w0⟩ := DataW.trod_int Try.underlying3 f0
    have g0 := int_of_wf w0
    have b0 := bulk_one y0.1
    obtain ⟨z1, e1, q1, w1⟩ := DataW.trod_int Try.underlying3 f1
    have g1 := int_of_wf w1
    have b1 := bulk_one y1.1
    have hd : cs.drop 2 = [] := List.drop_eq_nil_of_le (by omega)
    have this := k_split cs 0 1
    rw [e0, k_split cs 1 1, e1, hd, List.drop_zero] at this
    exact ⟨(z0, z1), by rw [this]; rfl, ⟨g0, g1⟩, by omega⟩

theorem open_faults {fuel : Nat} {cs : List Value} {x : DataW H × List MemPlace} (h : DataW.trod enc Try.prog W 0 (fun _ => true) true fuel 37 cs = some x) (hB : Rows.uptoBulk x.1 ≤ 1048576) :
    ∃ (v : Value) (l : List (Int × Int)), cs = [v] ∧ RdC 2 W v (l.map faC) ∧ (∀ a ∈ l, OkFa a) ∧ l.length + 1 ≤ Rows.uptoBulk x.1 := by
  obtain ⟨v, l, h1, h2, h3, h4⟩ := open_rows Try.underlying37 (by kernel_rfl : Try.prog.cellsOf 104 = 2) faC (by intro a; rfl) (by decide) OkFa (fun _ => 1) (fun n cs y h hB => open_fault h hB) h hB
  exact ⟨v, l, h1, h2, h3, by have := sum_len l (fun _ => 1) (by simp); omega⟩

theorem open_file {fuel : Nat} {cs : List Value} {x : DataW H × List MemPlace} (h : DataW.trod enc Try.prog W 0 (fun _ => true) true fuel 54 cs = some x) (hB : Rows.uptoBulk x.1 ≤ 1048576) :
    ∃ f : IFile, cs = ifC f ∧ OkIf W f ∧ f.bs.length + 1 ≤ Rows.uptoBulk x.1 := by
  obtain ⟨xs, n, _, rfl, hl, hlen, hf⟩ := DataW.trod_struct Try.underlying54 h
  rw [show Try.prog.cellsOf 54 = 4 from by kernel_rfl] at hl
  match xs, hlen with
  | [y0, y1, y2, y3], _ =>
    have f0 : DataW.trod enc Try.prog W 0 (fun _ => true) true n 9 ((cs.drop 0).take 1) = some y0 := by have this : DataW.trod enc Try.prog W 0 (fun _ => true) true n 9 ((cs.drop 0).take (Try.prog.cellsOf 9)) = some y0 := hf 0 _ rfl; rw [show Try.prog.cellsOf 9 = 1 from by kernel_rfl] at this; exact this
    have f1 : DataW.trod enc Try.prog W 0 (fun _ => true) true n 36 ((cs.drop 1).take 1) = some y1 := by have this : DataW.trod enc Try.prog W 0 (fun _ => true) true n 36 ((cs.drop 1).take (Try.prog.cellsOf 36)) = some y1 := hf 1 _ rfl; rw [show Try.prog.cellsOf 36 = 1 from by kernel_rfl] at this; exact this
    have f2 : DataW.trod enc Try.prog W 0 (fun _ => true) true n 3 ((cs.drop 2).take 1) = some y2 := by have this : DataW.trod enc Try.prog W 0 (fun _ => true) true n 3 ((cs.drop 2).take (Try.prog.cellsOf 3)) = some y2 := hf 2 _ rfl; rw [show Try.prog.cellsOf 3 = 1 from by kernel_rfl] at this; exact this
    have f3 : DataW.trod enc Try.prog W 0 (fun _ => true) true n 4 ((cs.drop 3).take 1) = some y3 := by have this : DataW.trod enc Try.prog W 0 (fun _ => true) true n 4 ((cs.drop 3).take (Try.prog.cellsOf 4)) = some y3 := hf 3 _ rfl; rw [show Try.prog.cellsOf 4 = 1 from by kernel_rfl] at this; exact this
    simp only [List.map_cons, List.map_nil, Rows.uptoBulk, Rows.uptoBulkAll] at hB ⊢
    obtain ⟨z0, e0, q0, w0⟩ := DataW.trod_string Try.underlying9 f0
    have b0 : z0.size + 1 ≤ Rows.uptoBulk y0.1 := by rw [q0]; show _ ≤ z0.data.toList.length + 1; rw [Array.length_toList]; exact Nat.le_refl _
    obtain ⟨v1, z1, e1, hr1, hb1⟩ := open_bytes f1
    have b1 := bulk_bytes hb1
    have r1 := hr1 (by omega)
    obtain ⟨z2, e2, q2, w2⟩ := DataW.trod_int Try.underlying3 f2
    have g2 := int_of_wf w2
    have b2 := bulk_one y2.1
    obtain ⟨z3, e3, q3⟩ := DataW.trod_bool Try.underlying4 f3
    have b3 := bulk_one y3.1
    have hd : cs.drop 4 = [] := List.drop_eq_nil_of_le (by omega)
    have this := k_split cs 0 1
    rw [e0, k_split cs 1 1, e1, k_split cs 2 1, e2, k_split cs 3 1, e3, hd, List.drop_zero] at this
    exact ⟨⟨z0, v1, z1, z2, z3⟩, by rw [this]; rfl, ⟨r1, by show z0.size ≤ _; omega, g2⟩, by show z1.length + 1 ≤ _; omega⟩

theorem open_files {fuel : Nat} {cs : List Value} {x : DataW H × List MemPlace} (h : DataW.trod enc Try.prog W 0 (fun _ => true) true fuel 22 cs = some x) (hB : Rows.uptoBulk x.1 ≤ 1048576) :
    ∃ (v : Value) (l : List IFile), cs = [v] ∧ RdC 4 W v (l.map ifC) ∧ (∀ a ∈ l, OkIf W a) ∧ (l.map fun f => f.bs.length + 1).sum + 1 ≤ Rows.uptoBulk x.1 :=
  open_rows Try.underlying22 (by kernel_rfl : Try.prog.cellsOf 54 = 4) ifC (by intro a; rfl) (by decide) (OkIf W) (fun f => f.bs.length + 1) (fun n cs y h hB => open_file h hB) h hB

theorem open_fate {fuel : Nat} {cs : List Value} {x : DataW H × List MemPlace} (h : DataW.trod enc Try.prog W 0 (fun _ => true) true fuel 40 cs = some x) (hB : Rows.uptoBulk x.1 ≤ 1048576) :
    ∃ (n : Int) (v : Value) (l : List KeepD), cs = [.int .i64 n, v] ∧ Rng n ∧ RdC 3 W v (l.map keC) ∧ (∀ a ∈ l, OkKe a) ∧ l.length + 1 ≤ Rows.uptoBulk x.1 := by
  obtain ⟨xs, n, _, rfl, hl, hlen, hf⟩ := DataW.trod_struct Try.underlying40 h
  rw [show Try.prog.cellsOf 40 = 2 from by kernel_rfl] at hl
  match xs, hlen with
  | [y0, y1], _ =>
    have f0 : DataW.trod enc Try.prog W 0 (fun _ => true) true n 3 ((cs.drop 0).take 1) = some y0 := by have this : DataW.trod enc Try.prog W 0 (fun _ => true) true n 3 ((cs.drop 0).take (Try.prog.cellsOf 3)) = some y0 := hf 0 _ rfl; rw [show Try.prog.cellsOf 3 = 1 from by kernel_rfl] at this; exact this
    have f1 : DataW.trod enc Try.prog W 0 (fun _ => true) true n 38 ((cs.drop 1).take 1) = some y1 := by have this : DataW.trod enc Try.prog W 0 (fun _ => true) true n 38 ((cs.drop 1).take (Try.prog.cellsOf 38)) = some y1 := hf 1 _ rfl; rw [show Try.prog.cellsOf 38 = 1 from by kernel_rfl] at this; exact this
    simp only [List.map_cons, List.map_nil, Rows.uptoBulk, Rows.uptoBulkAll] at hB ⊢
    obtain ⟨z0, e0, q0, w0⟩ := DataW.trod_int Try.underlying3 f0
    have g0 := int_of_wf w0
    have b0 := bulk_one y0.1
    obtain ⟨v1, z1, e1, r1, a1, b1⟩ := open_keeps f1 (by omega)
    have hd : cs.drop 2 = [] := List.drop_eq_nil_of_le (by omega)
    have this := k_split cs 0 1
    rw [e0, k_split cs 1 1, e1, hd, List.drop_zero] at this
    exact ⟨z0, v1, z1, by rw [this]; rfl, g0, r1, a1, by omega⟩

theorem open_op6 {fuel : Nat} {cs : List Value} {x : DataW H × List MemPlace} (h : DataW.trod enc Try.prog W 0 (fun _ => true) true fuel 42 cs = some x) (hB : Rows.uptoBulk x.1 ≤ 1048576) :
    ∃ o : OpD, cs = opL o ∧ OkOp W o ∧ opW o ≤ Rows.uptoBulk x.1 := by
  obtain ⟨xs, n, _, rfl, hl, hlen, hf⟩ := DataW.trod_struct Try.underlying42 h
  rw [show Try.prog.cellsOf 42 = 7 from by kernel_rfl] at hl
  match xs, hlen with
  | [y0, y1, y2, y3, y4, y5], _ =>
    have f0 : DataW.trod enc Try.prog W 0 (fun _ => true) true n 3 ((cs.drop 0).take 1) = some y0 := by have this : DataW.trod enc Try.prog W 0 (fun _ => true) true n 3 ((cs.drop 0).take (Try.prog.cellsOf 3)) = some y0 := hf 0 _ rfl; rw [show Try.prog.cellsOf 3 = 1 from by kernel_rfl] at this; exact this
    have f1 : DataW.trod enc Try.prog W 0 (fun _ => true) true n 9 ((cs.drop 1).take 1) = some y1 := by have this : DataW.trod enc Try.prog W 0 (fun _ => true) true n 9 ((cs.drop 1).take (Try.prog.cellsOf 9)) = some y1 := hf 1 _ rfl; rw [show Try.prog.cellsOf 9 = 1 from by kernel_rfl] at this; exact this
    have f2 : DataW.trod enc Try.prog W 0 (fun _ => true) true n 36 ((cs.drop 2).take 1) = some y2 := by have this : DataW.trod enc Try.prog W 0 (fun _ => true) true n 36 ((cs.drop 2).take (Try.prog.cellsOf 36)) = some y2 := hf 2 _ rfl; rw [show Try.prog.cellsOf 36 = 1 from by kernel_rfl] at this; exact this
    have f3 : DataW.trod enc Try.prog W 0 (fun _ => true) true n 37 ((cs.drop 3).take 1) = some y3 := by have this : DataW.trod enc Try.prog W 0 (fun _ => true) true n 37 ((cs.drop 3).take (Try.prog.cellsOf 37)) = some y3 := hf 3 _ rfl; rw [show Try.prog.cellsOf 37 = 1 from by kernel_rfl] at this; exact this
    have f4 : DataW.trod enc Try.prog W 0 (fun _ => true) true n 3 ((cs.drop 4).take 1) = some y4 := by have this : DataW.trod enc Try.prog W 0 (fun _ => true) true n 3 ((cs.drop 4).take (Try.prog.cellsOf 3)) = some y4 := hf 4 _ rfl; rw [show Try.prog.cellsOf 3 = 1 from by kernel_rfl] at this; exact this
    have f5 : DataW.trod enc Try.prog W 0 (fun _ => true) true n 40 ((cs.drop 5).take 2) = some y5 := by have this : DataW.trod enc Try.prog W 0 (fun _ => true) true n 40 ((cs.drop 5).take (Try.prog.cellsOf 40)) = some y5 := hf 5 _ rfl; rw [show Try.prog.cellsOf 40 = 2 from by kernel_rfl] at this; exact this
    simp only [List.map_cons, List.map_nil, Rows.uptoBulk, Rows.uptoBulkAll] at hB ⊢
    obtain ⟨z0, e0, q0, w0⟩ := DataW.trod_int Try.underlying3 f0
    have g0 := int_of_wf w0
    have b0 := bulk_one y0.1
    obtain ⟨z1, e1, q1, w1⟩ := DataW.trod_string Try.underlying9 f1
    have b1 : z1.size + 1 ≤ Rows.uptoBulk y1.1 := by rw [q1]; show _ ≤ z1.data.toList.length + 1; rw [Array.length_toList]; exact Nat.le_refl _
    obtain ⟨v2, z2, e2, hr2, hb2⟩ := open_bytes f2
    have b2 := bulk_bytes hb2
    have r2 := hr2 (by omega)
    obtain ⟨v3, z3, e3, r3, a3, b3⟩ := open_faults f3 (by omega)
    obtain ⟨z4, e4, q4, w4⟩ := DataW.trod_int Try.underlying3 f4
    have g4 := int_of_wf w4
    have b4 := bulk_one y4.1
    obtain ⟨n5, v5, z5, e5, g5, r5, a5, b5⟩ := open_fate f5 (by omega)
    have hd : cs.drop 7 = [] := List.drop_eq_nil_of_le (by omega)
    have this := k_split cs 0 1
    rw [e0, k_split cs 1 1, e1, k_split cs 2 1, e2, k_split cs 3 1, e3, k_split cs 4 1, e4, k_split cs 5 2, e5, hd, List.drop_zero] at this
    exact ⟨⟨z0, z1, v2, z2, v3, z3, z4, n5, v5, z5⟩, by rw [this]; rfl, ⟨g0, by show z1.size ≤ _; omega, r2, r3, a3, g4, g5, r5, a5⟩, by show z2.length + z3.length + z5.length + 1 ≤ _; omega⟩

theorem open_ops6 {fuel : Nat} {cs : List Value} {x : DataW H × List MemPlace} (h : DataW.trod enc Try.prog W 0 (fun _ => true) true fuel 23 cs = some x) (hB : Rows.uptoBulk x.1 ≤ 1048576) :
    ∃ (v : Value) (l : List OpD), cs = [v] ∧ RdC 7 W v (l.map opL) ∧ (∀ a ∈ l, OkOp W a) ∧ (l.map opW).sum + 1 ≤ Rows.uptoBulk x.1 :=
  open_rows Try.underlying23 (by kernel_rfl : Try.prog.cellsOf 42 = 7) opL (by intro a; rfl) (by decide) (OkOp W) opW (fun n cs y h hB => open_op6 h hB) h hB

theorem open_run6 {fuel : Nat} {cs : List Value} {x : DataW H × List MemPlace} (h : DataW.trod enc Try.prog W 0 (fun _ => true) true fuel 25 cs = some x) (hB : Rows.uptoBulk x.1 ≤ 1048576) :
    ∃ (sec : Int) (fv ov : Value) (fs : List IFile) (os : List OpD), cs = [.int .i64 sec, fv, ov] ∧ Rng sec ∧ RdC 4 W fv (fs.map ifC) ∧ (∀ a ∈ fs, OkIf W a) ∧ RdC 7 W ov (os.map opL) ∧ (∀ a ∈ os, OkOp W a) ∧ (fs.map fun f => f.bs.length + 1).sum + (os.map opW).sum + 1 ≤ Rows.uptoBulk x.1 := by
  obtain ⟨xs, n, _, rfl, hl, hlen, hf⟩ := DataW.trod_struct Try.underlying25 h
  rw [show Try.prog.cellsOf 25 = 3 from by kernel_rfl] at hl
  match xs, hlen with
  | [y0, y1, y2], _ =>
    have f0 : DataW.trod enc Try.prog W 0 (fun _ => true) true n 3 ((cs.drop 0).take 1) = some y0 := by have this : DataW.trod enc Try.prog W 0 (fun _ => true) true n 3 ((cs.drop 0).take (Try.prog.cellsOf 3)) = some y0 := hf 0 _ rfl; rw [show Try.prog.cellsOf 3 = 1 from by kernel_rfl] at this; exact this
    have f1 : DataW.trod enc Try.prog W 0 (fun _ => true) true n 22 ((cs.drop 1).take 1) = some y1 := by have this : DataW.trod enc Try.prog W 0 (fun _ => true) true n 22 ((cs.drop 1).take (Try.prog.cellsOf 22)) = some y1 := hf 1 _ rfl; rw [show Try.prog.cellsOf 22 = 1 from by kernel_rfl] at this; exact this
    have f2 : DataW.trod enc Try.prog W 0 (fun _ => true) true n 23 ((cs.drop 2).take 1) = some y2 := by have this : DataW.trod enc Try.prog W 0 (fun _ => true) true n 23 ((cs.drop 2).take (Try.prog.cellsOf 23)) = some y2 := hf 2 _ rfl; rw [show Try.prog.cellsOf 23 = 1 from by kernel_rfl] at this; exact this
    simp only [List.map_cons, List.map_nil, Rows.uptoBulk, Rows.uptoBulkAll] at hB ⊢
    obtain ⟨z0, e0, q0, w0⟩ := DataW.trod_int Try.underlying3 f0
    have g0 := int_of_wf w0
    have b0 := bulk_one y0.1
    obtain ⟨v1, z1, e1, r1, a1, b1⟩ := open_files f1 (by omega)
    obtain ⟨v2, z2, e2, r2, a2, b2⟩ := open_ops6 f2 (by omega)
    have hd : cs.drop 3 = [] := List.drop_eq_nil_of_le (by omega)
    have this := k_split cs 0 1
    rw [e0, k_split cs 1 1, e1, k_split cs 2 1, e2, hd, List.drop_zero] at this
    exact ⟨z0, v1, v2, z1, z2, by rw [this]; rfl, g0, r1, a1, r2, a2, by omega⟩
end

end Go.Proofs.Ytlopdlcepmmjdaa
