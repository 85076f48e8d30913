import Derived.Test.YtlopdlcepmmjdaaDkL
import Derived.Test.YtlopdlcepmmjdaaDkE
import Derived.Laws.IdiomStrings
import Derived.Test.YtlopdlcepmmjdaaBase
import Derived.Test.YtlopdlcepmmjdaaRows
import Derived.ProofKit
import Derived.OpenShut
import Derived.Deep.Slices
import Derived.SizedLaws
import Derived.Test.YtlopdlcepmmjdaaDk20
import Derived.Test.YtlopdlcepmmjdaaDkI
import Derived.Sort.Walk0
import Derived.Test.YtlopdlcepmmjdaaDk25
import Derived.Test.YtlopdlcepmmjdaaDkF
import Derived.Test.YtlopdlcepmmjdaaRowz
import Derived.Deep.RegionHeld3
import Derived.Test.YtlopdlcepmmjdaaQWp
namespace Go.Proofs.Ytlopdlcepmmjdaa
open Go.RowKit Go.BigFrame Go.Maps Go.Sort
set_option linter.unusedVariables false
set_option linter.unusedSimpArgs false

theorem u8_total (a b : List UInt8) : (decide (a ≤ b) || decide (b ≤ a)) = true := by
  rcases List.le_total a b with h | h <;> simp [h]
theorem srtA_pw (A : List DF) : (srtA A).Pairwise fun a b => a.nm.data.toList ≤ b.nm.data.toList := by
  have h := List.pairwise_mergeSort (le := fun a b : DF => decide (a.nm.data.toList ≤ b.nm.data.toList)) (fun a b c h1 h2 => by simp at h1 h2 ⊢; exact List.le_trans h1 h2) (fun a b => u8_total _ _) A
  exact h.imp (fun h9 => by simpa using h9)
/-- A sorted list of files with these members is the sorted list. -/
theorem srtA_unique {A L : List DF} (hd : Dist A) (hp : L.Perm A) (hs : L.Pairwise fun a b => a.nm.data.toList ≤ b.nm.data.toList) : srtA A = L := by
  refine List.Perm.eq_of_pairwise (le := fun a b => a.nm.data.toList ≤ b.nm.data.toList) ?_ (srtA_pw A) hs ((srtA_perm A).trans hp.symm)
  intro a b ha hb h1 h2
  have ha' := srtA_mem.1 ha
  have hb' := hp.mem_iff.1 hb
  have hn := ba_ext (List.le_antisymm h1 h2)
  have e1 := findA_of hd ha'
  have e2 := findA_of hd hb'
  rw [hn, e2] at e1
  exact (Option.some.inj e1).symm
theorem srtA_map {A : List DF} (hd : Dist A) {g : DF → DF} (hg : ∀ x, (g x).nm = x.nm) : srtA (A.map g) = (srtA A).map g := by
  refine srtA_unique ?_ ((srtA_perm A).map g) ?_
  · rw [dist_iff, List.map_map]
    have : (DF.nm ∘ g) = DF.nm := by funext x; exact hg x
    rw [this]
    exact (dist_iff A).1 hd
  · rw [List.pairwise_map]
    exact (srtA_pw A).imp (fun h => by rw [hg, hg]; exact h)
theorem srtA_filter {A : List DF} (hd : Dist A) (p : DF → Bool) : srtA (A.filter p) = (srtA A).filter p := by
  refine srtA_unique (hd.sublist List.filter_sublist) ((srtA_perm A).filter p) ?_
  exact (srtA_pw A).sublist List.filter_sublist
theorem srtA_dist {A : List DF} (hd : Dist A) : Dist (srtA A) := by
  rw [dist_iff]
  exact ((srtA_perm A).map DF.nm).nodup_iff.2 ((dist_iff A).1 hd)
end Go.Proofs.Ytlopdlcepmmjdaa
namespace Go.Proofs.Ytlopdlcepmmjdaa
open Go.RowKit
set_option linter.unusedVariables false
set_option linter.unusedSimpArgs false

/-- The string that bytes make. -/
def strOf (p : List Nat) : ByteArray := ⟨(p.map UInt8.ofNat).toArray⟩

theorem ba_loop (s : ByteArray) : ∀ n i r, s.size - i = n → ByteArray.toList.loop s i r = r.reverse ++ s.data.toList.drop i := by
  intro n
  induction n with
  | zero =>
    intro i r h
    rw [ByteArray.toList.loop]
    have h1 : s.size = s.data.toList.length := (Array.length_toList).symm
    rw [if_neg (by omega), List.drop_eq_nil_of_le (by omega), List.append_nil]
  | succ n ih =>
    intro i r h
    rw [ByteArray.toList.loop]
    have h1 : s.size = s.data.toList.length := (Array.length_toList).symm
    have h2 : i < s.data.toList.length := by omega
    rw [if_pos (by omega), ih (i + 1) _ (by omega), List.drop_eq_getElem_cons h2]
    have h3 : s.get! i = s.data.toList[i] := by
      have h4 : i < s.data.size := by simpa using h2
      rw [Array.getElem_toList]
      exact getElem!_pos s.data i h4
    simp [h3]
theorem ba_toList (s : ByteArray) : s.toList = s.data.toList := by
  unfold ByteArray.toList
  rw [ba_loop s _ 0 [] rfl]
  simp

theorem strOf_inj {p q : List Nat} (hp : ∀ x ∈ p, x < 256) (hq : ∀ x ∈ q, x < 256) (h : strOf p = strOf q) : p = q := by
  have h1 : p.map UInt8.ofNat = q.map UInt8.ofNat := by
    have := congrArg (fun b => b.data.toList) h
    simpa [strOf] using this
  have h2 := congrArg (List.map UInt8.toNat) h1
  simp only [List.map_map] at h2
  have e : ∀ l : List Nat, (∀ x ∈ l, x < 256) → l.map (UInt8.toNat ∘ UInt8.ofNat) = l := by
    intro l hl
    conv => rhs; rw [← List.map_id l]
    apply List.map_congr_left
    intro x hx
    have := hl x hx
    simp [UInt8.toNat_ofNat]; omega
  rw [e p hp, e q hq] at h2
  exact h2

theorem conv_any (v : Value) (p : List Nat) (w : World) (h : Rd w v p) (hu5 : Try.prog.underlying 5 = some (.int .u8)) (hu9 : Try.prog.underlying 9 = some .string) :
    (convert 36 9 v).run Try.prog w = .ok (.string (strOf p)) w := by
  obtain ⟨ao, len, cap, rfl, rfl, h2, h3, h4, h5, h6⟩ := h
  have hl : p.length = (p.map UInt8.ofNat).length := by simp
  cases ao with
  | none =>
    have hz := h4 rfl
    have hp0 : p = [] := List.eq_nil_of_length_eq_zero (by omega)
    subst hp0
    rw [run_convert_bytes_string w 36 9 5 none _ cap Try.underlying36 hu5 hu9]
    simp [Conv.bytesToString, strOf]
    rfl
  | some a =>
    rw [hl]
    refine run_convert_bytes_back w 36 9 5 a cap (p.map UInt8.ofNat) Try.underlying36 hu5 hu9 (fun j hj => ?_)
    simp at hj
    obtain ⟨b, off, he, hc⟩ := h6 (by omega)
    cases he
    have := hc j hj
    rw [Addr.add_mid, this]
    have hb := h5 (p[j]) (List.getElem_mem hj)
    simp [u8, List.getD_eq_getElem?_getD, List.getElem?_eq_getElem hj, UInt8.toNat_ofNat]
    omega

set_option maxRecDepth 100000 in
set_option maxHeartbeats 2000000 in
theorem tsame_any (u v : Value) (p q : List Nat) (w : World) (hu : Rd w u p) (hv : Rd w v q) :
    Calls Try.prog 23 #[u, v] w fun e w' => e = .returned (.bool (decide (p = q))) ∧ w' = w := by
  have hu5 : Try.prog.underlying 5 = some (.int .u8) := by kernel_rfl
  have hu9 : Try.prog.underlying 9 = some .string := by kernel_rfl
  have c1 := conv_any u p w hu hu5 hu9
  have c2 := conv_any v q w hv hu5 hu9
  have hd : ((strOf p).toList == (strOf q).toList) = decide (p = q) := by
    rw [ba_toList, ba_toList]
    by_cases h : p = q
    · subst h; simp
    · have h2 : ¬ (strOf p).data.toList = (strOf q).data.toList := fun e => h (strOf_inj hu.byte hv.byte (by
        have e2 := congrArg List.toArray e
        simp only [Array.toArray_toList] at e2
        cases hp : strOf p; cases hq : strOf q
        rw [hp, hq] at e2
        simp only at e2
        rw [e2]))
      rw [decide_eq_false h]
      exact beq_eq_false_iff_ne.2 h2
  have Hd := hide hd
  generalize strOf p = s1 at *
  generalize strOf q = s2 at *
  clear hu hv hu5 hu9 hd
  go_enter Try.func23, Try.ntmps23
  go_wp2
  go_ret
  exact ⟨by rw [unhide Hd]; rfl, rfl⟩
end Go.Proofs.Ytlopdlcepmmjdaa
namespace Go.Proofs.Ytlopdlcepmmjdaa
open Go.RowKit Go.BigFrame Go.Maps Go.Sort
set_option linter.unusedVariables false
set_option linter.unusedSimpArgs false
set_option maxRecDepth 100000 in
set_option maxHeartbeats 400000 in
theorem file_any (n : Nat) (hn : n < 256) (w : World) :
    Calls Try.prog 61 #[.int .u8 n] w fun e w' => ∃ s, e = .returned (.string s) ∧ s.size ≤ 2 ∧ Kept [] w w' := by
  have hu5 : Try.prog.underlying 5 = some (.int .u8) := by kernel_rfl
  have hu9 : Try.prog.underlying 9 = some .string := by kernel_rfl
  have hk := (Kept.refl [] w).alloc (.cells #[.int .u8 102, .int .u8 (97 + (n : Int) % 5)] 5 (0, 0))
  have hg := heap_alloc_new w (.cells #[.int .u8 102, .int .u8 (97 + (n : Int) % 5)] 5 (0, 0))
  obtain ⟨W, hW⟩ : ∃ W, w.alloc (.cells #[.int .u8 102, .int .u8 (97 + (n : Int) % 5)] 5 (0, 0)) = W := ⟨_, rfl⟩
  rw [hW] at hk hg
  have hr : Rd W (.slice (some ⟨w.heap.size, 0, none⟩) 2 2) [102, 97 + n % 5] := by
    refine ⟨_, _, _, rfl, rfl, by simp, by simp, by simp, by intro x hx; simp at hx; omega, fun _ => ⟨w.heap.size, 0, rfl, ?_⟩⟩
    intro j hj
    have hj2 : j = 0 ∨ j = 1 := by have h9 : j < 2 := hj; omega
    rcases hj2 with rfl | rfl
    · have := cell_of_row _ _ 0 _ _ _ hg
      simpa [u8] using this
    · have := cell_of_row _ _ 1 _ _ _ hg
      simpa [u8] using this
  have hc := conv_any _ _ W hr hu5 hu9
  have hs : (strOf [102, 97 + n % 5]).size ≤ 2 := by simp [strOf, ByteArray.size]
  generalize strOf [102, 97 + n % 5] = s at hc hs
  have HW := hide hW
  have HK := hide hk
  clear hr hg hW hk hu5 hu9
  go_enter Try.func61, Try.ntmps61
  go_wp2_with (first | (rw [unhide HW]) | fail)
  go_ret
  exact ⟨s, rfl, hs, unhide HK⟩
end Go.Proofs.Ytlopdlcepmmjdaa
namespace Go.Proofs.Ytlopdlcepmmjdaa
open Go.ChangeShapes Go.WideShapes Go.ChangeAt Go.RowKit Go.Deep
set_option linter.unusedVariables false
set_option linter.unusedSimpArgs false

theorem own : ownKnob Try.prog.godebug = none := by kernel_rfl
theorem laidOut : laidOutB Try.prog = true := by kernel_rfl
theorem byte_of_wf {x : Int} (h : (Lit.int .u8 x).wf = true) : 0 ≤ x ∧ x < 256 := by
  simp [Lit.wf, IntKind.min, IntKind.max, IntKind.signed, IntKind.bits] at h
  exact ⟨by omega, by omega⟩
theorem int_of_wf {x : Int} (h : (Lit.int .i64 x).wf = true) : -9223372036854775808 ≤ x ∧ x ≤ 9223372036854775807 := by
  simp [Lit.wf, IntKind.min, IntKind.max, IntKind.signed, IntKind.bits] at h
  exact ⟨by omega, by omega⟩

theorem bulk_one {H : Type} (d : DataW H) : 1 ≤ Rows.uptoBulk d := by
  cases d with
  | lit l => cases l <;> simp [Rows.uptoBulk]
  | nil => simp [Rows.uptoBulk]
  | ptr d => simp [Rows.uptoBulk]
  | slice elems spare => simp [Rows.uptoBulk]
  | agg parts => simp [Rows.uptoBulk]
  | iface t d => simp [Rows.uptoBulk]
  | map entries => simp [Rows.uptoBulk]
  | held h => simp [Rows.uptoBulk]
theorem bulk_len {H : Type} (l : List (DataW H)) : l.length ≤ Rows.uptoBulkAll l := by
  induction l with
  | nil => simp [Rows.uptoBulkAll]
  | cons x r ih => have := bulk_one x; simp only [Rows.uptoBulkAll, List.length_cons]; omega
theorem Try.bytes5 : Try.prog.bytesOf 5 = 1 := by kernel_rfl

section
variable {H : Type} {enc : TypeId × Value → H} {W : World}

/-- Bytes that came in, as the walks want them, of whatever length. -/
theorem open_bytes {fuel : Nat} {cs : List Value} {x : DataW H × List MemPlace} (h : DataW.trod enc Try.prog W 0 (fun _ => true) true fuel 36 cs = some x) :
    ∃ v bs, cs = [v] ∧ (bs.length ≤ 140737488355328 → Rd W v bs) ∧ ((bs = [] ∧ x.1 = .nil) ∨ ∃ elems spare, x.1 = .slice elems spare ∧ elems.length = bs.length) := by
  rcases open_ints Try.underlying36 Try.underlying5 (by kernel_rfl) h with ⟨rfl, rfl⟩ | ⟨a, len, cap, zs, rfl, _, hl, hm, hz, rfl, hcell, hwz⟩
  · exact ⟨_, [], rfl, fun _ => Rd.nil W, .inl ⟨rfl, rfl⟩⟩
  · have h2 : (lits (H := H) .u8 (zs.take len)).length = len := by simp only [lits, List.length_map, List.length_take]; simp at hz; omega
    have hbl : ((zs.take len).map Int.toNat).length = len := by simp at hz; simp; omega
    refine ⟨_, (zs.take len).map Int.toNat, rfl, fun hB => ⟨_, _, _, rfl, hbl, hl, ⟨by unfold maxLen at hm; omega, by omega⟩, by simp, ?_, ?_⟩, .inr ⟨_, _, rfl, by rw [h2, hbl]⟩⟩
    · intro y hy
      obtain ⟨z, hz1, rfl⟩ := List.mem_map.1 hy
      have := byte_of_wf (hwz z (List.mem_of_mem_take hz1)); omega
    · intro hp
      simp at hz
      have hc0 := hcell 0 (by omega)
      obtain ⟨b, off, spot⟩ := a
      have hspot : spot = none := by simpa [Addr.add] using World.cell?_spot hc0
      subst hspot
      refine ⟨b, off, rfl, fun i hi => ?_⟩
      have hc := hcell i (by omega)
      have hzi : i < zs.length := by omega
      rw [Addr.add_mid] at hc
      rw [hc]
      have hw := byte_of_wf (hwz (zs[i]) (List.getElem_mem hzi))
      simp only [List.getD_eq_getElem?_getD, List.getElem?_eq_getElem hzi, Option.getD_some, List.getElem?_map, List.getElem?_take, hi, if_true, Option.map_some]
      simp [u8]; omega
/-- Their length, by the reach. -/
theorem reach_bytes {ts : List TypeId} {ds : List (DataW H)} (h : (DataW.weightsEach Try.prog ts ds).all (· ≤ reachBytes) = true) {j : Nat} (ht : ts[j]? = some 36) {d : DataW H} (hd : ds[j]? = some d) {bs : List Nat}
    (hx : (bs = [] ∧ d = .nil) ∨ ∃ elems spare, d = .slice elems spare ∧ elems.length = bs.length) : bs.length ≤ 140737488351232 := by
  rcases hx with ⟨rfl, _⟩ | ⟨elems, spare, rfl, he⟩
  · simp
  · have := sized_slice h ht hd Try.underlying36
    rw [Try.bytes5, Nat.mul_one] at this
    unfold reachBytes at this
    omega
/-- Their length, by the bulk. -/
theorem bulk_bytes {d : DataW H} {bs : List Nat} (hx : (bs = [] ∧ d = .nil) ∨ ∃ elems spare, d = .slice elems spare ∧ elems.length = bs.length) : bs.length + 1 ≤ Rows.uptoBulk d := by
  rcases hx with ⟨rfl, rfl⟩ | ⟨elems, spare, rfl, he⟩
  · simp [Rows.uptoBulk]
  · have := bulk_len elems
    simp only [Rows.uptoBulk]; omega
end
end Go.Proofs.Ytlopdlcepmmjdaa
namespace Go.Proofs.Ytlopdlcepmmjdaa
open Go.ChangeShapes Go.WideShapes Go.ChangeAt Go.RowKit Go.Deep
set_option linter.unusedVariables false
set_option linter.unusedSimpArgs false

/-- A file that came in. -/
structure IFile where
  nm : ByteArray
  v : Value
  bs : List Nat
  sy : Int
  nd : Bool

def ifC (f : IFile) : List Value := [.string f.nm, f.v, .int .i64 f.sy, .bool f.nd]
def faC (x : Int × Int) : List Value := [.int .i64 x.1, .int .i64 x.2]
def Rng (x : Int) : Prop := -9223372036854775808 ≤ x ∧ x ≤ 9223372036854775807
def OkKe (k : KeepD) : Prop := k.nm.size ≤ 1048576 ∧ Rng k.kb
def OkFa (x : Int × Int) : Prop := Rng x.1 ∧ Rng x.2
def OkIf (W : World) (f : IFile) : Prop := Rd W f.v f.bs ∧ f.nm.size ≤ 1048576 ∧ Rng f.sy
/-- A call that came in. -/
structure OpD where
  k : Int
  s : ByteArray
  pv : Value
  ps : List Nat
  fv : Value
  fl : List (Int × Int)
  cr : Int
  n : Int
  kv : Value
  ks : List KeepD

def opL (o : OpD) : List Value := [.int .i64 o.k, .string o.s, o.pv, o.fv, .int .i64 o.cr, .int .i64 o.n, o.kv]
structure OkOp (W : World) (o : OpD) : Prop where
  k : Rng o.k
  s : o.s.size ≤ 1048576
  p : Rd W o.pv o.ps
  f : RdC 2 W o.fv (o.fl.map faC)
  fr : ∀ x ∈ o.fl, OkFa x
  cr : Rng o.cr
  n : Rng o.n
  kk : RdC 3 W o.kv (o.ks.map keC)
  kr : ∀ x ∈ o.ks, OkKe x
def opW (o : OpD) : Nat := o.ps.length + o.fl.length + o.ks.length + 1

section
variable {H : Type} {enc : TypeId × Value → H} {W : World}

theorem k_part {d : DataW H} {l : List (DataW H)} (h : d ∈ l) : Rows.uptoBulk d ≤ Rows.uptoBulkAll l := by
  induction l with
  | nil => simp at h
  | cons a l ih =>
    simp only [Rows.uptoBulkAll]
    rcases List.mem_cons.1 h with rfl | h
    · omega
    · have := ih h; omega
theorem k_sum {α : Type} (D : Nat → DataW H) (f : Nat → α) (μ : α → Nat) (l : List Nat) (h : ∀ i ∈ l, μ (f i) ≤ Rows.uptoBulk (D i)) : ((l.map f).map μ).sum ≤ Rows.uptoBulkAll (l.map D) := by
  induction l with
  | nil => simp
  | cons a l ih =>
    have h1 := h a (by simp)
    have h2 := ih (fun i hi => h i (by simp [hi]))
    simp only [List.map_cons, Rows.uptoBulkAll, List.sum_cons]
    omega
theorem k_split (cs : List Value) (a n : Nat) : cs.drop a = (cs.drop a).take n ++ cs.drop (a + n) := by
  rw [← List.drop_drop, List.take_append_drop]
/-- A slice of rows that came in. -/
theorem open_rows {T E : TypeId} {s : Nat} (hu : Try.prog.underlying T = some (.slice E)) (hC : Try.prog.cellsOf E = s) {α : Type} [Inhabited α] (mk : α → List Value) (hne : ∀ a, (mk a).length = s) (hs0 : 0 < s) (Q : α → Prop) (μ : α → Nat)
    (hel : ∀ (n : Nat) (cs : List Value) (y : DataW H × List MemPlace), DataW.trod enc Try.prog W 0 (fun _ => true) true n E cs = some y → Rows.uptoBulk y.1 ≤ 1048576 → ∃ a, cs = mk a ∧ Q a ∧ μ a ≤ Rows.uptoBulk y.1)
    {fuel : Nat} {cs : List Value} {x : DataW H × List MemPlace} (h : DataW.trod enc Try.prog W 0 (fun _ => true) true fuel T cs = some x) (hB : Rows.uptoBulk x.1 ≤ 1048576) :
    ∃ (v : Value) (l : List α), cs = [v] ∧ RdC s W v (l.map mk) ∧ (∀ a ∈ l, Q a) ∧ (l.map μ).sum + 1 ≤ Rows.uptoBulk x.1 := by
  rcases open_slice hu h with ⟨rfl, rfl⟩ | ⟨a, len, cap, m, n, D, Pl, rfl, _, hl, hm, hmm, rfl, hx⟩
  · exact ⟨_, [], rfl, RdC.nil s W, by simp, by simp [Rows.uptoBulk]⟩
  · rw [hC] at hx
    simp only [if_true] at hmm
    simp only [Rows.uptoBulk] at hB ⊢
    obtain ⟨f, hf⟩ := choose_lt (α := α) (n := len) (p := fun i o => ((∀ j v, (mk o)[j]? = some v → W.cell? ((a.add (i * s)).add j) = some v) ∧ Q o) ∧ μ o ≤ Rows.uptoBulk (D i)) (by
      intro i hi
      obtain ⟨cs', h1, h2⟩ := hx i (by omega)
      have hDi : Rows.uptoBulk (D i) ≤ Rows.uptoBulkAll ((List.range len).map D) := k_part (List.mem_map.2 ⟨i, List.mem_range.2 hi, rfl⟩)
      obtain ⟨o, rfl, ho, hbb⟩ := hel _ _ _ h2 (by simp only; omega)
      obtain ⟨_, hlen, hc⟩ := World.cells?_some h1
      refine ⟨o, ⟨fun j v hv => ?_, ho⟩, hbb⟩
      have hj := (List.getElem?_eq_some_iff.1 hv).1
      have := hc j (by rw [hne] at hj; exact hj)
      rw [this, ← hv, List.getElem?_eq_getElem hj])
    refine ⟨_, (List.range len).map f, rfl, ⟨some a, len, cap, rfl, by simp, hl, by unfold maxLen at hm; omega, ?_⟩, ?_, ?_⟩
    · intro hp
      obtain ⟨b, off, spot⟩ := a
      have h0 := (hf 0 hp).1.1
      have hc0 := h0 0 _ (List.getElem?_eq_getElem (by rw [hne]; exact hs0))
      have hspot : spot = none := by simpa [Addr.add] using World.cell?_spot hc0
      subst hspot
      refine ⟨b, off, rfl, fun i hi j v hv => ?_⟩
      have hi' : i < len := by simpa using hi
      have e9 : (((List.range len).map f).map mk)[i] = mk (f i) := by simp
      rw [e9] at hv
      have := (hf i hi').1.1 j v hv
      rw [Addr.add_mid, Addr.add_mid] at this
      exact this
    · intro o ho
      obtain ⟨i, hi, rfl⟩ := List.mem_map.1 ho
      exact (hf i (List.mem_range.1 hi)).1.2
    · have := k_sum D f μ (List.range len) (fun i hi => (hf i (List.mem_range.1 hi)).2)
      omega
instance : Inhabited KeepD := ⟨⟨⟨#[]⟩, 0, false⟩⟩
instance : Inhabited IFile := ⟨⟨⟨#[]⟩, undef, [], 0, false⟩⟩
instance : Inhabited OpD := ⟨⟨0, ⟨#[]⟩, undef, [], undef, [], 0, 0, undef, []⟩⟩
theorem sum_len {α : Type} (l : List α) (μ : α → Nat) (h : ∀ a, 1 ≤ μ a) : l.length ≤ (l.map μ).sum := by
  induction l with
  | nil => simp
  | cons a l ih => have := h a; simp only [List.length_cons, List.map_cons, List.sum_cons]; omega

theorem open_keep {fuel : Nat} {cs : List Value} {x : DataW H × List MemPlace} (h : DataW.trod enc Try.prog W 0 (fun _ => true) true fuel 72 cs = some x) (hB : Rows.uptoBulk x.1 ≤ 1048576) :
    ∃ k : KeepD, cs = keC k ∧ OkKe k ∧ 1 ≤ Rows.uptoBulk x.1 := by
  obtain ⟨xs, n, _, rfl, hl, hlen, hf⟩ := DataW.trod_struct Try.underlying72 h
  rw [show Try.prog.cellsOf 72 = 3 from by kernel_rfl] at hl
  match xs, hlen with
  | [y0, y1, y2], _ =>
    have f0 : DataW.trod enc Try.prog W 0 (fun _ => true) true n 9 ((cs.drop 0).take 1) = some y0 := by have this : DataW.trod enc Try.prog W 0 (fun _ => true) true n 9 ((cs.drop 0).take (Try.prog.cellsOf 9)) = some y0 := hf 0 _ rfl; rw [show Try.prog.cellsOf 9 = 1 from by kernel_rfl] at this; exact this
    have f1 : DataW.trod enc Try.prog W 0 (fun _ => true) true n 3 ((cs.drop 1).take 1) = some y1 := by have this : DataW.trod enc Try.prog W 0 (fun _ => true) true n 3 ((cs.drop 1).take (Try.prog.cellsOf 3)) = some y1 := hf 1 _ rfl; rw [show Try.prog.cellsOf 3 = 1 from by kernel_rfl] at this; exact this
    have f2 : DataW.trod enc Try.prog W 0 (fun _ => true) true n 4 ((cs.drop 2).take 1) = some y2 := by have this : DataW.trod enc Try.prog W 0 (fun _ => true) true n 4 ((cs.drop 2).take (Try.prog.cellsOf 4)) = some y2 := hf 2 _ rfl; rw [show Try.prog.cellsOf 4 = 1 from by kernel_rfl] at this; exact this
    simp only [List.map_cons, List.map_nil, Rows.uptoBulk, Rows.uptoBulkAll] at hB ⊢
    obtain ⟨z0, e0, q0, w0⟩ := DataW.trod_string Try.underlying9 f0
    have b0 : z0.size + 1 ≤ Rows.uptoBulk y0.1 := by rw [q0]; show _ ≤ z0.data.toList.length + 1; rw [Array.length_toList]; exact Nat.le_refl _
    obtain ⟨z1, e1, q1, w1⟩ := DataW.trod_int Try.underlying3 f1
    have g1 := int_of_wf w1
    have b1 := bulk_one y1.1
    obtain ⟨z2, e2, q2⟩ := DataW.trod_bool Try.underlying4 f2
    have b2 := bulk_one y2.1
    have hd : cs.drop 3 = [] := List.drop_eq_nil_of_le (by omega)
    have this := k_split cs 0 1
    rw [e0, k_split cs 1 1, e1, k_split cs 2 1, e2, hd, List.drop_zero] at this
    exact ⟨⟨z0, z1, z2⟩, by rw [this]; rfl, ⟨by show z0.size ≤ _; omega, g1⟩, by omega⟩

theorem open_keeps {fuel : Nat} {cs : List Value} {x : DataW H × List MemPlace} (h : DataW.trod enc Try.prog W 0 (fun _ => true) true fuel 38 cs = some x) (hB : Rows.uptoBulk x.1 ≤ 1048576) :
    ∃ (v : Value) (l : List KeepD), cs = [v] ∧ RdC 3 W v (l.map keC) ∧ (∀ a ∈ l, OkKe a) ∧ l.length + 1 ≤ Rows.uptoBulk x.1 := by
  obtain ⟨v, l, h1, h2, h3, h4⟩ := open_rows Try.underlying38 (by kernel_rfl : Try.prog.cellsOf 72 = 3) keC (by intro a; rfl) (by decide) OkKe (fun _ => 1) (fun n cs y h hB => open_keep h hB) h hB
  exact ⟨v, l, h1, h2, h3, by have := sum_len l (fun _ => 1) (by simp); omega⟩

theorem open_fault {fuel : Nat} {cs : List Value} {x : DataW H × List MemPlace} (h : DataW.trod enc Try.prog W 0 (fun _ => true) true fuel 104 cs = some x) (hB : Rows.uptoBulk x.1 ≤ 1048576) :
    ∃ k : Int × Int, cs = faC k ∧ OkFa k ∧ 1 ≤ Rows.uptoBulk x.1 := by
  obtain ⟨xs, n, _, rfl, hl, hlen, hf⟩ := DataW.trod_struct Try.underlying104 h
  rw [show Try.prog.cellsOf 104 = 2 from by kernel_rfl] at hl
  match xs, hlen with
  | [y0, y1], _ =>
    have f0 : DataW.trod enc Try.prog W 0 (fun _ => true) true n 3 ((cs.drop 0).take 1) = some y0 := by have this : DataW.trod enc Try.prog W 0 (fun _ => true) true n 3 ((cs.drop 0).take (Try.prog.cellsOf 3)) = some y0 := hf 0 _ rfl; rw [show Try.prog.cellsOf 3 = 1 from by kernel_rfl] at this; exact this
    have f1 : DataW.trod enc Try.prog W 0 (fun _ => true) true n 3 ((cs.drop 1).take 1) = some y1 := by have this : DataW.trod enc Try.prog W 0 (fun _ => true) true n 3 ((cs.drop 1).take (Try.prog.cellsOf 3)) = some y1 := hf 1 _ rfl; rw [show Try.prog.cellsOf 3 = 1 from by kernel_rfl] at this; exact this
    simp only [List.map_cons, List.map_nil, Rows.uptoBulk, Rows.uptoBulkAll] at hB ⊢
    obtain ⟨z0, e0, q0, w0⟩ := DataW.trod_int Try.underlying3 f0
    have g0 := int_of_wf w0
    have b0 := bulk_one y0.1
    obtain ⟨z1, e1, q1, w1⟩ := DataW.trod_int Try.underlying3 f1
    have g1 := int_of_wf w1
    have b1 := bulk_one y1.1
    have hd : cs.drop 2 = [] := List.drop_eq_nil_of_le (by omega)
    have this := k_split cs 0 1
    rw [e0, k_split cs 1 1, e1, hd, List.drop_zero] at this
    exact ⟨(z0, z1), by rw [this]; rfl, ⟨g0, g1⟩, by omega⟩

theorem open_faults {fuel : Nat} {cs : List Value} {x : DataW H × List MemPlace} (h : DataW.trod enc Try.prog W 0 (fun _ => true) true fuel 37 cs = some x) (hB : Rows.uptoBulk x.1 ≤ 1048576) :
    ∃ (v : Value) (l : List (Int × Int)), cs = [v] ∧ RdC 2 W v (l.map faC) ∧ (∀ a ∈ l, OkFa a) ∧ l.length + 1 ≤ Rows.uptoBulk x.1 := by
  obtain ⟨v, l, h1, h2, h3, h4⟩ := open_rows Try.underlying37 (by kernel_rfl : Try.prog.cellsOf 104 = 2) faC (by intro a; rfl) (by decide) OkFa (fun _ => 1) (fun n cs y h hB => open_fault h hB) h hB
  exact ⟨v, l, h1, h2, h3, by have := sum_len l (fun _ => 1) (by simp); omega⟩

theorem open_file {fuel : Nat} {cs : List Value} {x : DataW H × List MemPlace} (h : DataW.trod enc Try.prog W 0 (fun _ => true) true fuel 54 cs = some x) (hB : Rows.uptoBulk x.1 ≤ 1048576) :
    ∃ f : IFile, cs = ifC f ∧ OkIf W f ∧ f.bs.length + 1 ≤ Rows.uptoBulk x.1 := by
  obtain ⟨xs, n, _, rfl, hl, hlen, hf⟩ := DataW.trod_struct Try.underlying54 h
  rw [show Try.prog.cellsOf 54 = 4 from by kernel_rfl] at hl
  match xs, hlen with
  | [y0, y1, y2, y3], _ =>
    have f0 : DataW.trod enc Try.prog W 0 (fun _ => true) true n 9 ((cs.drop 0).take 1) = some y0 := by have this : DataW.trod enc Try.prog W 0 (fun _ => true) true n 9 ((cs.drop 0).take (Try.prog.cellsOf 9)) = some y0 := hf 0 _ rfl; rw [show Try.prog.cellsOf 9 = 1 from by kernel_rfl] at this; exact this
    have f1 : DataW.trod enc Try.prog W 0 (fun _ => true) true n 36 ((cs.drop 1).take 1) = some y1 := by have this : DataW.trod enc Try.prog W 0 (fun _ => true) true n 36 ((cs.drop 1).take (Try.prog.cellsOf 36)) = some y1 := hf 1 _ rfl; rw [show Try.prog.cellsOf 36 = 1 from by kernel_rfl] at this; exact this
    have f2 : DataW.trod enc Try.prog W 0 (fun _ => true) true n 3 ((cs.drop 2).take 1) = some y2 := by have this : DataW.trod enc Try.prog W 0 (fun _ => true) true n 3 ((cs.drop 2).take (Try.prog.cellsOf 3)) = some y2 := hf 2 _ rfl; rw [show Try.prog.cellsOf 3 = 1 from by kernel_rfl] at this; exact this
    have f3 : DataW.trod enc Try.prog W 0 (fun _ => true) true n 4 ((cs.drop 3).take 1) = some y3 := by have this : DataW.trod enc Try.prog W 0 (fun _ => true) true n 4 ((cs.drop 3).take (Try.prog.cellsOf 4)) = some y3 := hf 3 _ rfl; rw [show Try.prog.cellsOf 4 = 1 from by kernel_rfl] at this; exact this
    simp only [List.map_cons, List.map_nil, Rows.uptoBulk, Rows.uptoBulkAll] at hB ⊢
    obtain ⟨z0, e0, q0, w0⟩ := DataW.trod_string Try.underlying9 f0
    have b0 : z0.size + 1 ≤ Rows.uptoBulk y0.1 := by rw [q0]; show _ ≤ z0.data.toList.length + 1; rw [Array.length_toList]; exact Nat.le_refl _
    obtain ⟨v1, z1, e1, hr1, hb1⟩ := open_bytes f1
    have b1 := bulk_bytes hb1
    have r1 := hr1 (by omega)
    obtain ⟨z2, e2, q2, w2⟩ := DataW.trod_int Try.underlying3 f2
    have g2 := int_of_wf w2
    have b2 := bulk_one y2.1
    obtain ⟨z3, e3, q3⟩ := DataW.trod_bool Try.underlying4 f3
    have b3 := bulk_one y3.1
    have hd : cs.drop 4 = [] := List.drop_eq_nil_of_le (by omega)
    have this := k_split cs 0 1
    rw [e0, k_split cs 1 1, e1, k_split cs 2 1, e2, k_split cs 3 1, e3, hd, List.drop_zero] at this
    exact ⟨⟨z0, v1, z1, z2, z3⟩, by rw [this]; rfl, ⟨r1, by show z0.size ≤ _; omega, g2⟩, by show z1.length + 1 ≤ _; omega⟩

theorem open_files {fuel : Nat} {cs : List Value} {x : DataW H × List MemPlace} (h : DataW.trod enc Try.prog W 0 (fun _ => true) true fuel 22 cs = some x) (hB : Rows.uptoBulk x.1 ≤ 1048576) :
    ∃ (v : Value) (l : List IFile), cs = [v] ∧ RdC 4 W v (l.map ifC) ∧ (∀ a ∈ l, OkIf W a) ∧ (l.map fun f => f.bs.length + 1).sum + 1 ≤ Rows.uptoBulk x.1 :=
  open_rows Try.underlying22 (by kernel_rfl : Try.prog.cellsOf 54 = 4) ifC (by intro a; rfl) (by decide) (OkIf W) (fun f => f.bs.length + 1) (fun n cs y h hB => open_file h hB) h hB

theorem open_fate {fuel : Nat} {cs : List Value} {x : DataW H × List MemPlace} (h : DataW.trod enc Try.prog W 0 (fun _ => true) true fuel 40 cs = some x) (hB : Rows.uptoBulk x.1 ≤ 1048576) :
    ∃ (n : Int) (v : Value) (l : List KeepD), cs = [.int .i64 n, v] ∧ Rng n ∧ RdC 3 W v (l.map keC) ∧ (∀ a ∈ l, OkKe a) ∧ l.length + 1 ≤ Rows.uptoBulk x.1 := by
  obtain ⟨xs, n, _, rfl, hl, hlen, hf⟩ := DataW.trod_struct Try.underlying40 h
  rw [show Try.prog.cellsOf 40 = 2 from by kernel_rfl] at hl
  match xs, hlen with
  | [y0, y1], _ =>
    have f0 : DataW.trod enc Try.prog W 0 (fun _ => true) true n 3 ((cs.drop 0).take 1) = some y0 := by have this : DataW.trod enc Try.prog W 0 (fun _ => true) true n 3 ((cs.drop 0).take (Try.prog.cellsOf 3)) = some y0 := hf 0 _ rfl; rw [show Try.prog.cellsOf 3 = 1 from by kernel_rfl] at this; exact this
    have f1 : DataW.trod enc Try.prog W 0 (fun _ => true) true n 38 ((cs.drop 1).take 1) = some y1 := by have this : DataW.trod enc Try.prog W 0 (fun _ => true) true n 38 ((cs.drop 1).take (Try.prog.cellsOf 38)) = some y1 := hf 1 _ rfl; rw [show Try.prog.cellsOf 38 = 1 from by kernel_rfl] at this; exact this
    simp only [List.map_cons, List.map_nil, Rows.uptoBulk, Rows.uptoBulkAll] at hB ⊢
    obtain ⟨z0, e0, q0, w0⟩ := DataW.trod_int Try.underlying3 f0
    have g0 := int_of_wf w0
    have b0 := bulk_one y0.1
    obtain ⟨v1, z1, e1, r1, a1, b1⟩ := open_keeps f1 (by omega)
    have hd : cs.drop 2 = [] := List.drop_eq_nil_of_le (by omega)
    have this := k_split cs 0 1
    rw [e0, k_split cs 1 1, e1, hd, List.drop_zero] at this
    exact ⟨z0, v1, z1, by rw [this]; rfl, g0, r1, a1, by omega⟩

theorem open_op6 {fuel : Nat} {cs : List Value} {x : DataW H × List MemPlace} (h : DataW.trod enc Try.prog W 0 (fun _ => true) true fuel 42 cs = some x) (hB : Rows.uptoBulk x.1 ≤ 1048576) :
    ∃ o : OpD, cs = opL o ∧ OkOp W o ∧ opW o ≤ Rows.uptoBulk x.1 := by
  obtain ⟨xs, n, _, rfl, hl, hlen, hf⟩ := DataW.trod_struct Try.underlying42 h
  rw [show Try.prog.cellsOf 42 = 7 from by kernel_rfl] at hl
  match xs, hlen with
  | [y0, y1, y2, y3, y4, y5], _ =>
    have f0 : DataW.trod enc Try.prog W 0 (fun _ => true) true n 3 ((cs.drop 0).take 1) = some y0 := by have this : DataW.trod enc Try.prog W 0 (fun _ => true) true n 3 ((cs.drop 0).take (Try.prog.cellsOf 3)) = some y0 := hf 0 _ rfl; rw [show Try.prog.cellsOf 3 = 1 from by kernel_rfl] at this; exact this
    have f1 : DataW.trod enc Try.prog W 0 (fun _ => true) true n 9 ((cs.drop 1).take 1) = some y1 := by have this : DataW.trod enc Try.prog W 0 (fun _ => true) true n 9 ((cs.drop 1).take (Try.prog.cellsOf 9)) = some y1 := hf 1 _ rfl; rw [show Try.prog.cellsOf 9 = 1 from by kernel_rfl] at this; exact this
    have f2 : DataW.trod enc Try.prog W 0 (fun _ => true) true n 36 ((cs.drop 2).take 1) = some y2 := by have this : DataW.trod enc Try.prog W 0 (fun _ => true) true n 36 ((cs.drop 2).take (Try.prog.cellsOf 36)) = some y2 := hf 2 _ rfl; rw [show Try.prog.cellsOf 36 = 1 from by kernel_rfl] at this; exact this
    have f3 : DataW.trod enc Try.prog W 0 (fun _ => true) true n 37 ((cs.drop 3).take 1) = some y3 := by have this : DataW.trod enc Try.prog W 0 (fun _ => true) true n 37 ((cs.drop 3).take (Try.prog.cellsOf 37)) = some y3 := hf 3 _ rfl; rw [show Try.prog.cellsOf 37 = 1 from by kernel_rfl] at this; exact this
    have f4 : DataW.trod enc Try.prog W 0 (fun _ => true) true n 3 ((cs.drop 4).take 1) = some y4 := by have this : DataW.trod enc Try.prog W 0 (fun _ => true) true n 3 ((cs.drop 4).take (Try.prog.cellsOf 3)) = some y4 := hf 4 _ rfl; rw [show Try.prog.cellsOf 3 = 1 from by kernel_rfl] at this; exact this
    have f5 : DataW.trod enc Try.prog W 0 (fun _ => true) true n 40 ((cs.drop 5).take 2) = some y5 := by have this : DataW.trod enc Try.prog W 0 (fun _ => true) true n 40 ((cs.drop 5).take (Try.prog.cellsOf 40)) = some y5 := hf 5 _ rfl; rw [show Try.prog.cellsOf 40 = 2 from by kernel_rfl] at this; exact this
    simp only [List.map_cons, List.map_nil, Rows.uptoBulk, Rows.uptoBulkAll] at hB ⊢
    obtain ⟨z0, e0, q0, w0⟩ := DataW.trod_int Try.underlying3 f0
    have g0 := int_of_wf w0
    have b0 := bulk_one y0.1
    obtain ⟨z1, e1, q1, w1⟩ := DataW.trod_string Try.underlying9 f1
    have b1 : z1.size + 1 ≤ Rows.uptoBulk y1.1 := by rw [q1]; show _ ≤ z1.data.toList.length + 1; rw [Array.length_toList]; exact Nat.le_refl _
    obtain ⟨v2, z2, e2, hr2, hb2⟩ := open_bytes f2
    have b2 := bulk_bytes hb2
    have r2 := hr2 (by omega)
    obtain ⟨v3, z3, e3, r3, a3, b3⟩ := open_faults f3 (by omega)
    obtain ⟨z4, e4, q4, w4⟩ := DataW.trod_int Try.underlying3 f4
    have g4 := int_of_wf w4
    have b4 := bulk_one y4.1
    obtain ⟨n5, v5, z5, e5, g5, r5, a5, b5⟩ := open_fate f5 (by omega)
    have hd : cs.drop 7 = [] := List.drop_eq_nil_of_le (by omega)
    have this := k_split cs 0 1
    rw [e0, k_split cs 1 1, e1, k_split cs 2 1, e2, k_split cs 3 1, e3, k_split cs 4 1, e4, k_split cs 5 2, e5, hd, List.drop_zero] at this
    exact ⟨⟨z0, z1, v2, z2, v3, z3, z4, n5, v5, z5⟩, by rw [this]; rfl, ⟨g0, by show z1.size ≤ _; omega, r2, r3, a3, g4, g5, r5, a5⟩, by show z2.length + z3.length + z5.length + 1 ≤ _; omega⟩

theorem open_ops6 {fuel : Nat} {cs : List Value} {x : DataW H × List MemPlace} (h : DataW.trod enc Try.prog W 0 (fun _ => true) true fuel 23 cs = some x) (hB : Rows.uptoBulk x.1 ≤ 1048576) :
    ∃ (v : Value) (l : List OpD), cs = [v] ∧ RdC 7 W v (l.map opL) ∧ (∀ a ∈ l, OkOp W a) ∧ (l.map opW).sum + 1 ≤ Rows.uptoBulk x.1 :=
  open_rows Try.underlying23 (by kernel_rfl : Try.prog.cellsOf 42 = 7) opL (by intro a; rfl) (by decide) (OkOp W) opW (fun n cs y h hB => open_op6 h hB) h hB

theorem open_run6 {fuel : Nat} {cs : List Value} {x : DataW H × List MemPlace} (h : DataW.trod enc Try.prog W 0 (fun _ => true) true fuel 25 cs = some x) (hB : Rows.uptoBulk x.1 ≤ 1048576) :
    ∃ (sec : Int) (fv ov : Value) (fs : List IFile) (os : List OpD), cs = [.int .i64 sec, fv, ov] ∧ Rng sec ∧ RdC 4 W fv (fs.map ifC) ∧ (∀ a ∈ fs, OkIf W a) ∧ RdC 7 W ov (os.map opL) ∧ (∀ a ∈ os, OkOp W a) ∧ (fs.map fun f => f.bs.length + 1).sum + (os.map opW).sum + 1 ≤ Rows.uptoBulk x.1 := by
  obtain ⟨xs, n, _, rfl, hl, hlen, hf⟩ := DataW.trod_struct Try.underlying25 h
  rw [show Try.prog.cellsOf 25 = 3 from by kernel_rfl] at hl
  match xs, hlen with
  | [y0, y1, y2], _ =>
    have f0 : DataW.trod enc Try.prog W 0 (fun _ => true) true n 3 ((cs.drop 0).take 1) = some y0 := by have this : DataW.trod enc Try.prog W 0 (fun _ => true) true n 3 ((cs.drop 0).take (Try.prog.cellsOf 3)) = some y0 := hf 0 _ rfl; rw [show Try.prog.cellsOf 3 = 1 from by kernel_rfl] at this; exact this
    have f1 : DataW.trod enc Try.prog W 0 (fun _ => true) true n 22 ((cs.drop 1).take 1) = some y1 := by have this : DataW.trod enc Try.prog W 0 (fun _ => true) true n 22 ((cs.drop 1).take (Try.prog.cellsOf 22)) = some y1 := hf 1 _ rfl; rw [show Try.prog.cellsOf 22 = 1 from by kernel_rfl] at this; exact this
    have f2 : DataW.trod enc Try.prog W 0 (fun _ => true) true n 23 ((cs.drop 2).take 1) = some y2 := by have this : DataW.trod enc Try.prog W 0 (fun _ => true) true n 23 ((cs.drop 2).take (Try.prog.cellsOf 23)) = some y2 := hf 2 _ rfl; rw [show Try.prog.cellsOf 23 = 1 from by kernel_rfl] at this; exact this
    simp only [List.map_cons, List.map_nil, Rows.uptoBulk, Rows.uptoBulkAll] at hB ⊢
    obtain ⟨z0, e0, q0, w0⟩ := DataW.trod_int Try.underlying3 f0
    have g0 := int_of_wf w0
    have b0 := bulk_one y0.1
    obtain ⟨v1, z1, e1, r1, a1, b1⟩ := open_files f1 (by omega)
    obtain ⟨v2, z2, e2, r2, a2, b2⟩ := open_ops6 f2 (by omega)
    have hd : cs.drop 3 = [] := List.drop_eq_nil_of_le (by omega)
    have this := k_split cs 0 1
    rw [e0, k_split cs 1 1, e1, k_split cs 2 1, e2, hd, List.drop_zero] at this
    exact ⟨z0, v1, v2, z1, z2, by rw [this]; rfl, g0, r1, a1, r2, a2, by omega⟩
end

end Go.Proofs.Ytlopdlcepmmjdaa
namespace Go.Proofs.Ytlopdlcepmmjdaa
open Go.RowKit Go.BigFrame Go.Maps Go.Sort
set_option linter.unusedVariables false
set_option linter.unusedSimpArgs false

theorem ba_loopS (s : ByteArray) : ∀ n i r, s.size - i = n → ByteArray.toList.loop s i r = r.reverse ++ s.data.toList.drop i := by
  intro n
  induction n with
  | zero =>
    intro i r h
    rw [ByteArray.toList.loop]
    have h1 : s.size = s.data.toList.length := (Array.length_toList).symm
    rw [if_neg (by omega), List.drop_eq_nil_of_le (by omega), List.append_nil]
  | succ n ih =>
    intro i r h
    rw [ByteArray.toList.loop]
    have h1 : s.size = s.data.toList.length := (Array.length_toList).symm
    have h2 : i < s.data.toList.length := by omega
    rw [if_pos (by omega), ih (i + 1) _ (by omega), List.drop_eq_getElem_cons h2]
    have h3 : s.get! i = s.data.toList[i] := by
      have h4 : i < s.data.size := by simpa using h2
      rw [Array.getElem_toList]
      exact getElem!_pos s.data i h4
    simp [h3]
theorem ba_toListS (s : ByteArray) : s.toList = s.data.toList := by
  unfold ByteArray.toList
  rw [ba_loopS s _ 0 [] rfl]
  simp
theorem less_str (a b : ByteArray) : Op.bytesLess a.toList b.toList = decide (a.data.toList < b.data.toList) := by
  rw [bytesLess_eq, ba_toListS, ba_toListS]
/-- One file of a list that can be a disk's. -/
def okF (l : List IFile) (i : Nat) (h : i < l.length) : Prop := isNm l[i].nm = true ∧ 0 ≤ l[i].sy ∧ l[i].sy ≤ l[i].bs.length ∧ ∀ hp : 0 < i, l[i - 1].nm.data.toList < l[i].nm.data.toList
def FormedL (l : List IFile) : Prop := ∀ i (h : i < l.length), okF l i h
def okB (l : List IFile) (i : Nat) : Bool := isNm (l.getD i default).nm && decide (0 ≤ (l.getD i default).sy) && decide ((l.getD i default).sy ≤ (l.getD i default).bs.length) && (i == 0 || decide ((l.getD (i - 1) default).nm.data.toList < (l.getD i default).nm.data.toList))
def formedB (l : List IFile) : Bool := (List.range l.length).all (okB l)
theorem okB_iff {l : List IFile} {i : Nat} (h : i < l.length) : okB l i = true ↔ okF l i h := by
  unfold okB okF
  rw [List.getD_eq_getElem?_getD, List.getElem?_eq_getElem h, Option.getD_some]
  by_cases hp : 0 < i
  · rw [List.getD_eq_getElem?_getD, List.getElem?_eq_getElem (show i - 1 < l.length by omega), Option.getD_some]
    have h0 : (i == 0) = false := by simp; omega
    simp only [h0, Bool.false_or, Bool.and_eq_true, decide_eq_true_eq]
    constructor
    · rintro ⟨⟨⟨a, b⟩, c⟩, d⟩; exact ⟨a, b, c, fun _ => d⟩
    · rintro ⟨a, b, c, d⟩; exact ⟨⟨⟨a, b⟩, c⟩, d hp⟩
  · have h0 : (i == 0) = true := by simp; omega
    simp only [h0, Bool.true_or, Bool.and_eq_true, decide_eq_true_eq, and_true]
    constructor
    · rintro ⟨⟨a, b⟩, c⟩; exact ⟨a, b, c, fun h9 => absurd h9 hp⟩
    · rintro ⟨a, b, c, d⟩; exact ⟨⟨a, b⟩, c⟩
theorem formedB_iff (l : List IFile) : formedB l = true ↔ FormedL l := by
  unfold formedB
  rw [List.all_eq_true]
  constructor
  · intro h i hi
    exact (okB_iff hi).1 (h i (List.mem_range.2 hi))
  · intro h i hi
    exact (okB_iff (List.mem_range.1 hi)).2 (h i (List.mem_range.1 hi))
theorem formedB_no {l : List IFile} (h : ¬ FormedL l) : formedB l = false := by
  cases h1 : formedB l
  · rfl
  · exact absurd ((formedB_iff l).1 h1) h

set_option maxRecDepth 100000 in
set_option maxHeartbeats 2000000 in
theorem formed_any (v : Value) (l : List IFile) (w : World) (h : RdC 4 w v (l.map ifC)) (ho : ∀ f ∈ l, OkIf w f) (hl : l.length ≤ 1048576) :
    Calls Try.prog 34 #[v] w fun e w' => e = .returned (.bool (formedB l)) ∧ Kept [] w w' := by
  obtain ⟨ao, len, cap, rfl, h1, h2, h3, h4⟩ := h
  rw [List.length_map] at h1
  subst h1
  have H4 := hide h4
  have HO := hide ho
  clear h4 ho
  go_enter Try.func34, Try.ntmps34
  go_wp2_with fail
  go_loopw [7] (fun t7 wr => ∃ i : Nat, i ≤ l.length ∧ t7 = .int .i64 i ∧ Hid (∀ j (hj : j < l.length), j < i → okF l j hj) ∧ Hid (Kept [] w wr)) (fun t _ => l.length - (intOf t).toNat)
  case atStart => exact ⟨0, Nat.zero_le _, rfl, hide (fun j hj h => by omega), hide (Kept.refl _ _)⟩
  case round =>
    obtain ⟨i, hi, rfl, HA, HK⟩ := hrel
    by_cases hlt : i < l.length
    · have hlt' : (i : Int) < l.length := by omega
      obtain ⟨b, off, rfl, hcc⟩ := unhide H4 (by omega)
      have hr := hcc i (by rw [List.length_map]; exact hlt)
      rw [List.getElem_map] at hr
      have p0 := (unhide HK).cell (hr 0 _ rfl) (by simp)
      have p1 := (unhide HK).cell (hr 1 _ rfl) (by simp)
      have p2 := (unhide HK).cell (hr 2 _ rfl) (by simp)
      have p3 := (unhide HK).cell (hr 3 _ rfl) (by simp)
      rw [Nat.add_zero] at p0
      have hof := unhide HO l[i] (List.getElem_mem hlt)
      have HPR := hide (fun (hp : 0 < i) => by
        have h9 := hcc (i - 1) (by rw [List.length_map]; omega)
        rw [List.getElem_map] at h9
        exact h9 0 _ rfl : ∀ hp : 0 < i, w.cell? ⟨b, off + (i - 1) * 4 + 0, none⟩ = some (.string l[i - 1].nm))
      have HOK : Hid (isNm l[i].nm = true → 0 ≤ l[i].sy → l[i].sy ≤ l[i].bs.length → (∀ hp : 0 < i, l[i - 1].nm.data.toList < l[i].nm.data.toList) → okF l i hlt) := hide (fun a1 a2 a3 a4 => ⟨a1, a2, a3, a4⟩)
      have HNO := hide (fun (hf : FormedL l) => hf i hlt)
      unfold okF at HNO
      clear hr hcc
      obtain ⟨va, vl, vc, hv⟩ := (show ∃ va vl vc, l[i].v = .slice va vl vc by obtain ⟨a, b, c, h9, _⟩ := hof.1; exact ⟨a, b, c, h9⟩)
      have hvl : vl = l[i].bs.length := by
        obtain ⟨a, b, c, h9, h10, _⟩ := hof.1
        rw [hv] at h9
        injection h9 with _ h9 _
        rw [h9, h10]
      have hnl := hof.2.1
      rw [hv] at p1
      generalize hX : l[i] = X at *
      subst hvl
      clear hof hX
      go_upto_region 4 with fail
      have HK1 := hide ((unhide HK).alloc (.cells #[.string X.nm, .slice va X.bs.length vc, .int .i64 X.sy, .bool X.nd] 54 (0, 0)))
      have HG1 := hide (heap_alloc_new wr (.cells #[.string X.nm, .slice va X.bs.length vc, .int .i64 X.sy, .bool X.nd] 54 (0, 0)))
      obtain ⟨W1, hW1⟩ : ∃ W, wr.alloc (.cells #[.string X.nm, .slice va X.bs.length vc, .int .i64 X.sy, .bool X.nd] 54 (0, 0)) = W := ⟨_, rfl⟩
      rw [hW1] at HK1 HG1 ⊢
      clear hW1 p0 p1 p2 p3
      have c0 := cell_of_row _ _ 0 _ _ _ (unhide HG1)
      have c1 := cell_of_row _ _ 1 _ _ _ (unhide HG1)
      have c2 := cell_of_row _ _ 2 _ _ _ (unhide HG1)
      simp at c0 c1 c2
      have HH2 := hide h2
      clear h2
      go_wp2_with fail
      refine Calls.mono (isName_any X.nm _ (by omega)) ?_
      rintro e w2 ⟨rfl, rfl⟩
      cases hn : isNm X.nm
      · have HN := hide hn
        clear hn
        go_wp2_with fail
        go_ret
        exact ⟨by rw [formedB_no (fun hf => by have h9 := (unhide HNO hf).1; rw [unhide HN] at h9; cases h9)]; rfl, unhide HK1⟩
      · have HN := hide hn
        clear hn
        by_cases s0 : X.sy < 0
        · have HS := hide s0
          go_wp2_with fail
          go_ret
          exact ⟨by rw [formedB_no (fun hf => by have h9 := (unhide HNO hf).2.1; have := unhide HS; omega)]; rfl, unhide HK1⟩
        · have HS := hide s0
          by_cases s1 : (X.bs.length : Int) < X.sy
          · have HS1 := hide s1
            go_wp2_with fail
            go_ret
            exact ⟨by rw [formedB_no (fun hf => by have h9 := (unhide HNO hf).2.2.1; have := unhide HS1; omega)]; rfl, unhide HK1⟩
          · have HS1 := hide s1
            go_upto_region 6 with fail
            by_cases hp : 0 < i
            · have hip : (0 : Int) < (i : Int) := by omega
              have q0 := (unhide HK1).cell (unhide HPR hp) (by simp)
              rw [Nat.add_zero] at q0
              have hsub : (i : Int) - 1 = ((i - 1 : Nat) : Int) := by omega
              have HLTP := hide (fun hf => (unhide HNO hf).2.2.2 hp)
              have HOK2 := hide (fun (a4 : l[i - 1].nm.data.toList < X.nm.data.toList) => unhide HOK (unhide HN) (by have := unhide HS; omega) (by have := unhide HS1; omega) (fun _ => a4))
              generalize l[i - 1] = Y at q0 HLTP HOK2
              obtain ⟨i1, hi1⟩ : ∃ i1, i - 1 = i1 := ⟨_, rfl⟩
              rw [hi1] at q0 hsub
              have hi1c : (i1 : Int) < l.length := by omega
              refine wp_region_quiet_lit (by kernel_rfl) (by kernel_rfl) ?_
              repeat (go_big_quiet_step (fail))
              refine wpQuiet_nil ?_
              rintro _ ⟨n5, rfl⟩
              rw [less_str]
              by_cases hls : Y.nm.data.toList < X.nm.data.toList
              · rw [decide_eq_true hls]
                have HLS := hide hls
                clear hls q0 hsub hip
                go_wp2_with fail
                refine ⟨⟨i + 1, by omega, by simp, hide (fun j hj h9 => ?_), hide ((unhide HK1).drewN n5)⟩, ?_⟩
                · by_cases hji : j < i
                  · exact unhide HA j hj hji
                  · have : j = i := by omega
                    subst this
                    exact unhide HOK2 (unhide HLS)
                · simp [intOf]; omega
              · rw [decide_eq_false hls]
                have HLS := hide hls
                clear hls q0 hsub hip
                go_wp2_with fail
                go_ret
                exact ⟨by rw [formedB_no (fun hf => unhide HLS (unhide HLTP hf))]; rfl, (unhide HK1).drewN n5⟩
            · have hip : ¬ (0 : Int) < (i : Int) := by omega
              refine wp_region_quiet_lit (by kernel_rfl) (by kernel_rfl) ?_
              repeat (go_big_quiet_step (fail))
              refine wpQuiet_nil ?_
              rintro _ ⟨n5, rfl⟩
              have HP := hide hp
              go_wp2_with fail
              refine ⟨⟨i + 1, by omega, by simp, hide (fun j hj h9 => ?_), hide ((unhide HK1).drewN n5)⟩, ?_⟩
              · by_cases hji : j < i
                · exact unhide HA j hj hji
                · have : j = i := by omega
                  subst this
                  exact unhide HOK (unhide HN) (by have := unhide HS; omega) (by have := unhide HS1; omega) (fun h => absurd h (unhide HP))
              · simp [intOf]; omega
    · have hlt' : ¬ (i : Int) < l.length := by omega
      have hie : i = l.length := by omega
      subst hie
      go_wp2_with fail
      go_ret
      exact ⟨by rw [(formedB_iff l).2 (fun j hj => unhide HA j hj hj)]; rfl, unhide HK⟩
end Go.Proofs.Ytlopdlcepmmjdaa
namespace Go.Proofs.Ytlopdlcepmmjdaa
open Go.RowKit Go.BigFrame Go.Maps Go.Sort
set_option linter.unusedVariables false
set_option linter.unusedSimpArgs false

def toDF (f : IFile) : DF := ⟨f.nm, f.bs, f.sy.toNat, f.nd⟩
theorem formed_lt {l : List IFile} (h : FormedL l) : ∀ (j i : Nat) (hj : j < l.length) (hi : i < j), l[i].nm.data.toList < l[j].nm.data.toList := by
  intro j
  induction j with
  | zero => intro i hj hi; omega
  | succ j ih =>
    intro i hj hi
    have h1 := (h (j + 1) hj).2.2.2 (by omega)
    by_cases hij : i = j
    · subst hij
      exact h1
    · exact List.lt_trans (ih i (by omega) (by omega)) h1
theorem formed_dist {l : List IFile} (h : FormedL l) : Dist (l.map toDF) := by
  unfold Dist
  rw [List.pairwise_map, List.pairwise_iff_getElem]
  intro i j hi hj hij e
  have h1 := formed_lt h j i hj hij
  have e2 : l[i].nm = l[j].nm := e
  rw [e2] at h1
  exact List.lt_irrefl _ h1

set_option maxRecDepth 100000 in
set_option maxHeartbeats 1000000 in
theorem from_arg (sec : Int) (v : Value) (w : World) (h : sec < 1 ∨ 4096 < sec) :
    Calls Try.prog 8 #[.int .i64 sec, v] w fun e w' => e = .returned (.tuple #[.pointer none, .int .i64 1]) ∧ w' = w := by
  by_cases h1 : sec < 1
  · clear h
    go_enter Try.func8, Try.ntmps8
    go_wp2_with fail
    go_ret2
    exact ⟨rfl, rfl⟩
  · have h2 : 4096 < sec := by omega
    clear h
    go_enter Try.func8, Try.ntmps8
    go_wp2_with fail
    go_ret2
    exact ⟨rfl, rfl⟩

set_option maxRecDepth 100000 in
set_option maxHeartbeats 1000000 in
theorem from_form (sec : Int) (v : Value) (l : List IFile) (w : World) (h1 : 1 ≤ sec) (h2 : sec ≤ 4096) (h : RdC 4 w v (l.map ifC)) (ho : ∀ f ∈ l, OkIf w f) (hl : l.length ≤ 1048576) (hf : formedB l = false) :
    Calls Try.prog 8 #[.int .i64 sec, v] w fun e w' => e = .returned (.tuple #[.pointer none, .int .i64 3]) ∧ Kept [] w w' := by
  have HC := hide (formed_any v l w h ho hl)
  rw [hf] at HC
  have e1 : ¬ sec < 1 := by omega
  have e2 : ¬ 4096 < sec := by omega
  clear h ho hf h1 h2
  go_enter Try.func8, Try.ntmps8
  go_wp2_with fail
  refine Calls.mono (unhide HC) ?_
  rintro e w1 ⟨rfl, k1⟩
  have HK := hide k1
  clear k1
  go_wp2_with fail
  go_ret2
  exact ⟨rfl, unhide HK⟩

set_option maxRecDepth 100000 in
set_option maxHeartbeats 2000000 in
theorem from_ok (sec : Nat) (v : Value) (l : List IFile) (w : World) (h1 : 1 ≤ sec) (h2 : sec ≤ 4096) (h : RdC 4 w v (l.map ifC)) (ho : ∀ f ∈ l, OkIf w f) (hl : l.length ≤ 1048576) (hf : formedB l = true) :
    Calls Try.prog 8 #[.int .i64 sec, v] w fun e w' => ∃ d m u gs, e = .returned (.tuple #[.pointer (some ⟨d, 0, none⟩), .int .i64 0]) ∧ DkAt w' d sec m l.length u (.map none) 0 0 false (fun _ => none) gs ∧ gs.map absF = l.map toDF ∧ Kept [] w w' ∧ ∀ x ∈ dkB d m u (.map none) gs, w.heap.size ≤ x := by
  have HC := hide (formed_any v l w h ho hl)
  rw [hf] at HC
  have HF := hide ((formedB_iff l).1 hf)
  have e1 : ¬ (sec : Int) < 1 := by omega
  have e2 : ¬ 4096 < (sec : Int) := by omega
  obtain ⟨ao, len, cap, rfl, g1, g2, g3, g4⟩ := h
  rw [List.length_map] at g1
  subst g1
  have H4 := hide g4
  have HO := hide ho
  have HS := hide (And.intro h1 h2)
  clear g4 ho hf h1 h2
  go_enter Try.func8, Try.ntmps8
  go_wp2_with fail
  refine Calls.mono (unhide HC) ?_
  rintro e w1 ⟨rfl, k1⟩
  have HK1 := hide k1
  have hmm := run_makeMap (P := Try.prog) 77 w1
  clear k1
  go_wp2_with fail
  have k2 := (((Kept.refl [] w1).alloc (.map #[] 0)).alloc (.cells #[.int .i64 sec, .map (some w1.heap.size), .slice none 0 0, .map none, .int .i64 0, .int .i64 0, .bool false] 81 (0, 0)))
  have hrow := heap_alloc_new (w1.alloc (.map #[] 0)) (.cells #[.int .i64 sec, .map (some w1.heap.size), .slice none 0 0, .map none, .int .i64 0, .int .i64 0, .bool false] 81 (0, 0))
  rw [show (w1.alloc (.map #[] 0)).heap.size = w1.heap.size + 1 by simp] at hrow
  have HD0 := hide (⟨hrow, ⟨0, .map [], (World.ownsMap_made w1 Try.prog 9 ptrElem).alloc _, Nat.le_refl _, MapIs.empty⟩, Qr.nil _ _, .inl ⟨rfl, fun _ => rfl⟩, by simp, List.Pairwise.nil, by simp [mblk]⟩ : DkAt ((w1.alloc (.map #[] 0)).alloc (.cells #[.int .i64 sec, .map (some w1.heap.size), .slice none 0 0, .map none, .int .i64 0, .int .i64 0, .bool false] 81 (0, 0))) (w1.heap.size + 1) sec w1.heap.size 0 (.slice none 0 0) (.map none) 0 0 false (fun _ => none) [])
  have HK2 := hide ((unhide HK1).trans k2 (by simp))
  have HS1 := hide (unhide HK1).size
  clear hrow k2 hmm
  go_loopw [24] (fun t24 wr => ∃ (i : Nat) (u : Value) (gs : List DFile), i ≤ l.length ∧ t24 = .int .i64 i ∧ Hid (DkAt wr (w1.heap.size + 1) sec w1.heap.size i u (.map none) 0 0 false (fun _ => none) gs) ∧ Hid (gs.map absF = (l.take i).map toDF) ∧ Hid (Kept [] w wr) ∧ Hid (∀ x ∈ dkB (w1.heap.size + 1) w1.heap.size u (.map none) gs, w.heap.size ≤ x)) (fun t _ => l.length - (intOf t).toNat)
  case atStart => exact ⟨0, _, [], Nat.zero_le _, rfl, HD0, hide rfl, HK2, hide (by intro x hx; have := unhide HS1; simp [dkB, blk, mblk] at hx; omega)⟩
  case round =>
    obtain ⟨i, u, gs, hi, rfl, HD, HGS, HK, HB⟩ := hrel
    by_cases hlt : i < l.length
    · have hlt' : (i : Int) < l.length := by omega
      obtain ⟨b, off, rfl, hcc⟩ := unhide H4 (by omega)
      have hr := hcc i (by rw [List.length_map]; exact hlt)
      rw [List.getElem_map] at hr
      have p0 := (unhide HK).cell (hr 0 _ rfl) (by simp)
      have p1 := (unhide HK).cell (hr 1 _ rfl) (by simp)
      have p2 := (unhide HK).cell (hr 2 _ rfl) (by simp)
      have p3 := (unhide HK).cell (hr 3 _ rfl) (by simp)
      rw [Nat.add_zero] at p0
      have hof := unhide HO l[i] (List.getElem_mem hlt)
      have hok := unhide HF i hlt
      have HT := hide (List.take_succ_eq_append_getElem hlt)
      have HLK := hide (by
        refine look_no ?_
        rw [unhide HGS]
        unfold findA
        rw [List.find?_eq_none]
        intro x hx
        obtain ⟨a, ha, rfl⟩ := List.mem_map.1 hx
        obtain ⟨j, hj, rfl⟩ := List.getElem_of_mem ha
        have hj2 : j < i := by rw [List.length_take] at hj; omega
        rw [List.getElem_take]
        have h9 := formed_lt (unhide HF) i j hlt hj2
        intro e
        have e2 : l[j].nm.data.toList = l[i].nm.data.toList := by simpa [toDF] using e
        rw [e2] at h9
        exact List.lt_irrefl _ h9 : look gs l[i].nm.data.toList = none)
      have HGL := hide (by have := congrArg List.length (unhide HGS); rw [List.length_map, List.length_map, List.length_take] at this; omega : gs.length = i)
      clear hr hcc
      obtain ⟨va, vl, vc, hv⟩ := (show ∃ va vl vc, l[i].v = .slice va vl vc by obtain ⟨a, b, c, h9, _⟩ := hof.1; exact ⟨a, b, c, h9⟩)
      rw [hv] at p1
      have HRD := hide (by rw [← hv]; exact hof.1.kept (unhide HK) (by simp) : Rd wr (.slice va vl vc) l[i].bs)
      have HNS := hide hof.2.1
      have HNM := hide hok.1
      have hsy : l[i].sy = ((l[i].sy.toNat : Nat) : Int) := by have := hok.2.1; omega
      have HSL := hide (by have := hok.2.2.1; omega : l[i].sy.toNat ≤ l[i].bs.length)
      have HLN := hide (show l[i].bs.length ≤ 140737488355328 by obtain ⟨a, b, c, h9, h10, h11, h12, _⟩ := hof.1; omega)
      clear hof hok hv
      have HTD : Hid (toDF l[i] = ⟨l[i].nm, l[i].bs, l[i].sy.toNat, l[i].nd⟩) := hide rfl
      rw [hsy] at p2
      generalize l[i].sy.toNat = SY at p2 HSL HTD
      generalize l[i] = X at p0 p1 p2 p3 HT HLK HRD HNS HNM HSL HLN HTD
      clear hsy
      go_upto_region 9 with fail
      have HG1 := hide (heap_alloc_new wr (.cells #[.string X.nm, .slice va vl vc, .int .i64 (SY : Int), .bool X.nd] 54 (0, 0)))
      have HD1 := hide ((unhide HD).kept ((Kept.refl [] wr).alloc (.cells #[.string X.nm, .slice va vl vc, .int .i64 (SY : Int), .bool X.nd] 54 (0, 0))) (by simp))
      have HK1' := hide ((unhide HK).alloc (.cells #[.string X.nm, .slice va vl vc, .int .i64 (SY : Int), .bool X.nd] 54 (0, 0)))
      have HR1 := hide ((unhide HRD).kept ((Kept.refl [] wr).alloc (.cells #[.string X.nm, .slice va vl vc, .int .i64 (SY : Int), .bool X.nd] 54 (0, 0))) (by simp))
      obtain ⟨W1, hW1⟩ : ∃ W, wr.alloc (.cells #[.string X.nm, .slice va vl vc, .int .i64 (SY : Int), .bool X.nd] 54 (0, 0)) = W := ⟨_, rfl⟩
      rw [hW1] at HG1 HD1 HK1' HR1 ⊢
      clear hW1 p0 p1 p2 p3 HD HRD
      have HGX := hide (by
        intro hx
        simp only [List.mem_cons] at hx
        rcases hx with hx | hx | hx
        · exact cells_ne (unhide HG1) (unhide HD1).row (by decide) hx
        · obtain ⟨n9, D9, ho9, _⟩ := (unhide HD1).map
          exact map_ne ho9 (unhide HG1) hx
        · obtain ⟨cs, hc⟩ := qr_cells (unhide HD1).un hx
          exact cells_ne (unhide HG1) hc (by decide) rfl : wr.heap.size ∉ (w1.heap.size + 1) :: w1.heap.size :: blk u)
      refine wp_fr13 (by kernel_rfl) (by kernel_rfl) (by kernel_rfl) (by kernel_rfl) (by kernel_rfl) (by kernel_rfl) (by kernel_rfl) (by kernel_rfl) (by kernel_rfl) (by kernel_rfl) (by kernel_rfl) (by kernel_rfl) (by kernel_rfl) (by kernel_rfl) (by kernel_rfl) (by kernel_rfl) (by kernel_rfl) (by kernel_rfl) (by kernel_rfl) (by kernel_rfl) (by kernel_rfl) (by kernel_rfl) (by kernel_rfl) (by kernel_rfl) (by kernel_rfl) (by kernel_rfl) rfl rfl rfl
        (.pointer (some ⟨w1.heap.size + 1, 0, none⟩)) (.pointer (some ⟨wr.heap.size, 0, none⟩)) (.string X.nm) (.pointer (some ⟨wr.heap.size, 1, none⟩)) (.slice va vl vc) (.pointer (some ⟨wr.heap.size, 2, none⟩)) (.int .i64 (SY : Int)) (.pointer (some ⟨wr.heap.size, 3, none⟩)) (.bool X.nd) _ _ _ _ _ _ _ _ _
        (fun w' => w'.heap[wr.heap.size]? = some (.cells #[.string X.nm, .slice va vl vc, .int .i64 (SY : Int), .bool X.nd] 54 (0, 0)))
        (fun w' => Kept [] W1 w')
        (fun u5 w' => (∃ g, u5 = .slice (some ⟨g, 0, none⟩) X.bs.length X.bs.length ∧ W1.heap.size ≤ g ∧ w'.heap[g]? = some (.cells (X.bs.map Go.Proofs.Ytlopdlcepmmjdaa.u8).toArray 5 (0, 0))) ∧ Kept [] W1 w')
        (fun u5 u11 w' => (∃ g, u5 = .slice (some ⟨g, 0, none⟩) X.bs.length X.bs.length ∧ W1.heap.size ≤ g ∧ w'.heap[g]? = some (.cells (X.bs.map Go.Proofs.Ytlopdlcepmmjdaa.u8).toArray 5 (0, 0))) ∧ (∃ G, u11 = .pointer (some ⟨G, 0, none⟩) ∧ W1.heap.size ≤ G ∧ w'.heap[G]? = some (.cells #[.string X.nm, u5, .int .i64 (SY : Int), .bool X.nd] 86 (0, 0))) ∧ Kept [] W1 w')
        (fun u5 u11 u12 w' => ∃ (u' : Value) (F : DFile), u12 = .tuple #[] ∧ absF F = toDF X ∧ DkAt w' (w1.heap.size + 1) sec w1.heap.size (i + 1) u' (.map none) 0 0 false (fun _ => none) (gs ++ [F]) ∧ Kept ((w1.heap.size + 1) :: w1.heap.size :: blk u) W1 w' ∧ (∀ x ∈ blk u', x ∈ blk u ∨ W1.heap.size ≤ x) ∧ (∀ x ∈ F.g :: blk F.v, W1.heap.size ≤ x))
        (fun u5 => .agg #[.string X.nm, u5, .int .i64 (SY : Int), .bool X.nd])
        (by simp only [Act.put, List.setIfInBounds_toArray, List.set_cons_zero, List.set_cons_succ]; rfl) (by exact Or.inl ⟨by rfl, fun W' hW' => by go_simp⟩)
        (by simp only [Act.put, List.setIfInBounds_toArray, List.set_cons_zero, List.set_cons_succ]; rfl) (by exact Or.inl ⟨by rfl, fun W' hW' => by go_simp⟩)
        (by simp only [Act.put, List.setIfInBounds_toArray, List.set_cons_zero, List.set_cons_succ]; rfl) (by exact Or.inl ⟨by rfl, fun W' hW' => by have h9 := cell_of_row _ _ 0 _ _ _ hW'; simp at h9; go_simp⟩)
        (by simp only [Act.put, List.setIfInBounds_toArray, List.set_cons_zero, List.set_cons_succ]; rfl) (by exact Or.inl ⟨by rfl, fun W' hW' => by go_simp⟩)
        (by simp only [Act.put, List.setIfInBounds_toArray, List.set_cons_zero, List.set_cons_succ]; rfl) (by exact Or.inl ⟨by rfl, fun W' hW' => by have h9 := cell_of_row _ _ 1 _ _ _ hW'; simp at h9; go_simp⟩)
        (by simp only [Act.put, List.setIfInBounds_toArray, List.set_cons_zero, List.set_cons_succ]; rfl) (by exact Or.inl ⟨by rfl, fun W' hW' => by go_simp⟩)
        (by simp only [Act.put, List.setIfInBounds_toArray, List.set_cons_zero, List.set_cons_succ]; rfl) (by exact Or.inl ⟨by rfl, fun W' hW' => by have h9 := cell_of_row _ _ 2 _ _ _ hW'; simp at h9; go_simp⟩)
        (by simp only [Act.put, List.setIfInBounds_toArray, List.set_cons_zero, List.set_cons_succ]; rfl) (by exact Or.inl ⟨by rfl, fun W' hW' => by go_simp⟩)
        (by simp only [Act.put, List.setIfInBounds_toArray, List.set_cons_zero, List.set_cons_succ]; rfl) (by exact Or.inl ⟨by rfl, fun W' hW' => by have h9 := cell_of_row _ _ 3 _ _ _ hW'; simp at h9; go_simp⟩)
        (Kept.refl [] W1).drew
        ⟨fun w' h => h.heap (unhide HG1) (by simp), fun u5 w' h => h.2.heap (unhide HG1) (by simp), fun u5 u11 w' h => h.2.2.heap (unhide HG1) (by simp), fun u5 u11 u12 w' h => by obtain ⟨u', F, _, _, _, k9, _⟩ := h; exact k9.heap (unhide HG1) (unhide HGX)⟩
        (by
          intro w' k K hK
          refine wp_callN rfl Try.call36 [.slice va vl vc] rfl (dcloned_any _ X.bs w' ((unhide HR1).kept k (by simp))) ?_
          rintro e w2 ⟨rfl, k2, h2⟩
          exact ⟨_, rfl, hK _ _ ⟨⟨_, rfl, k.size, h2⟩, k.trans k2 (by simp)⟩⟩)
        (by
          rintro u5 w' ⟨⟨g, rfl, hg, hh⟩, k⟩ K hK
          simp only [Act.put, List.setIfInBounds_toArray, List.set_cons_zero, List.set_cons_succ] at hK ⊢
          unfold Oper.wp execOp
          go_simp
          exact hK _ _ ⟨⟨_, rfl, hg, ((Kept.refl [] w').alloc _).heap hh (by simp)⟩, ⟨_, rfl, k.size, heap_alloc_new _ _⟩, k.alloc _⟩)
        (by
          rintro u5 u11 w' ⟨⟨g, rfl, hg, hh⟩, ⟨G, rfl, hG, hGG⟩, k⟩ K hK
          refine wp_callN rfl Try.call35 [.pointer (some ⟨w1.heap.size + 1, 0, none⟩), .pointer (some ⟨G, 0, none⟩)] rfl (add_any (w1.heap.size + 1) sec w1.heap.size i ⟨G, X.nm, .slice (some ⟨g, 0, none⟩) X.bs.length X.bs.length, X.bs, SY, X.nd⟩ w' u (.map none) 0 0 false (fun _ => none) gs ((unhide HD1).kept k (by simp)) ⟨hGG, owns_fresh hh (unhide HLN) (Nat.zero_le _), (unhide HR1).byte, unhide HSL⟩ (by omega) (by have := unhide HGL; omega) (by have := unhide HNS; show X.nm.size ≤ _; omega) (unhide HLK) ?_) ?_
          · intro a ha
            have h8 := (unhide HD1).lt a.g (dkB_g ha)
            refine ⟨by show a.g ≠ G; omega, ?_⟩
            intro x hx hy
            simp only [blk, List.mem_singleton] at hy
            have h7 := (unhide HD1).lt x (dkB_v ha hx)
            omega
          · rintro e w2 ⟨u', rfl, hd2, hk2, hu2⟩
            refine ⟨_, rfl, hK _ _ ⟨u', _, rfl, by rw [unhide HTD]; rfl, hd2, (k.mono (by simp)).trans hk2 (fun x hx => .inl hx), ?_, ?_⟩⟩
            · intro x hx
              rcases hu2 x hx with h9 | h9
              · exact .inl h9
              · exact .inr (Nat.le_trans k.size h9)
            · intro x hx
              simp only [blk, List.mem_cons, List.not_mem_nil, or_false] at hx
              rcases hx with rfl | rfl
              · exact hG
              · exact hg)
        (by rintro u5 w' ⟨⟨g, rfl, hg, hh⟩, k⟩; exact Or.inl ⟨by rfl, fun W' hW' => by go_simp⟩)
        ?_
      rintro u5 u11 u12 w5 ⟨u', F, rfl, hF, hd5, hk5, hu5, hF5⟩
      simp only [Act.put, List.setIfInBounds_toArray, List.set_cons_zero, List.set_cons_succ]
      have hsz := (unhide HK1').size
      have HD5 := hide hd5
      have HGS5 := hide (by rw [List.map_append, unhide HGS, unhide HT, List.map_append]; simp [hF] : (gs ++ [F]).map absF = (l.take (i + 1)).map toDF)
      have HK5 := hide ((unhide HK1').trans hk5 (by intro x hx; right; exact unhide HB x (by simp only [List.mem_cons] at hx; rcases hx with h | h | h <;> simp [dkB, h])))
      have HB5 := hide (by
        intro x hx
        simp only [dkB, mblk, List.mem_cons, List.mem_append, List.mem_flatMap, List.not_mem_nil, or_false, List.mem_singleton] at hx
        rcases hx with hx | hx | hx | ⟨a, ha, hx⟩
        · exact unhide HB x (by simp [dkB, hx])
        · exact unhide HB x (by simp [dkB, hx])
        · rcases hu5 x hx with h9 | h9
          · exact unhide HB x (by simp [dkB, h9])
          · omega
        · rcases ha with ha | rfl
          · rcases hx with rfl | hx
            · exact unhide HB _ (dkB_g ha)
            · exact unhide HB x (dkB_v ha hx)
          · have := hF5 x (by simpa using hx)
            omega : ∀ x ∈ dkB (w1.heap.size + 1) w1.heap.size u' (.map none) (gs ++ [F]), w.heap.size ≤ x)
      clear hF hd5 hk5 hu5 hF5 hsz
      go_wp2_with fail
      refine ⟨⟨i + 1, u', gs ++ [F], by omega, by simp, HD5, HGS5, HK5, HB5⟩, ?_⟩
      simp [intOf]; omega
    · have hlt' : ¬ (i : Int) < l.length := by omega
      have hie : i = l.length := by omega
      subst hie
      rw [List.take_length] at HGS
      go_wp2_with fail
      go_ret2
      exact ⟨_, rfl, _, u, gs, unhide HD, unhide HGS, unhide HK, unhide HB⟩
end Go.Proofs.Ytlopdlcepmmjdaa
namespace Go.Proofs.Ytlopdlcepmmjdaa
open Go.RowKit Go.BigFrame Go.Maps
set_option linter.unusedVariables false
set_option linter.unusedSimpArgs false

def MapF (D : DataW Unit) (ft : Int → Option Int) : Prop := ∀ a, Maps.has D (.int .i64 a) = (ft a).isSome ∧ ∀ z, D.atKey (.int .i64 a) z = match ft a with | none => z | some c => .lit (.int .i64 c)
theorem MapF.empty : MapF (.map []) (fun _ => none) := fun s => ⟨rfl, fun z => Maps.atKey_of_not_has rfl z⟩
theorem MapF.put {D : DataW Unit} {f : Int → Option Int} (h : MapF D f) (hm : Maps.IsMap D) (a : Int) (hk : WideAt.IsKeyLit (.int .i64 a)) (c : Int) :
    MapF (D.put (.int .i64 a) (.lit (.int .i64 c))) (fun t => if t = a then some c else f t) := by
  intro t
  by_cases ht : t = a
  · subst ht
    simp only [if_true]
    exact ⟨Maps.has_put_same hm hk _, fun z => Maps.atKey_put_same hm hk _ z⟩
  · have hne : Lit.int .i64 t ≠ Lit.int .i64 a := by simpa using ht
    simp only [if_neg ht]
    exact ⟨by rw [Maps.has_put_other hne]; exact (h t).1, fun z => by rw [Maps.atKey_put_other hne]; exact (h t).2 z⟩
theorem fstF_snoc (ks : List (Int × Int)) (k : Int × Int) (s : Int) : fstF (ks ++ [k]) s = if (fstF ks s).isSome then fstF ks s else if s = k.1 then some k.2 else none := by
  unfold fstF
  rw [List.find?_append]
  cases List.find? (fun x => x.1 == s) ks with
  | some x => rfl
  | none =>
    simp only [Option.none_or, Option.map_none, Option.isSome_none, Bool.false_eq_true, if_false]
    by_cases h : s = k.1
    · subst h; simp
    · rw [if_neg h]
      have : (k.1 == s) = false := by simpa using fun e => h e.symm
      simp [this]
theorem fstF_put {ks : List (Int × Int)} {k : Int × Int} (h : fstF ks k.1 = none) : (fun t => if t = k.1 then some k.2 else fstF ks t) = fstF (ks ++ [k]) := by
  funext t
  rw [fstF_snoc]
  by_cases ht : t = k.1
  · subst ht; rw [if_pos rfl, h]; simp
  · rw [if_neg ht, if_neg ht]
    cases fstF ks t <;> rfl
theorem fstF_same {ks : List (Int × Int)} {k : Int × Int} (h : (fstF ks k.1).isSome = true) : fstF (ks ++ [k]) = fstF ks := by
  funext t
  rw [fstF_snoc]
  by_cases ht : t = k.1
  · subst ht; rw [if_pos h]
  · rw [if_neg ht]
    cases fstF ks t <;> rfl
theorem wf_rng {x : Int} (h : Rng x) : (Lit.int .i64 x).wf = true := by
  unfold Rng at h
  simp [Lit.wf, IntKind.min, IntKind.max, IntKind.signed, IntKind.bits]
  omega

set_option maxRecDepth 100000 in
set_option maxHeartbeats 2000000 in
theorem plan_any (d sec m N : Nat) (lv : Value) (fl : List (Int × Int)) (crash : Int) (w : World) (u fv : Value) (cr op : Int) (off : Bool) (ft : Int → Option Int) (fs : List DFile)
    (h : DkAt w d sec m N u fv cr op off ft fs) (hfl : RdC 2 w lv (fl.map faC)) (hfd : d ∉ zblk lv (fl.map faC)) (hfo : ∀ x ∈ fl, OkFa x) (hll : fl.length ≤ 1048576) :
    Calls Try.prog 24 #[.pointer (some ⟨d, 0, none⟩), lv, .int .i64 crash] w fun e w' => ∃ M, e = .returned (.tuple #[]) ∧ w.heap.size ≤ M ∧ DkAt w' d sec m (N + fl.length) u (.map (some M)) crash 0 off (fstF fl) fs ∧ Kept [d] w w' := by
  have HD := hide h
  obtain ⟨ao, len, cap, rfl, g1, g2, g3, g4⟩ := hfl
  rw [List.length_map] at g1
  subst g1
  have H4 := hide g4
  have HFO := hide hfo
  have HFD := hide hfd
  have hrow := h.row
  unfold DRow at hrow
  have HR := hide hrow
  have c3 := cell_of_row _ _ 3 _ _ _ hrow
  have c4 := cell_of_row _ _ 4 _ _ _ hrow
  have c5 := cell_of_row _ _ 5 _ _ _ hrow
  simp at c3 c4 c5
  have z3 := frozen_of_row _ _ 3 _ _ hrow
  have z4 := frozen_of_row _ _ 4 _ _ hrow
  have z5 := frozen_of_row _ _ 5 _ _ hrow
  clear h g4 hfo hfd hrow
  go_enter Try.func24, Try.ntmps24
  go_wp2_with fail
  refine Calls.mono (dnone_any d w sec m u fv cr op off (unhide HD).row) ?_
  rintro e w1 ⟨rfl, rfl⟩
  go_upto_region 2 with fail
  have HR1 := hide (heap_setCell_same _ _ 4 _ _ (.int .i64 crash) (heap_setCell_same w1 _ 5 _ _ (.int .i64 0) (unhide HR)))
  have HK1 := hide (((Kept.refl [d] w1).setCell (p := ⟨d, 5, none⟩) (.inl (by simp)) (.int .i64 0)).setCell (p := ⟨d, 4, none⟩) (.inl (by simp)) (.int .i64 crash))
  obtain ⟨W1, hW1⟩ : ∃ W, (w1.setCell ⟨d, 5, none⟩ (.int .i64 0)).setCell ⟨d, 4, none⟩ (.int .i64 crash) = W := ⟨_, rfl⟩
  rw [hW1] at HR1 HK1 ⊢
  clear hW1 c3 c4 c5 z3 z4 z5
  have hmm := run_makeMap (P := Try.prog) 79 W1
  have HK2 := hide ((unhide HK1).alloc (.map #[] 0))
  have HR2 := hide (((Kept.refl [] W1).alloc (.map #[] 0)).heap (unhide HR1) (by simp))
  have c3 : (W1.alloc (.map #[] 0)).cell? ⟨d, 3, none⟩ = some fv := by have h9 := cell_of_row _ _ 3 _ _ _ (unhide HR2); simp at h9; exact h9
  have z3 := frozen_of_row _ _ 3 _ _ (unhide HR2)
  go_wp2_with fail
  have HR3 := hide (heap_setCell_same _ _ 3 _ _ (.map (some W1.heap.size)) (unhide HR2))
  have HK3 := hide ((unhide HK2).setCell (p := ⟨d, 3, none⟩) (.inl (by simp)) (.map (some W1.heap.size)))
  have HDM := hide (by have := lt_of_block (unhide HR1); omega : W1.heap.size ≠ d)
  have HO3 := hide ((World.ownsMap_made W1 Try.prog 3 (plainElem (H := Unit) Try.prog 3)).setCell (a := ⟨d, 3, none⟩) (unhide HDM) (.map (some W1.heap.size)))
  obtain ⟨W3, hW3⟩ : ∃ W, (W1.alloc (.map #[] 0)).setCell ⟨d, 3, none⟩ (.map (some W1.heap.size)) = W := ⟨_, rfl⟩
  rw [hW3] at HR3 HK3 HO3 ⊢
  clear hW3 c3 z3 hmm
  have HMS := hide (by have := (unhide HK1).size; omega : w1.heap.size ≤ W1.heap.size)
  generalize hMM : W1.heap.size = M at *
  have HRR := hide (unhide HR3)
  go_loopw [25] (fun t25 wr => ∃ (i : Nat) (D : DataW Unit), i ≤ fl.length ∧ t25 = .int .i64 i ∧ Hid (wr.ownsMap Try.prog 3 (plainElem Try.prog 3) M i D) ∧ Hid (MapF D (fstF (fl.take i))) ∧ Hid (Kept [d] w1 wr) ∧ Hid (wr.heap[d]? = W3.heap[d]?)) (fun t _ => fl.length - (intOf t).toNat)
  case atStart => exact ⟨0, .map [], Nat.zero_le _, rfl, HO3, hide MapF.empty, HK3, hide rfl⟩
  case round =>
    obtain ⟨i, D, hi, rfl, HO, HMF, HK, HE⟩ := hrel
    have HRW := hide ((unhide HE).trans (unhide HR3))
    by_cases hlt : i < fl.length
    · have hlt' : (i : Int) < fl.length := by omega
      obtain ⟨b, off', rfl, hcc⟩ := unhide H4 (by omega)
      have hr := hcc i (by rw [List.length_map]; exact hlt)
      rw [List.getElem_map] at hr
      have hbd : b ∉ [d] := by
        intro hx
        simp only [List.mem_singleton] at hx
        exact unhide HFD (zblk_of (by simp [blk, hx]) (by intro e; simp at e; subst e; simp at hlt))
      have p0 := (unhide HK).cell (hr 0 _ rfl) hbd
      have p1 := (unhide HK).cell (hr 1 _ rfl) hbd
      rw [Nat.add_zero] at p0
      have HT := hide (List.take_succ_eq_append_getElem hlt)
      have hX := unhide HFO fl[i] (List.getElem_mem hlt)
      clear hcc hr hbd
      generalize fl[i] = X at p0 p1 HT hX
      have HX := hide hX
      clear hX
      go_upto_region 6 with fail
      have HG1 := hide (heap_alloc_new wr (.cells #[.int .i64 X.1, .int .i64 X.2] 104 (0, 0)))
      have HOa := hide ((unhide HO).alloc (.cells #[.int .i64 X.1, .int .i64 X.2] 104 (0, 0)))
      have HKa := hide ((unhide HK).alloc (.cells #[.int .i64 X.1, .int .i64 X.2] 104 (0, 0)))
      have HRa := hide (((Kept.refl [] wr).alloc (.cells #[.int .i64 X.1, .int .i64 X.2] 104 (0, 0))).heap (unhide HRW) (by simp))
      obtain ⟨V, hV⟩ : ∃ W, wr.alloc (.cells #[.int .i64 X.1, .int .i64 X.2] 104 (0, 0)) = W := ⟨_, rfl⟩
      rw [hV] at HG1 HOa HKa HRa ⊢
      clear hV p0 p1
      have q0 := cell_of_row _ _ 0 _ _ _ (unhide HG1)
      have q1 := cell_of_row _ _ 1 _ _ _ (unhide HG1)
      have c3 := cell_of_row _ _ 3 _ _ _ (unhide HRa)
      simp at q0 q1 c3
      have hkey := Maps.keyOf_int_mk (P := Try.prog) (k := 3) Try.underlying3 (a := X.1) (wf_rng (unhide HX).1)
      have hlk := fun j : Nat => look_faults (ft := fstF (fl.take i)) (ownsMap_heap (w' := V.drewN j) (unhide HOa) rfl) (unhide HMF) X.1 hkey
      have HKEY := hide hkey
      clear hkey
      cases hfs : fstF (fl.take i) X.1 with
      | some Y =>
        rw [hfs] at hlk
        simp only [Option.getD_some, Option.isSome_some] at hlk
        have HFS := hide hfs
        clear hfs
        refine wp_region_quiet_lit (by kernel_rfl) (by kernel_rfl) ?_
        repeat (go_big_quiet_step (fail))
        refine wpQuiet_nil ?_
        rintro _ ⟨n5, rfl⟩
        clear hlk q0 q1 c3
        go_wp2_with fail
        refine ⟨⟨i + 1, D, by omega, by simp, hide ((unhide HOa).mono (Nat.le_succ _)), hide ?_, hide ((unhide HKa).drewN n5), hide ?_⟩, ?_⟩
        · rw [unhide HT, fstF_same (by rw [unhide HFS]; rfl)]
          exact unhide HMF
        · exact (unhide HRa).trans (unhide HR3).symm
        · simp [intOf]; omega
      | none =>
        rw [hfs] at hlk
        simp only [Option.getD_none, Option.isSome_none] at hlk
        have HFS := hide hfs
        clear hfs
        refine wp_region_quiet_lit (by kernel_rfl) (by kernel_rfl) ?_
        repeat (go_big_quiet_step (fail))
        refine wpQuiet_nil ?_
        rintro _ ⟨n5, rfl⟩
        clear hlk
        go_upto_region 8 with fail
        refine wp_quiet_tail 8 (by kernel_rfl) (by kernel_rfl) ?_
        simp only [List.take_succ_cons, List.take_zero, List.drop_succ_cons, List.drop_zero]
        repeat (go_big_quiet_step (fail))
        refine wpQuiet_nil ?_
        rintro _ ⟨n6, rfl⟩
        clear q0 q1 c3
        at_mapUpdate
        refine wpList_mapUpdate_in _ rfl _ _ _ 79 rfl 3 3 keyI Try.underlying79 (plainElem Try.prog 3) M i D rfl (ownsMap_heap (unhide HOa) rfl) (by unfold maxLen; omega) _ _ _ rfl rfl (unhide HKEY) _ _ (plainElem_int Try.underlying3 (wf_rng (unhide HX).2)) ?_
        intro w7 hown7 hturn7
        have HO7 := hide hown7
        have HK7 := hide ((((unhide HKa).drewN (n5 + n6))).grown (by simpa [drewN_drewN] using hturn7.grown) (by intro k hk; injection hk with hk; subst hk; exact .inr (unhide HMS)))
        have HE7 := hide ((hturn7.grown.block d (lt_of_block (unhide HRa)) (by simpa using fun e => unhide HDM e.symm)).trans ((unhide HRa).trans (unhide HR3).symm))
        clear hown7 hturn7
        go_wp2_with fail
        refine ⟨⟨i + 1, _, by omega, by simp, HO7, hide ?_, HK7, HE7⟩, ?_⟩
        · rw [unhide HT, ← fstF_put (unhide HFS)]
          exact (unhide HMF).put (unhide HO).isMap _ trivial X.2
        · simp [intOf]; omega
    · have hlt' : ¬ (i : Int) < fl.length := by omega
      have hie : i = fl.length := by omega
      subst hie
      rw [List.take_length] at HMF
      go_wp2_with fail
      refine bodyPost_end (v := .tuple #[]) (results_none rfl _ _ _) rfl ⟨rfl, M, unhide HMS, ((unhide HD).more (Nat.le_add_right N fl.length)).turnedF (unhide HK) (unhide HRW) (.inr ⟨M, _, D, rfl, unhide HO, Nat.le_add_left _ _, unhide HMF⟩) ?_, unhide HK⟩
      simp only [mblk, List.mem_singleton]
      intro e
      obtain ⟨n9, D9, ho9, _⟩ := (unhide HD).map
      have := ho9.lt
      have := unhide HMS
      omega
end Go.Proofs.Ytlopdlcepmmjdaa
namespace Go.Proofs.Ytlopdlcepmmjdaa
open Go.RowKit Go.BigFrame Go.Maps Go.Sort
set_option linter.unusedVariables false
set_option linter.unusedSimpArgs false

set_option maxRecDepth 100000 in
set_option maxHeartbeats 2000000 in
theorem files_any (d sec m N : Nat) (w : World) (u fv : Value) (cr op : Int) (off : Bool) (ft : Int → Option Int) (fs : List DFile) (h : DkAt w d sec m N u fv cr op off ft fs) (hd : Dist (fs.map absF)) (hN : N ≤ 1000000000) (hfs : fs.length ≤ 1000000000) (hfb : ∀ f ∈ fs, f.bs.length ≤ 140737488350000) (hfn : ∀ f ∈ fs, f.nm.size ≤ 40) :
    Calls Try.prog 26 #[.pointer (some ⟨d, 0, none⟩)] w fun e w' => ∃ v ts, e = .returned v ∧ OwnFl w.heap.size w' v ts ∧ ts.map Prod.fst = srtA (fs.map absF) ∧ Kept [] w w' := by
  have HD := hide h
  have HDI := hide hd
  have HFB := hide hfb
  have HFN0 := hide hfn
  have HSO := hide (sorted_any d sec m N w u fv cr op off ft fs h hd hN)
  have HLN := hide (by rw [srtA_len, List.length_map] : (srtA (fs.map absF)).length = fs.length)
  have HNM := hide (srtA_names hd)
  have HMM := hide (fun x (hx : x ∈ srtA (fs.map absF)) => srtA_mem.1 hx)
  generalize srtA (fs.map absF) = SA at HLN HNM HMM ⊢
  have HNL := hide (by rw [← unhide HNM, List.length_map] : (srtN (fs.map absF)).length = SA.length)
  generalize srtN (fs.map absF) = SS at HSO HNM HNL
  clear h hd hfb hfn
  go_enter Try.func26, Try.ntmps26
  go_wp2_with fail
  refine Calls.mono (dnone_any d w sec m u fv cr op off (unhide HD).row) ?_
  rintro e w1 ⟨rfl, rfl⟩
  go_wp2_with fail
  refine Calls.mono (unhide HSO) ?_
  rintro e w2 ⟨nv, rfl, ho, hk⟩
  rw [unhide HNL] at ho
  have HO := hide ho
  have HK2 := hide hk
  obtain ⟨na, nl, nc, rfl, hn1, hn2, hn3, hn4⟩ : RdS w2 nv SS := rds_owns (by rw [unhide HNL]; exact ho)
  rw [unhide HNL] at hn1
  subst hn1
  have HN4 := hide hn4
  have HLB := hide (by rw [unhide HLN]; exact hfs : SA.length ≤ 1000000000)
  clear ho hk hn4
  go_wp2_with fail
  go_loopw [3, 12] (fun v t12 wr => ∃ (i : Nat) (ts : List (DF × Value)), i ≤ SA.length ∧ t12 = .int .i64 i ∧ Hid (OwnFl w1.heap.size wr v ts) ∧ Hid (ts.map Prod.fst = SA.take i) ∧ Hid (Kept [] w1 wr) ∧ Hid (wr.ownsRow w1.heap.size 9 1 (.slice na SA.length nc) SA.length (SS.map encStr))) (fun _ t _ => SA.length - (intOf t).toNat)
  case atStart => exact ⟨0, [], Nat.zero_le _, rfl, hide (OwnFl.nil _ _), hide rfl, HK2, HO⟩
  case round =>
    obtain ⟨i, ts, hi, rfl, HOW, HTS, HK, HNO⟩ := hrel
    obtain ⟨va, vl, vc, hv⟩ : ∃ va vl vc, u3 = .slice va vl vc := by
      obtain ⟨a, l, c, h9, _⟩ := (unhide HOW).rd.1
      exact ⟨a, l, c, h9⟩
    subst hv
    have HTL := hide (by have := congrArg List.length (unhide HTS); rw [List.length_map, List.length_take] at this; omega : ts.length = i)
    have HLB2 := hide (unhide HLB)
    by_cases hlt : i < SA.length
    · have hlt' : (i : Int) < SA.length := by omega
      obtain ⟨ao', len', cap', e9, g1, g2, g3, g4⟩ := rds_owns (by rw [unhide HNL]; exact unhide HNO : wr.ownsRow w1.heap.size 9 1 (.slice na SA.length nc) SS.length (SS.map encStr))
      injection e9 with e1 e2 e3
      subst e1 e2 e3
      obtain ⟨nb, no, rfl, hcc⟩ := g4 (by omega)
      have hsi : i < SS.length := by rw [unhide HNL]; exact hlt
      have c0 := hcc i hsi
      have hX : SS[i] = SA[i].nm.data.toList := by
        have h9 := congrArg (fun l => l[i]?) (unhide HNM)
        simp only [List.getElem?_map, List.getElem?_eq_getElem hlt, List.getElem?_eq_getElem hsi, Option.map_some, Option.some.injEq] at h9
        exact h9.symm
      rw [hX] at c0
      have HT := hide (List.take_succ_eq_append_getElem hlt)
      have hXm := unhide HMM SA[i] (List.getElem_mem hlt)
      clear hcc hX hsi g1 g4
      generalize SA[i] = X at c0 HT hXm
      obtain ⟨f, hfm, rfl⟩ := List.mem_map.1 hXm
      rw [show encStr (absF f).nm.data.toList = Value.string f.nm from rfl] at c0
      have hlook : look fs f.nm.data.toList = some f.g := by
        obtain ⟨f', hf', hl', ha', _⟩ := look_file (findA_of (unhide HDI) hXm)
        have h8 : f' = f := dist_eq (unhide HDI) hf' hfm (congrArg DF.nm ha')
        rw [← h8]
        rw [h8] at hl' ⊢
        exact hl'
      obtain ⟨n9, D9, ho9, hn9, hD9⟩ := (unhide HD).map
      have hkey := WideMaps.keyOf_string_mk Try.underlying9 (s := f.nm) (by have := unhide HFN0 f hfm; unfold maxLen; omega)
      have hlk := look_ptr1 (ownsMap_heap ho9 ((unhide HK).block m ho9.lt (by simp))) hD9 f.nm hkey hlook
      have d1 := cell_of_row _ _ 1 _ _ _ ((unhide HK).heap (unhide HD).row (by simp))
      have hfile := ((unhide HD).files f hfm).kept (unhide HK) (by simp) (by simp)
      obtain ⟨fa, fc, hfv⟩ := owns_shape hfile.2.1
      have hrow := hfile.1
      rw [hfv] at hrow
      have f1 := cell_of_row _ _ 1 _ _ _ hrow
      have f2 := cell_of_row _ _ 2 _ _ _ hrow
      have f3 := cell_of_row _ _ 3 _ _ _ hrow
      simp at d1 f1 f2 f3
      have HRD := hide (by rw [← hfv]; exact rd_owns hfile.2.1 hfile.2.2.1 (by have := unhide HFB f hfm; omega) : Rd wr (.slice fa f.bs.length fc) f.bs)
      have HBY := hide hfile.2.2.1
      have HBL := hide (unhide HFB f hfm)
      have HFN := hide (by
        intro hx
        have h8 := lt_of_block ((unhide HD).files f hfm).1
        simp only [Option.mem_toList] at hx
        have := ((unhide HOW).own.lt _ hx).1
        omega : f.g ∉ (Value.slice va vl vc).ownBlock.toList)
      have HBS := hide (unhide HK).size
      clear hfile hrow hkey ho9 hn9 hD9 hlook hXm hfv hfm
      go_upto_region 8 with fail
      clear hlk d1 c0
      refine wp_fl19 (by kernel_rfl) (by kernel_rfl) (by kernel_rfl) (by kernel_rfl) (by kernel_rfl) (by kernel_rfl) (by kernel_rfl) (by kernel_rfl) (by kernel_rfl) (by kernel_rfl) (by kernel_rfl) (by kernel_rfl) (by kernel_rfl) (by kernel_rfl) (by kernel_rfl) (by kernel_rfl) (by kernel_rfl) (by kernel_rfl) (by kernel_rfl) (by kernel_rfl) (by kernel_rfl) (by kernel_rfl) (by kernel_rfl) (by kernel_rfl) (by kernel_rfl) (by kernel_rfl) (by kernel_rfl) (by kernel_rfl) (by kernel_rfl) (by kernel_rfl) (by kernel_rfl) (by kernel_rfl) (by kernel_rfl) (by kernel_rfl) (by kernel_rfl) (by kernel_rfl) (by kernel_rfl) (by kernel_rfl) rfl rfl rfl
        (.slice va vl vc) (.string f.nm) (.pointer (some ⟨f.g, 0, none⟩)) (.pointer (some ⟨f.g, 0, none⟩)) (.pointer (some ⟨f.g, 1, none⟩)) (.slice fa f.bs.length fc) (.pointer (some ⟨f.g, 0, none⟩)) (.pointer (some ⟨f.g, 0, none⟩)) (.pointer (some ⟨f.g, 2, none⟩)) (.int .i64 (f.sy : Int)) (.pointer (some ⟨f.g, 0, none⟩)) (.pointer (some ⟨f.g, 0, none⟩)) (.pointer (some ⟨f.g, 3, none⟩)) (.bool f.nd) _ _ _ _ _ _ _ _ _ _ _ _ _ _
        (fun w' => Kept (Value.slice va vl vc).ownBlock.toList wr w')
        (fun w' => Kept [] wr w')
        (fun u6 w' => (∃ g, u6 = .slice (some ⟨g, 0, none⟩) f.bs.length f.bs.length ∧ wr.heap.size ≤ g ∧ w'.heap[g]? = some (.cells (f.bs.map u8).toArray 5 (0, 0))) ∧ Kept [] wr w')
        (fun u6 u16 w' => (∃ g, u6 = .slice (some ⟨g, 0, none⟩) f.bs.length f.bs.length ∧ wr.heap.size ≤ g ∧ w'.heap[g]? = some (.cells (f.bs.map u8).toArray 5 (0, 0))) ∧ (∃ H, u16 = .slice (some ⟨H, 0, none⟩) 1 1 ∧ w'.heap[H]? = some (.cells #[.string f.nm, u6, .int .i64 (f.sy : Int), .bool f.nd] 54 (0, 0))) ∧ Kept [] wr w')
        (fun u6 u16 u17 w' => (∃ g cap, u17 = .slice (some ⟨g, 0, none⟩) (ts.length + 1) cap) ∧ OwnFl w1.heap.size w' u17 (ts ++ [(absF f, u6)]) ∧ Kept (Value.slice va vl vc).ownBlock.toList wr w')
        (fun u6 => .agg #[.string f.nm, u6, .int .i64 (f.sy : Int), .bool f.nd])
        (fun _ _ u17 => u17)
        (by simp only [Act.put, List.setIfInBounds_toArray, List.set_cons_zero, List.set_cons_succ]; rfl) (by exact Or.inl ⟨by rfl, fun W' hW' => by go_simp⟩)
        (by simp only [Act.put, List.setIfInBounds_toArray, List.set_cons_zero, List.set_cons_succ]; rfl) (by exact Or.inl ⟨by rfl, fun W' hW' => by go_simp⟩)
        (by simp only [Act.put, List.setIfInBounds_toArray, List.set_cons_zero, List.set_cons_succ]; rfl) (by exact Or.inl ⟨by rfl, fun W' hW' => by go_simp⟩)
        (by simp only [Act.put, List.setIfInBounds_toArray, List.set_cons_zero, List.set_cons_succ]; rfl) (by exact Or.inl ⟨by rfl, fun W' hW' => by go_simp⟩)
        (by simp only [Act.put, List.setIfInBounds_toArray, List.set_cons_zero, List.set_cons_succ]; rfl) (by exact Or.inl ⟨by rfl, fun W' hW' => by go_simp⟩)
        (by simp only [Act.put, List.setIfInBounds_toArray, List.set_cons_zero, List.set_cons_succ]; rfl) (by exact Or.inl ⟨by rfl, fun W' hW' => by have h9 := hW'.cell f1 (unhide HFN); go_simp⟩)
        (by simp only [Act.put, List.setIfInBounds_toArray, List.set_cons_zero, List.set_cons_succ]; rfl) (by exact Or.inl ⟨by rfl, fun W' hW' => by go_simp⟩)
        (by simp only [Act.put, List.setIfInBounds_toArray, List.set_cons_zero, List.set_cons_succ]; rfl) (by exact Or.inl ⟨by rfl, fun W' hW' => by go_simp⟩)
        (by simp only [Act.put, List.setIfInBounds_toArray, List.set_cons_zero, List.set_cons_succ]; rfl) (by exact Or.inl ⟨by rfl, fun W' hW' => by go_simp⟩)
        (by simp only [Act.put, List.setIfInBounds_toArray, List.set_cons_zero, List.set_cons_succ]; rfl) (by exact Or.inl ⟨by rfl, fun W' hW' => by have h9 := hW'.cell f2 (unhide HFN); go_simp⟩)
        (by simp only [Act.put, List.setIfInBounds_toArray, List.set_cons_zero, List.set_cons_succ]; rfl) (by exact Or.inl ⟨by rfl, fun W' hW' => by go_simp⟩)
        (by simp only [Act.put, List.setIfInBounds_toArray, List.set_cons_zero, List.set_cons_succ]; rfl) (by exact Or.inl ⟨by rfl, fun W' hW' => by go_simp⟩)
        (by simp only [Act.put, List.setIfInBounds_toArray, List.set_cons_zero, List.set_cons_succ]; rfl) (by exact Or.inl ⟨by rfl, fun W' hW' => by go_simp⟩)
        (by simp only [Act.put, List.setIfInBounds_toArray, List.set_cons_zero, List.set_cons_succ]; rfl) (by exact Or.inl ⟨by rfl, fun W' hW' => by have h9 := hW'.cell f3 (unhide HFN); go_simp⟩)
        (Kept.refl [] wr).drew
        ⟨fun w' h => h.mono (by simp), fun u6 w' h => h.2.mono (by simp), fun u6 u16 w' h => h.2.2.mono (by simp), fun u6 u16 u17 w' h => h.2.2⟩
        (by
          intro w' k K hK
          refine wp_callN rfl Try.call36 [.slice fa f.bs.length fc] rfl (dcloned_any _ f.bs w' ((unhide HRD).kept k (by simp))) ?_
          rintro e w2 ⟨rfl, k2, h2⟩
          exact ⟨_, rfl, hK _ _ ⟨⟨_, rfl, k.size, h2⟩, k.trans k2 (by simp)⟩⟩)
        (by
          rintro u6 w' ⟨⟨g, rfl, hg, hh⟩, k⟩ K hK
          simp only [Act.put, List.setIfInBounds_toArray, List.set_cons_zero, List.set_cons_succ] at hK ⊢
          unfold Oper.wp execOp
          go_simp
          exact hK _ _ ⟨⟨_, rfl, hg, ((Kept.refl [] w').alloc _).heap hh (by simp)⟩, ⟨_, rfl, heap_alloc_new _ _⟩, k.alloc _⟩)
        (by
          rintro u6 u16 w' ⟨⟨g, rfl, hg, hh⟩, ⟨H, rfl, hH⟩, k⟩ K hK
          have hO := (unhide HOW).keptF k (by simp)
          obtain ⟨g', cap', w1', hrun, h3, h4, h5⟩ := pushFl w' w1.heap.size (.slice va vl vc) ts (absF f, .slice (some ⟨g, 0, none⟩) f.bs.length f.bs.length) H hO hH ⟨owns_fresh hh (by have := unhide HBL; show f.bs.length ≤ _; omega) (by have := unhide HBS; omega), unhide HBY, by have := unhide HBL; show f.bs.length ≤ _; omega⟩ (by
            intro a ha x hx hy
            simp only [blk, List.mem_singleton] at hy
            subst hy
            have := ((unhide HOW).ge x (by simp only [flB, List.mem_append, List.mem_flatMap]; exact .inr ⟨a, ha, hx⟩)).2
            omega) (by have := unhide HTL; have := unhide HLB2; omega) (Nat.le_trans (unhide HBS) k.size)
          exact wp_appendFl rfl rfl rfl rfl hrun (hK _ _ ⟨⟨_, _, rfl⟩, h3, (k.mono (by simp)).grown h4 (by intro x hx; left; simp [hx])⟩))
        (by rintro u6 w' ⟨⟨g, rfl, hg, hh⟩, k⟩; exact Or.inl ⟨by rfl, fun W' hW' => by go_simp⟩)
        (by rintro u6 u16 u17 w' ⟨⟨g, cap, rfl⟩, h1, k⟩; exact Or.inl ⟨by rfl, fun W' hW' => by go_simp⟩)
        ?_
      rintro u6 u16 u17 w5 ⟨⟨g5, cap5, rfl⟩, h5, k5⟩
      simp only [Act.put, List.setIfInBounds_toArray, List.set_cons_zero, List.set_cons_succ]
      have HOW5 := hide h5
      have HK5 := hide ((unhide HK).trans k5 (by intro x hx; right; simp only [Option.mem_toList] at hx; exact ((unhide HOW).own.lt x hx).1))
      have HNO5 := hide (k5.owns (unhide HNO) (by
        intro x hx hm
        simp only [Option.mem_toList] at hm
        obtain ⟨cs1, hc1⟩ := owns_cells (unhide HNO) (own_blk hx)
        obtain ⟨cs2, hc2⟩ := owns_cells (unhide HOW).own (own_blk hm)
        exact cells_ne hc1 hc2 (by decide) rfl))
      clear h5 k5 f1 f2 f3
      go_wp2_with fail
      refine ⟨⟨i + 1, _, by omega, by have := unhide HLB2; go_num, HOW5, hide ?_, HK5, HNO5⟩, ?_⟩
      · rw [unhide HT, List.map_append, unhide HTS]
        rfl
      · have := unhide HLB2
        simp [intOf]; omega
    · have hlt' : ¬ (i : Int) < SA.length := by omega
      have hie : i = SA.length := by omega
      subst hie
      rw [List.take_length] at HTS
      go_wp2_with fail
      go_ret
      exact ⟨_, rfl, ts, unhide HOW, unhide HTS, unhide HK⟩
end Go.Proofs.Ytlopdlcepmmjdaa
namespace Go.Proofs.Ytlopdlcepmmjdaa
open Go.RowKit Go.BigFrame Go.Maps Go.Sort
set_option linter.unusedVariables false
set_option linter.unusedSimpArgs false

theorem plan_D (d nb bb : Nat) (B : List Nat) (σ : DSt) (lv : Value) (fl : List (Int × Int)) (cr : Int) (w : World) (h : DK w d B nb bb σ) (hfl : RdC 2 w lv (fl.map faC)) (hfd : ∀ x ∈ zblk lv (fl.map faC), x ∉ B) (hfo : ∀ x ∈ fl, OkFa x) (hll : fl.length ≤ 1048576) :
    Calls Try.prog 24 #[.pointer (some ⟨d, 0, none⟩), lv, .int .i64 cr] w fun e w' => ∃ B', e = .returned (.tuple #[]) ∧ DK w' d B' (nb + fl.length) bb (stPlan σ fl cr) ∧ Ev w w' B B' := by
  obtain ⟨sec, cr0, op, off, ft, A⟩ := σ
  obtain ⟨⟨m, u, fv, fs, h1, rfl, hA⟩, h2, h3, h4, h5, h6, h7⟩ := h
  dsimp only at *
  subst hA
  refine Calls.mono (plan_any d sec m nb lv fl cr w u fv cr0 op off ft fs h1 hfl (fun hx => hfd d hx (by simp [dkB])) hfo hll) ?_
  rintro e w' ⟨M, rfl, hM, hD, hK⟩
  refine ⟨_, rfl, ⟨⟨m, u, _, fs, hD, rfl, rfl⟩, h2, ⟨by simp [stPlan], by simp only [stPlan]; omega⟩, by simp only [stPlan]; omega, h5, h6, h7⟩, hK.mono (by intro x hx; simp at hx; simp [dkB, hx]), ?_⟩
  intro x hx
  simp only [dkB, mblk, List.mem_cons, List.mem_append, List.not_mem_nil, or_false] at hx ⊢
  rcases hx with h | h | (h | h) | h
  · exact .inl (.inl h)
  · exact .inl (.inr (.inl h))
  · exact .inl (.inr (.inr (.inl (.inl h))))
  · exact .inr (by omega)
  · exact .inl (.inr (.inr (.inr h)))

theorem files_D (d nb bb : Nat) (B : List Nat) (σ : DSt) (w : World) (h : DK w d B nb bb σ) (hn : nb ≤ 1000000000) (hb : bb ≤ 140737488350000) :
    Calls Try.prog 26 #[.pointer (some ⟨d, 0, none⟩)] w fun e w' => ∃ v ts, e = .returned v ∧ OwnFl w.heap.size w' v ts ∧ ts.map Prod.fst = srtA σ.A ∧ Kept [] w w' := by
  obtain ⟨sec, cr0, op, off, ft, A⟩ := σ
  obtain ⟨⟨m, u, fv, fs, h1, rfl, hA⟩, h2, h3, h4, h5, h6, h7⟩ := h
  dsimp only at *
  subst hA
  exact files_any d sec m nb w u fv cr0 op off ft fs h1 h2 hn (by rw [List.length_map] at h4; omega) (fun f hf => Nat.le_trans (h5 (absF f) (List.mem_map.2 ⟨f, hf, rfl⟩)) hb) (fun f hf => (isNm_size (h7 (absF f) (List.mem_map.2 ⟨f, hf, rfl⟩))).2)

theorem from_D (sec : Nat) (v : Value) (l : List IFile) (bb : Nat) (w : World) (h1 : 1 ≤ sec) (h2 : sec ≤ 4096) (h : RdC 4 w v (l.map ifC)) (ho : ∀ f ∈ l, OkIf w f) (hl : l.length ≤ 1048576) (hb : ∀ f ∈ l, f.bs.length ≤ bb) (hf : formedB l = true) :
    Calls Try.prog 8 #[.int .i64 sec, v] w fun e w' => ∃ d B, e = .returned (.tuple #[.pointer (some ⟨d, 0, none⟩), .int .i64 0]) ∧ DK w' d B l.length bb ⟨sec, 0, 0, false, fun _ => none, l.map toDF⟩ ∧ Kept [] w w' ∧ ∀ x ∈ B, w.heap.size ≤ x := by
  refine Calls.mono (from_ok sec v l w h1 h2 h ho hl hf) ?_
  rintro e w' ⟨d, m, u, gs, rfl, hD, hG, hK, hB⟩
  have hF := (formedB_iff l).1 hf
  refine ⟨d, _, rfl, ⟨⟨m, u, _, gs, hD, rfl, hG.symm⟩, formed_dist hF, ⟨by simp, by simp⟩, by simp, ?_, ⟨h1, h2⟩, ?_⟩, hK, hB⟩
  · intro f hf2
    obtain ⟨a, ha, rfl⟩ := List.mem_map.1 hf2
    exact hb a ha
  · intro f hf2
    obtain ⟨a, ha, rfl⟩ := List.mem_map.1 hf2
    obtain ⟨i, hi, rfl⟩ := List.getElem_of_mem ha
    exact (hF i hi).1

theorem owns_low {w : World} {b c e s n : Nat} {v : Value} {xs : List Value} (h : w.ownsRow b e s v n xs) (hc : c ≤ b) : w.ownsRow c e s v n xs := by
  refine ⟨h.1, ?_⟩
  rcases h.2 with h1 | ⟨g, cap, cur, h1, h2, r⟩
  · exact .inl h1
  · exact .inr ⟨g, cap, cur, h1, Nat.le_trans hc h2, r⟩
theorem NwB.low {w0 w w' : World} {v : Value} {bs : List Nat} (h : NwB w w' v bs) (hs : w0.heap.size ≤ w.heap.size) : NwB w0 w' v bs := ⟨owns_low h.own hs, h.byte, h.len⟩
theorem NwB.none (w w' : World) : NwB w w' (.slice none 0 0) [] := ⟨World.ownsRow_nil _ _ _ _, by simp, by simp⟩
theorem Ev.pre {w W w' : World} {B B' : List Nat} (k : Kept [] w W) (e : Ev W w' B B') : Ev w w' B B' := ⟨(k.mono (by simp)).trans e.1 (fun x hx => .inl hx), fun x hx => (e.2 x hx).imp id (fun h => Nat.le_trans k.size h)⟩

/-- One call. -/
def stepD (σ : DSt) (o : OpD) : (List Nat × Int) × DSt :=
  if o.k = 1 then (([], ((stCreate σ o.s).1 : Nat)), (stCreate σ o.s).2)
  else if o.k = 2 then (([], ((stAppend σ o.s o.ps).1 : Nat)), (stAppend σ o.s o.ps).2)
  else if o.k = 3 then (([], ((stSync σ o.s).1 : Nat)), (stSync σ o.s).2)
  else if o.k = 4 then (([], ((stNames σ).1 : Nat)), (stNames σ).2)
  else if o.k = 5 then (((stRead σ o.s).1, ((stRead σ o.s).2 : Nat)), σ)
  else if o.k = 6 then (([], 0), stPlan σ o.fl o.cr)
  else if o.k = 7 then (([], 0), stCut σ)
  else if o.k = 8 then (([], 0), stRestart σ o.n o.ks)
  else (([], 0), σ)

set_option maxRecDepth 100000 in
set_option maxHeartbeats 2000000 in
theorem call_D (d nb bb : Nat) (B : List Nat) (σ : DSt) (o : OpD) (w : World) (h : DK w d B nb bb σ) (ho : OkOp w o) (hp : ∀ x ∈ zblk o.pv o.ps, x ∉ B) (hf : ∀ x ∈ zblk o.fv (o.fl.map faC), x ∉ B) (hk : ∀ x ∈ zblk o.kv (o.ks.map keC), x ∉ B) (hn : nb ≤ 1000000000) (hb : bb + o.ps.length ≤ 140737488350000) (hfl : o.fl.length ≤ 1048576) (hkl : o.ks.length ≤ 1048576) :
    Calls Try.prog 12 #[.pointer (some ⟨d, 0, none⟩), .agg (opL o).toArray] w fun e w' => ∃ v B', e = .returned (.tuple #[v, .int .i64 (stepD σ o).1.2]) ∧ DK w' d B' (nb + 1 + o.fl.length) (bb + 4096 + o.ps.length) (stepD σ o).2 ∧ Ev w w' B B' ∧ NwB w w' v (stepD σ o).1.1 := by
  obtain ⟨pa, pl, pc, hp1⟩ : ∃ a l c, o.pv = .slice a l c := by obtain ⟨a, l, c, h1, _⟩ := ho.p; exact ⟨a, l, c, h1⟩
  obtain ⟨fa, fl, fc, hf1⟩ : ∃ a l c, o.fv = .slice a l c := by obtain ⟨a, l, c, h1, _⟩ := ho.f; exact ⟨a, l, c, h1⟩
  obtain ⟨ka, kl, kc, hk1⟩ : ∃ a l c, o.kv = .slice a l c := by obtain ⟨a, l, c, h1, _⟩ := ho.kk; exact ⟨a, l, c, h1⟩
  obtain ⟨k, s, pv, ps, fv, fls, cr, n, kv, ks⟩ := o
  dsimp only at *
  subst hp1 hf1 hk1
  have hk0 := (Kept.refl [] w).alloc (.cells #[.int .i64 k, .string s, .slice pa pl pc, .slice fa fl fc, .int .i64 cr, .int .i64 n, .slice ka kl kc] 42 (0, 0))
  have hg := heap_alloc_new w (.cells #[.int .i64 k, .string s, .slice pa pl pc, .slice fa fl fc, .int .i64 cr, .int .i64 n, .slice ka kl kc] 42 (0, 0))
  obtain ⟨W, hW⟩ : ∃ W, w.alloc (.cells #[.int .i64 k, .string s, .slice pa pl pc, .slice fa fl fc, .int .i64 cr, .int .i64 n, .slice ka kl kc] 42 (0, 0)) = W := ⟨_, rfl⟩
  rw [hW] at hk0 hg
  have HW := hide hW
  have HK := hide hk0
  have c0 := cell_of_row _ _ 0 _ _ _ hg
  have c1 := cell_of_row _ _ 1 _ _ _ hg
  have c2 := cell_of_row _ _ 2 _ _ _ hg
  have c3 := cell_of_row _ _ 3 _ _ _ hg
  have c4 := cell_of_row _ _ 4 _ _ _ hg
  have c5 := cell_of_row _ _ 5 _ _ _ hg
  have c6 := cell_of_row _ _ 6 _ _ _ hg
  simp at c0 c1 c2 c3 c4 c5 c6
  have HD := hide (h.old hk0)
  have HPR := hide (ho.p.kept hk0 (by simp))
  have HFR := hide (ho.f.old hk0)
  have HKR := hide (ho.kk.old hk0)
  have HSS := hide (by have := ho.s; dsimp only at this; omega : s.size ≤ 140737488355328)
  have HFO := hide ho.fr
  have HKO := hide (fun x hx => by have := (ho.kr x hx).1; omega : ∀ x ∈ ks, x.nm.size ≤ 140737488355328)
  have HP := hide hp
  have HF := hide hf
  have HKB := hide hk
  dsimp only [opL]
  clear hW hk0 hg h ho hp hf hk
  by_cases h1 : k = 1
  · subst h1
    have hst : stepD σ ⟨1, s, .slice pa pl pc, ps, .slice fa fl fc, fls, cr, n, .slice ka kl kc, ks⟩ = (([], (((stCreate σ s).1 : Nat) : Int)), (stCreate σ s).2) := rfl
    rw [hst]
    have HC := hide (create_D d nb bb B σ s W (unhide HD) (unhide HSS) hn)
    clear hst
    generalize (stCreate σ s) = R at HC ⊢
    go_enter Try.func12, Try.ntmps12
    go_wp2_with (first | (rw [unhide HW]) | fail)
    refine Calls.mono (unhide HC) ?_
    rintro e w1 ⟨B', rfl, h9, ev⟩
    have HD1 := hide h9
    have HE1 := hide ev
    clear h9 ev
    go_wp2_with fail
    go_ret2
    exact ⟨_, B', rfl, (unhide HD1).more (by omega) (by omega), Ev.pre (unhide HK) (unhide HE1), NwB.none _ _⟩
  have g1 : (k == 1) = false := by simpa using h1
  by_cases h2 : k = 2
  · subst h2
    have hst : stepD σ ⟨2, s, .slice pa pl pc, ps, .slice fa fl fc, fls, cr, n, .slice ka kl kc, ks⟩ = (([], (((stAppend σ s ps).1 : Nat) : Int)), (stAppend σ s ps).2) := rfl
    rw [hst]
    have HC := hide (append_D d nb bb B σ s (.slice pa pl pc) ps W (unhide HD) (unhide HSS) hn (unhide HPR) (unhide HP) hb)
    clear hst
    generalize (stAppend σ s ps) = R at HC ⊢
    go_enter Try.func12, Try.ntmps12
    go_wp2_with (first | (rw [unhide HW]) | fail)
    refine Calls.mono (unhide HC) ?_
    rintro e w1 ⟨B', rfl, h9, ev⟩
    have HD1 := hide h9
    have HE1 := hide ev
    clear h9 ev
    go_wp2_with fail
    go_ret2
    exact ⟨_, B', rfl, (unhide HD1).more (by omega) (by omega), Ev.pre (unhide HK) (unhide HE1), NwB.none _ _⟩
  have g2 : (k == 2) = false := by simpa using h2
  by_cases h3 : k = 3
  · subst h3
    have hst : stepD σ ⟨3, s, .slice pa pl pc, ps, .slice fa fl fc, fls, cr, n, .slice ka kl kc, ks⟩ = (([], (((stSync σ s).1 : Nat) : Int)), (stSync σ s).2) := rfl
    rw [hst]
    have HC := hide (sync_D d nb bb B σ s W (unhide HD) (unhide HSS) hn)
    clear hst
    generalize (stSync σ s) = R at HC ⊢
    go_enter Try.func12, Try.ntmps12
    go_wp2_with (first | (rw [unhide HW]) | fail)
    refine Calls.mono (unhide HC) ?_
    rintro e w1 ⟨B', rfl, h9, ev⟩
    have HD1 := hide h9
    have HE1 := hide ev
    clear h9 ev
    go_wp2_with fail
    go_ret2
    exact ⟨_, B', rfl, (unhide HD1).more (by omega) (by omega), Ev.pre (unhide HK) (unhide HE1), NwB.none _ _⟩
  have g3 : (k == 3) = false := by simpa using h3
  by_cases h4 : k = 4
  · subst h4
    have hst : stepD σ ⟨4, s, .slice pa pl pc, ps, .slice fa fl fc, fls, cr, n, .slice ka kl kc, ks⟩ = (([], (((stNames σ).1 : Nat) : Int)), (stNames σ).2) := rfl
    rw [hst]
    have HC := hide (names_D d nb bb B σ W (unhide HD) hn)
    clear hst
    generalize (stNames σ) = R at HC ⊢
    go_enter Try.func12, Try.ntmps12
    go_wp2_with (first | (rw [unhide HW]) | fail)
    refine Calls.mono (unhide HC) ?_
    rintro e w1 ⟨B', rfl, h9, ev⟩
    have HD1 := hide h9
    have HE1 := hide ev
    clear h9 ev
    go_wp2_with fail
    go_ret2
    exact ⟨_, B', rfl, (unhide HD1).more (by omega) (by omega), Ev.pre (unhide HK) (unhide HE1), NwB.none _ _⟩
  have g4 : (k == 4) = false := by simpa using h4
  by_cases h5 : k = 5
  · subst h5
    have hst : stepD σ ⟨5, s, .slice pa pl pc, ps, .slice fa fl fc, fls, cr, n, .slice ka kl kc, ks⟩ = (((stRead σ s).1, (((stRead σ s).2 : Nat) : Int)), σ) := rfl
    rw [hst]
    have HC := hide (read_D d nb bb B σ s W (unhide HD) (unhide HSS) (by omega))
    clear hst
    generalize (stRead σ s) = R at HC ⊢
    go_enter Try.func12, Try.ntmps12
    go_wp2_with (first | (rw [unhide HW]) | fail)
    refine Calls.mono (unhide HC) ?_
    rintro e w1 ⟨v, rfl, h9, ev⟩
    have HN1 := hide h9
    have HE1 := hide ev
    clear h9 ev
    go_wp2_with fail
    go_ret2
    exact ⟨_, B, rfl, ((unhide HD).old (unhide HE1)).more (by omega) (by omega), ⟨((unhide HK).mono (by simp)).trans ((unhide HE1).mono (by simp)) (fun x hx => .inl hx), fun x hx => .inl hx⟩, (unhide HN1).low (unhide HK).size⟩
  have g5 : (k == 5) = false := by simpa using h5
  by_cases h6 : k = 6
  · subst h6
    have hst : stepD σ ⟨6, s, .slice pa pl pc, ps, .slice fa fl fc, fls, cr, n, .slice ka kl kc, ks⟩ = (([], 0), stPlan σ fls cr) := rfl
    rw [hst]
    have HC := hide (plan_D d nb bb B σ (.slice fa fl fc) fls cr W (unhide HD) (unhide HFR) (unhide HF) (unhide HFO) hfl)
    clear hst
    generalize (stPlan σ fls cr) = R at HC ⊢
    go_enter Try.func12, Try.ntmps12
    go_wp2_with (first | (rw [unhide HW]) | fail)
    refine Calls.mono (unhide HC) ?_
    rintro e w1 ⟨B', rfl, h9, ev⟩
    have HD1 := hide h9
    have HE1 := hide ev
    clear h9 ev
    go_wp2_with fail
    go_ret2
    exact ⟨_, B', rfl, (unhide HD1).more (by omega) (by omega), Ev.pre (unhide HK) (unhide HE1), NwB.none _ _⟩
  have g6 : (k == 6) = false := by simpa using h6
  by_cases h7 : k = 7
  · subst h7
    have hst : stepD σ ⟨7, s, .slice pa pl pc, ps, .slice fa fl fc, fls, cr, n, .slice ka kl kc, ks⟩ = (([], 0), stCut σ) := rfl
    rw [hst]
    have HC := hide (cut_D d nb bb B σ W (unhide HD))
    clear hst
    generalize (stCut σ) = R at HC ⊢
    go_enter Try.func12, Try.ntmps12
    go_wp2_with (first | (rw [unhide HW]) | fail)
    refine Calls.mono (unhide HC) ?_
    rintro e w1 ⟨B', rfl, h9, ev⟩
    have HD1 := hide h9
    have HE1 := hide ev
    clear h9 ev
    go_wp2_with fail
    go_ret2
    exact ⟨_, B', rfl, (unhide HD1).more (by omega) (by omega), Ev.pre (unhide HK) (unhide HE1), NwB.none _ _⟩
  have g7 : (k == 7) = false := by simpa using h7
  by_cases h8 : k = 8
  · subst h8
    have hst : stepD σ ⟨8, s, .slice pa pl pc, ps, .slice fa fl fc, fls, cr, n, .slice ka kl kc, ks⟩ = (([], 0), stRestart σ n ks) := rfl
    rw [hst]
    have HC := hide (restart_D d nb bb B σ n (.slice ka kl kc) ks W (unhide HD) hn (by omega) (unhide HKR) (unhide HKB) (unhide HKO) (by omega))
    clear hst
    generalize (stRestart σ n ks) = R at HC ⊢
    go_enter Try.func12, Try.ntmps12
    go_wp2_with (first | (rw [unhide HW]) | fail)
    refine Calls.mono (unhide HC) ?_
    rintro e w1 ⟨B', rfl, h9, ev⟩
    have HD1 := hide h9
    have HE1 := hide ev
    clear h9 ev
    go_wp2_with fail
    go_ret2
    exact ⟨_, B', rfl, (unhide HD1).more (by omega) (by omega), Ev.pre (unhide HK) (unhide HE1), NwB.none _ _⟩
  have g8 : (k == 8) = false := by simpa using h8
  have hst : stepD σ ⟨k, s, .slice pa pl pc, ps, .slice fa fl fc, fls, cr, n, .slice ka kl kc, ks⟩ = (([], 0), σ) := by
    unfold stepD
    dsimp only
    rw [if_neg h1, if_neg h2, if_neg h3, if_neg h4, if_neg h5, if_neg h6, if_neg h7, if_neg h8]
  rw [hst]
  clear hst h1 h2 h3 h4 h5 h6 h7 h8
  go_enter Try.func12, Try.ntmps12
  go_wp2_with (first | (rw [unhide HW]) | fail)
  go_ret2
  exact ⟨_, rfl, B, (unhide HD).more (by omega) (by omega), ⟨(unhide HK).mono (by simp), fun x hx => .inl hx⟩, NwB.none _ _⟩
end Go.Proofs.Ytlopdlcepmmjdaa
/-
  Laws for drawn regions, by genreg.py. No program.
-/
namespace Go.Proofs.Ytlopdlcepmmjdaa
open Go Go.RowKit Go.BigFrame
set_option linter.unusedVariables false
set_option linter.unusedSimpArgs false
section
variable {P : Program} {Q : Exit → Act → World → Prop}
theorem wp_pl11 {id : Nat} {o0 o1 o2 o3 o4 o5 o6 o7 o8 o9 o10 : Oper} {a : Act} {w : World} (hm : P.follows .mixedOrders = true) (hs : Region.noSelect #[o0, o1, o2, o3, o4, o5, o6, o7, o8, o9, o10] = true)
    (f0 : Region.free .any #[o0, o1, o2, o3, o4, o5, o6, o7, o8, o9, o10] #[false, false, false, false, false, false, false, false, false, false, false] 0 = true) (r0 : (Region.ready .any #[o0, o1, o2, o3, o4, o5, o6, o7, o8, o9, o10] #[false, false, false, false, false, false, false, false, false, false, false]).contains 0 = true)
    (f1 : Region.free .any #[o0, o1, o2, o3, o4, o5, o6, o7, o8, o9, o10] #[true, false, false, false, false, false, false, false, false, false, false] 1 = true) (r1 : (Region.ready .any #[o0, o1, o2, o3, o4, o5, o6, o7, o8, o9, o10] #[true, false, false, false, false, false, false, false, false, false, false]).contains 1 = true)
    (f2 : Region.free .any #[o0, o1, o2, o3, o4, o5, o6, o7, o8, o9, o10] #[true, true, false, false, false, false, false, false, false, false, false] 2 = true) (r2 : (Region.ready .any #[o0, o1, o2, o3, o4, o5, o6, o7, o8, o9, o10] #[true, true, false, false, false, false, false, false, false, false, false]).contains 2 = true)
    (f3 : Region.free .any #[o0, o1, o2, o3, o4, o5, o6, o7, o8, o9, o10] #[true, true, true, false, false, false, false, false, false, false, false] 3 = true) (r3 : (Region.ready .any #[o0, o1, o2, o3, o4, o5, o6, o7, o8, o9, o10] #[true, true, true, false, false, false, false, false, false, false, false]).contains 3 = true)
    (q_ : Region.ready .any #[o0, o1, o2, o3, o4, o5, o6, o7, o8, o9, o10] #[true, true, true, true, false, false, false, false, false, false, false] = [4])
    (q4_ : Region.ready .any #[o0, o1, o2, o3, o4, o5, o6, o7, o8, o9, o10] #[true, true, true, true, true, false, false, false, false, false, false] = [5])
    (f4_5_6 : Region.free .any #[o0, o1, o2, o3, o4, o5, o6, o7, o8, o9, o10] #[true, true, true, true, true, true, false, false, false, false, false] 6 = true) (r4_5_6 : (Region.ready .any #[o0, o1, o2, o3, o4, o5, o6, o7, o8, o9, o10] #[true, true, true, true, true, true, false, false, false, false, false]).contains 6 = true)
    (f4_5_7 : Region.free .any #[o0, o1, o2, o3, o4, o5, o6, o7, o8, o9, o10] #[true, true, true, true, true, true, true, false, false, false, false] 7 = true) (r4_5_7 : (Region.ready .any #[o0, o1, o2, o3, o4, o5, o6, o7, o8, o9, o10] #[true, true, true, true, true, true, true, false, false, false, false]).contains 7 = true)
    (f4_5_8 : Region.free .any #[o0, o1, o2, o3, o4, o5, o6, o7, o8, o9, o10] #[true, true, true, true, true, true, true, true, false, false, false] 8 = true) (r4_5_8 : (Region.ready .any #[o0, o1, o2, o3, o4, o5, o6, o7, o8, o9, o10] #[true, true, true, true, true, true, true, true, false, false, false]).contains 8 = true)
    (f4_5_9 : Region.free .any #[o0, o1, o2, o3, o4, o5, o6, o7, o8, o9, o10] #[true, true, true, true, true, true, true, true, true, false, false] 9 = true) (r4_5_9 : (Region.ready .any #[o0, o1, o2, o3, o4, o5, o6, o7, o8, o9, o10] #[true, true, true, true, true, true, true, true, true, false, false]).contains 9 = true)
    (f4_5_10 : Region.free .any #[o0, o1, o2, o3, o4, o5, o6, o7, o8, o9, o10] #[true, true, true, true, true, true, true, true, true, true, false] 10 = true) (r4_5_10 : (Region.ready .any #[o0, o1, o2, o3, o4, o5, o6, o7, o8, o9, o10] #[true, true, true, true, true, true, true, true, true, true, false]).contains 10 = true)
    (q4_5_ : Region.ready .any #[o0, o1, o2, o3, o4, o5, o6, o7, o8, o9, o10] #[true, true, true, true, true, true, true, true, true, true, true] = [])
    (g4 : o4.guard = none)    (g5 : o5.guard = none)
    (v0 v1 v2 v3 : Value) (A0 A1 A2 A3 : Act)
    (S : World → Prop)
    (I_ : World → Prop)
    (I4_ : Value → World → Prop)
    (I4_5_ : Value → Value → World → Prop)
    (v6 : Value → Value → Value)
    (v7 : Value → Value → Value)
    (v8 : Value → Value → Value)
    (v9 : Value → Value → Value)
    (v10 : Value → Value → Value)
    (p0 : a.put o0.dst v0 = A0) (hy0 : YieldsIf P #[o0, o1, o2, o3, o4, o5, o6, o7, o8, o9, o10] S o0 v0 a)
    (p1 : A0.put o1.dst v1 = A1) (hy1 : YieldsIf P #[o0, o1, o2, o3, o4, o5, o6, o7, o8, o9, o10] S o1 v1 A0)
    (p2 : A1.put o2.dst v2 = A2) (hy2 : YieldsIf P #[o0, o1, o2, o3, o4, o5, o6, o7, o8, o9, o10] S o2 v2 A1)
    (p3 : A2.put o3.dst v3 = A3) (hy3 : YieldsIf P #[o0, o1, o2, o3, o4, o5, o6, o7, o8, o9, o10] S o3 v3 A2)
    (i0 : I_ w.drew)
    (hIS : (∀ w', I_  w' → S w') ∧ (∀ (u4 : Value) w', I4_ u4 w' → S w') ∧ (∀ (u4 u5 : Value) w', I4_5_ u4 u5 w' → S w'))
    (s_4 : ∀ w', I_  w' → ∀ K : Act → World → Prop, (∀ (u4 : Value) w2, I4_ u4 w2 → K (A3.put o4.dst u4) w2) → o4.wp P A3 w' K (NoPanic Q))
    (s4_5 : ∀ (u4 : Value) w', I4_ u4 w' → ∀ K : Act → World → Prop, (∀ (u5 : Value) w2, I4_5_ u4 u5 w2 → K ((A3.put o4.dst u4).put o5.dst u5) w2) → o5.wp P (A3.put o4.dst u4) w' K (NoPanic Q))
    (y4_5_6 : ∀ (u4 u5 : Value) w', I4_5_ u4 u5 w' → YieldsIf P #[o0, o1, o2, o3, o4, o5, o6, o7, o8, o9, o10] S o6 (v6 u4 u5) ((A3.put o4.dst u4).put o5.dst u5))
    (y4_5_7 : ∀ (u4 u5 : Value) w', I4_5_ u4 u5 w' → YieldsIf P #[o0, o1, o2, o3, o4, o5, o6, o7, o8, o9, o10] S o7 (v7 u4 u5) (((A3.put o4.dst u4).put o5.dst u5).put o6.dst (v6 u4 u5)))
    (y4_5_8 : ∀ (u4 u5 : Value) w', I4_5_ u4 u5 w' → YieldsIf P #[o0, o1, o2, o3, o4, o5, o6, o7, o8, o9, o10] S o8 (v8 u4 u5) ((((A3.put o4.dst u4).put o5.dst u5).put o6.dst (v6 u4 u5)).put o7.dst (v7 u4 u5)))
    (y4_5_9 : ∀ (u4 u5 : Value) w', I4_5_ u4 u5 w' → YieldsIf P #[o0, o1, o2, o3, o4, o5, o6, o7, o8, o9, o10] S o9 (v9 u4 u5) (((((A3.put o4.dst u4).put o5.dst u5).put o6.dst (v6 u4 u5)).put o7.dst (v7 u4 u5)).put o8.dst (v8 u4 u5)))
    (y4_5_10 : ∀ (u4 u5 : Value) w', I4_5_ u4 u5 w' → YieldsIf P #[o0, o1, o2, o3, o4, o5, o6, o7, o8, o9, o10] S o10 (v10 u4 u5) ((((((A3.put o4.dst u4).put o5.dst u5).put o6.dst (v6 u4 u5)).put o7.dst (v7 u4 u5)).put o8.dst (v8 u4 u5)).put o9.dst (v9 u4 u5)))
    (h : ∀ (u4 u5 : Value) w', I4_5_ u4 u5 w' → Q .normal (((((((A3.put o4.dst u4).put o5.dst u5).put o6.dst (v6 u4 u5)).put o7.dst (v7 u4 u5)).put o8.dst (v8 u4 u5)).put o9.dst (v9 u4 u5)).put o10.dst (v10 u4 u5)) w') :
    (Code.region id #[o0, o1, o2, o3, o4, o5, o6, o7, o8, o9, o10] true).wp P Q a w := by
  subst p0 p1 p2 p3
  obtain ⟨z_, z4_, z4_5_⟩ := hIS
  refine wp_region_noPanic ?_
  refine wp_region_held_drew (S := S) hm (z_ _ i0) (fun hH => ?_)
  show wpAnyH P .any #[o0, o1, o2, o3, o4, o5, o6, o7, o8, o9, o10] (NoPanic Q) S 11 #[false, false, false, false, false, false, false, false, false, false, false] a w.drew
  refine wpAnyH_take (i := 0) (oi := o0) rfl hs f0 r0 (fun _ _ _ h => h) hy0 hH ?_
  refine wpAnyH_take (i := 1) (oi := o1) rfl hs f1 r1 (fun _ _ _ h => h) hy1 hH ?_
  refine wpAnyH_take (i := 2) (oi := o2) rfl hs f2 r2 (fun _ _ _ h => h) hy2 hH ?_
  refine wpAnyH_take (i := 3) (oi := o3) rfl hs f3 r3 (fun _ _ _ h => h) hy3 hH ?_
  generalize ((((a.put o0.dst v0).put o1.dst v1).put o2.dst v2).put o3.dst v3) = B at *
  have wa4 : ∀ y, Region.wanted o4 y = true := fun y => by unfold Region.wanted; rw [g4]
  have wa5 : ∀ y, Region.wanted o5 y = true := fun y => by unfold Region.wanted; rw [g5]
  have t4_5_ : ∀ (u4 u5 : Value) w', I4_5_ u4 u5 w' → wpAnyH P .any #[o0, o1, o2, o3, o4, o5, o6, o7, o8, o9, o10] (NoPanic Q) S 0 #[true, true, true, true, true, true, true, true, true, true, true] (((((((B.put o4.dst u4).put o5.dst u5).put o6.dst (v6 u4 u5)).put o7.dst (v7 u4 u5)).put o8.dst (v8 u4 u5)).put o9.dst (v9 u4 u5)).put o10.dst (v10 u4 u5)) w' := by
    intro u4 u5 w0 i0
    exact ⟨q4_5_, NoPanic.normal (h u4 u5 w0 i0)⟩
  have t4_ : ∀ (u4 : Value) w', I4_ u4 w' → wpAnyH P .any #[o0, o1, o2, o3, o4, o5, o6, o7, o8, o9, o10] (NoPanic Q) S 6 #[true, true, true, true, true, false, false, false, false, false, false] (B.put o4.dst u4) w' := by
    intro u4 w0 i0
    refine wpAnyH_ready (rs := [5]) q4_ (by simp) (AllReadyH.cons (o := o5) rfl (fun K hK => ?_) AllReadyH.nil)
    · rw [if_pos (wa5 _)]
      refine s4_5 u4 w0 i0 K (fun u5 w1 i1 => hK.out _ _ (z4_5_ u4 u5 w1 i1) (fun _ => ?_))
      clear hK
      refine wpAnyH_take (i := 6) (oi := o6) rfl hs f4_5_6 r4_5_6 (fun _ _ _ h => h) (y4_5_6 u4 u5 w1 i1) (z4_5_ u4 u5 w1 i1) ?_
      refine wpAnyH_take (i := 7) (oi := o7) rfl hs f4_5_7 r4_5_7 (fun _ _ _ h => h) (y4_5_7 u4 u5 w1 i1) (z4_5_ u4 u5 w1 i1) ?_
      refine wpAnyH_take (i := 8) (oi := o8) rfl hs f4_5_8 r4_5_8 (fun _ _ _ h => h) (y4_5_8 u4 u5 w1 i1) (z4_5_ u4 u5 w1 i1) ?_
      refine wpAnyH_take (i := 9) (oi := o9) rfl hs f4_5_9 r4_5_9 (fun _ _ _ h => h) (y4_5_9 u4 u5 w1 i1) (z4_5_ u4 u5 w1 i1) ?_
      refine wpAnyH_take (i := 10) (oi := o10) rfl hs f4_5_10 r4_5_10 (fun _ _ _ h => h) (y4_5_10 u4 u5 w1 i1) (z4_5_ u4 u5 w1 i1) ?_
      exact t4_5_ u4 u5 w1 i1
  have t_ : ∀ w', I_  w' → wpAnyH P .any #[o0, o1, o2, o3, o4, o5, o6, o7, o8, o9, o10] (NoPanic Q) S 7 #[true, true, true, true, false, false, false, false, false, false, false] B w' := by
    intro w0 i0
    refine wpAnyH_ready (rs := [4]) q_ (by simp) (AllReadyH.cons (o := o4) rfl (fun K hK => ?_) AllReadyH.nil)
    · rw [if_pos (wa4 _)]
      refine s_4  w0 i0 K (fun u4 w1 i1 => hK.out _ _ (z4_ u4 w1 i1) (fun _ => ?_))
      clear hK
      exact t4_ u4 w1 i1
  exact t_ w.drew i0

end
end Go.Proofs.Ytlopdlcepmmjdaa
namespace Go.Proofs.Ytlopdlcepmmjdaa
open Go.RowKit Go.BigFrame Go.Maps Go.Sort
set_option linter.unusedVariables false
set_option linter.unusedSimpArgs false

theorem ifC_len (ts : List IFile) : (ts.flatMap ifC).length = ts.length * 4 := by
  induction ts with
  | nil => rfl
  | cons t r ih => simp only [List.flatMap_cons, List.length_append, List.length_cons, ifC, List.length_nil] at ih ⊢; omega
theorem ifC_get : ∀ (ts : List IFile) (i : Nat) (h : i < ts.length) (j : Nat) (v : Value), (ifC ts[i])[j]? = some v → (ts.flatMap ifC)[i * 4 + j]? = some v
  | t :: r, 0, _, j, v, hv => by
    have hj := (List.getElem?_eq_some_iff.1 hv).1
    rw [List.flatMap_cons, List.getElem?_append_left (by simpa using hj)]
    simpa using hv
  | t :: r, i + 1, h, j, v, hv => by
    have h' : i < r.length := by simpa using h
    have h1 := ifC_get r i h' j v (by simpa using hv)
    rw [List.flatMap_cons, List.getElem?_append_right (by simp [ifC]; omega)]
    rw [show (i + 1) * 4 + j - (ifC t).length = i * 4 + j by simp [ifC]; omega]
    exact h1
/-- Files that are owned, each file's bytes in memory of their own. -/
structure OwnI (B : Nat) (w : World) (v : Value) (ts : List IFile) : Prop where
  own : w.ownsRow B 54 4 v ts.length (ts.flatMap ifC)
  el : ∀ t ∈ ts, w.ownsRow B 5 1 t.v t.bs.length (t.bs.map u8) ∧ (∀ x ∈ t.bs, x < 256) ∧ t.bs.length ≤ 140737488355328
  ap : ts.Pairwise fun a b => ∀ x ∈ blk a.v, x ∉ blk b.v
theorem OwnI.nil (B : Nat) (w : World) : OwnI B w (.slice none 0 0) [] := ⟨World.ownsRow_nil _ _ _ _, by simp, List.Pairwise.nil⟩
/-- One file more. -/
theorem pushI (w : World) (B : Nat) (v : Value) (ts : List IFile) (t : IFile) (H : Nat) (h : OwnI B w v ts) (hnew : w.heap[H]? = some (.cells (ifC t).toArray 54 (0, 0))) (ho : w.ownsRow B 5 1 t.v t.bs.length (t.bs.map u8) ∧ (∀ x ∈ t.bs, x < 256) ∧ t.bs.length ≤ 140737488355328)
    (ha : ∀ a ∈ ts, ∀ x ∈ blk a.v, x ∉ blk t.v) (hl : ts.length + 1 ≤ 1000000000) (hb : B ≤ w.heap.size) :
    ∃ g cap w1, (Builtin.append_ #[22, 22] 22 #[v, .slice (some ⟨H, 0, none⟩) 1 1]).run Try.prog w = .ok (.slice (some ⟨g, 0, none⟩) (ts.length + 1) cap) w1 ∧
      OwnI B w1 (.slice (some ⟨g, 0, none⟩) (ts.length + 1) cap) (ts ++ [t]) ∧ w.grownBy w1 v.ownBlock ∧ (v.ownBlock = some g ∨ g = w.heap.size) := by
  obtain ⟨i0, hi, hz0, hz1, hz2⟩ := info_parts Try.infoF
  obtain ⟨ao, len, cap0, hv2⟩ : ∃ ao len cap, t.v = .slice ao len cap := by
    obtain ⟨a, c, h9⟩ := owns_shape ho.1
    exact ⟨a, _, c, h9⟩
  obtain ⟨g, cap, w1, hr, hown, hgrow, hat, hlt⟩ := run_append_lies (P := Try.prog) w 22 22 B 54 i0 (.agg #[.string ⟨#[]⟩, .slice none 0 0, .int .i64 0, .bool false]) 4 56 Try.underlying22 hi hz0 hz1 hz2 rfl (by decide)
    v ts.length (ts.flatMap ifC) h.own ⟨H, 0, none⟩ 1 1 (ifC t) rfl (World.news_of_block hnew) (by intro u hu; simp only [ifC, List.mem_cons, List.not_mem_nil, or_false] at hu; rcases hu with rfl | rfl | rfl | rfl; rfl; rw [hv2]; rfl; rfl; rfl) (by decide) (by unfold maxLen; omega) (by omega) hb _ rfl
  have k1 : Kept v.ownBlock.toList w w1 := (Kept.refl _ w).grown hgrow (by intro k hk; left; simp [hk])
  have hty : ∀ {x : Nat} {cs : Array Value}, w.heap[x]? = some (.cells cs 5 (0, 0)) → x ∉ v.ownBlock.toList := by
    intro x cs hx hm
    simp only [Option.mem_toList] at hm
    rcases h.own.2 with ⟨hv, _⟩ | ⟨g9, c9, cur9, hv, _, hg9, _⟩
    · rw [hv] at hm; cases hm
    · rw [hv] at hm
      injection hm with hm
      subst hm
      exact cells_ne hx hg9 (by decide) rfl
  refine ⟨g, cap, w1, hr, ⟨?_, ?_, ?_⟩, hgrow, hat⟩
  · rw [List.flatMap_append, List.length_append]
    simpa using hown
  · intro a ha2
    rw [List.mem_append, List.mem_singleton] at ha2
    have h9 : w.ownsRow B 5 1 a.v a.bs.length (a.bs.map u8) ∧ (∀ x ∈ a.bs, x < 256) ∧ a.bs.length ≤ 140737488355328 := by
      rcases ha2 with h1 | rfl
      · exact h.el a h1
      · exact ho
    refine ⟨k1.owns h9.1 ?_, h9.2⟩
    intro x hx
    obtain ⟨cs, hc⟩ := owns_cells h9.1 (own_blk hx)
    exact hty hc
  · rw [List.pairwise_append]
    exact ⟨h.ap, List.pairwise_singleton _ _, by intro a h1 b h2; rw [List.mem_singleton] at h2; subst h2; exact ha a h1⟩


theorem OwnI.kept {L : List Nat} {B : Nat} {w w' : World} {v : Value} {ts : List IFile} (h : OwnI B w v ts) (k : Kept L w w') (hv : ∀ x ∈ blk v, x ∉ L) (ht : ∀ t ∈ ts, ∀ x ∈ blk t.v, x ∉ L) : OwnI B w' v ts :=
  ⟨k.owns h.own (fun x hx => hv x (own_blk hx)), fun t h1 => ⟨k.owns (h.el t h1).1 (fun x hx => ht t h1 x (own_blk hx)), (h.el t h1).2⟩, h.ap⟩
theorem OwnI.old {B : Nat} {w w' : World} {v : Value} {ts : List IFile} (h : OwnI B w v ts) (k : Kept [] w w') : OwnI B w' v ts := h.kept k (by simp) (by simp)
theorem OwnI.rd {B : Nat} {w : World} {v : Value} {ts : List IFile} (h : OwnI B w v ts) : RdC 4 w v (ts.map ifC) ∧ ∀ t ∈ ts, Rd w t.v t.bs := by
  refine ⟨?_, fun t ht => rd_owns (h.el t ht).1 (h.el t ht).2.1 (h.el t ht).2.2⟩
  rcases h.own.2 with ⟨rfl, h0⟩ | ⟨g, cap, cur, rfl, _, hg, hc, hm', hs, ht⟩
  · have : ts = [] := List.eq_nil_of_length_eq_zero h0
    subst this
    exact RdC.nil 4 w
  · refine ⟨some ⟨g, 0, none⟩, ts.length, cap, rfl, by simp, hc, by unfold maxLen at hm'; omega, fun _ => ⟨g, 0, rfl, fun i hi j u hu => ?_⟩⟩
    have hi' : i < ts.length := by simpa using hi
    rw [List.getElem_map] at hu
    have h9 := h.own.cells (g := g) rfl (i * 4 + j) u (ifC_get ts i hi' j u hu)
    rw [Addr.add_lit, Nat.zero_add] at h9
    rw [Nat.zero_add]
    exact h9
theorem OwnI.fl {B : Nat} {w : World} {v : Value} {ts : List IFile} (h : OwnI B w v ts) : ∀ x, x ∈ blk v ∨ (∃ t ∈ ts, x ∈ blk t.v) → B ≤ x ∧ x < w.heap.size := by
  rintro x (hx | ⟨t, ht, hx⟩)
  · exact h.own.lt x (blk_own4 h.own hx)
  · exact (h.el t ht).1.lt x (blk_own (h.el t ht).1 hx)
def iK (f : IFile) : ByteArray × List Nat × Int × Bool := (f.nm, f.bs, f.sy, f.nd)
end Go.Proofs.Ytlopdlcepmmjdaa
namespace Go.Proofs.Ytlopdlcepmmjdaa
open Go.RowKit Go.BigFrame Go.Maps Go.Sort
set_option linter.unusedVariables false
set_option linter.unusedSimpArgs false

theorem wpList_pushI {ops : Array Oper} {rest : List Oper} {o : Oper} {a : Act} {Q : Exit → Act → World → Prop} (hgd : o.guard = none) (s x : Operand)
    (ho : o.op = .call { callee := .builtin .append, args := #[s, x], argTypes := #[22, 22] }) (hty : o.type = 22)
    (w : World) (B : Nat) (v : Value) (ts : List IFile) (t : IFile) (H : Nat) (h : OwnI B w v ts) (hnew : w.heap[H]? = some (.cells (ifC t).toArray 54 (0, 0))) (ho2 : w.ownsRow B 5 1 t.v t.bs.length (t.bs.map u8) ∧ (∀ x ∈ t.bs, x < 256) ∧ t.bs.length ≤ 140737488355328)
    (ha : ∀ a ∈ ts, ∀ x ∈ blk a.v, x ∉ blk t.v) (hl : ts.length + 1 ≤ 1000000000) (hb : B ≤ w.heap.size) (hs : a.eval s = v) (hx : a.eval x = .slice (some ⟨H, 0, none⟩) 1 1)
    (hK : ∀ g cap w1, Hid (OwnI B w1 (.slice (some ⟨g, 0, none⟩) (ts.length + 1) cap) (ts ++ [t])) → Hid (w.grownBy w1 v.ownBlock) →
      wpList Try.prog ops Q rest (a.put o.dst (.slice (some ⟨g, 0, none⟩) (ts.length + 1) cap)) w1) :
    wpList Try.prog ops Q (o :: rest) a w := by
  obtain ⟨g, cap, w1, hrun, h2, h3, h4⟩ := pushI w B v ts t H h hnew ho2 ha hl hb
  refine wpList_plain hgd fun K hK' => ?_
  unfold Oper.wp execOp
  simp only [ho, hty, resolve, invoke, builtin, Sem.run_bind, Sem.run_pure, Result.andThen_ok, List.map_toArray, List.map_cons, List.map_nil, hs, hx, hrun]
  exact hK' _ _ (hK g cap w1 h2 h3)

set_option maxRecDepth 100000 in
set_option maxHeartbeats 2000000 in
theorem twins_any (v : Value) (l : List IFile) (w : World) (h : RdC 4 w v (l.map ifC)) (ho : ∀ f ∈ l, Rd w f.v f.bs) (hl : l.length ≤ 1048576) :
    Calls Try.prog 9 #[v] w fun e w' => ∃ v' ts, e = .returned v' ∧ OwnI w.heap.size w' v' ts ∧ ts.map iK = l.map iK ∧ Kept [] w w' := by
  obtain ⟨ao, len, cap, rfl, h1, h2, h3, h4⟩ := h
  rw [List.length_map] at h1
  subst h1
  have H4 := hide h4
  have HO := hide ho
  clear h4 ho
  go_enter Try.func9, Try.ntmps9
  go_wp2_with fail
  go_loopw [3, 8] (fun v t8 wr => ∃ (i : Nat) (ts : List IFile), i ≤ l.length ∧ t8 = .int .i64 i ∧ Hid (OwnI w.heap.size wr v ts) ∧ Hid (ts.map iK = (l.take i).map iK) ∧ Hid (Kept [] w wr)) (fun _ t _ => l.length - (intOf t).toNat)
  case atStart => exact ⟨0, [], Nat.zero_le _, rfl, hide (OwnI.nil _ _), hide rfl, hide (Kept.refl _ _)⟩
  case round =>
    obtain ⟨i, ts, hi, rfl, HOW, HTS, HK⟩ := hrel
    obtain ⟨va, vl, vc, hv⟩ : ∃ va vl vc, u3 = .slice va vl vc := by
      obtain ⟨a, l, c, h9, _⟩ := (unhide HOW).rd.1
      exact ⟨a, l, c, h9⟩
    subst hv
    have HTL := hide (by have := congrArg List.length (unhide HTS); rw [List.length_map, List.length_map, List.length_take] at this; omega : ts.length = i)
    by_cases hlt : i < l.length
    · have hlt' : (i : Int) < l.length := by omega
      obtain ⟨b, off, rfl, hcc⟩ := unhide H4 (by omega)
      have hr := hcc i (by rw [List.length_map]; exact hlt)
      rw [List.getElem_map] at hr
      have p0 := (unhide HK).cell (hr 0 _ rfl) (by simp)
      have p1 := (unhide HK).cell (hr 1 _ rfl) (by simp)
      have p2 := (unhide HK).cell (hr 2 _ rfl) (by simp)
      have p3 := (unhide HK).cell (hr 3 _ rfl) (by simp)
      rw [Nat.add_zero] at p0
      have hof := unhide HO l[i] (List.getElem_mem hlt)
      have HT := hide (List.take_succ_eq_append_getElem hlt)
      clear hr hcc
      obtain ⟨xa, xl, xc, hv⟩ := (show ∃ va vl vc, l[i].v = .slice va vl vc by obtain ⟨a, b, c, h9, _⟩ := hof; exact ⟨a, b, c, h9⟩)
      rw [hv] at p1
      have HRD := hide (by rw [← hv]; exact hof.kept (unhide HK) (by simp) : Rd wr (.slice xa xl xc) l[i].bs)
      have HLN := hide (show l[i].bs.length ≤ 140737488355328 by obtain ⟨a, b, c, h9, h10, h11, h12, _⟩ := hof; omega)
      clear hof hv
      generalize l[i] = X at p0 p1 p2 p3 HT HRD HLN
      go_upto_region 5 with fail
      have HG1 := hide (heap_alloc_new wr (.cells #[.string X.nm, .slice xa xl xc, .int .i64 X.sy, .bool X.nd] 54 (0, 0)))
      have HKa := hide ((Kept.refl [] wr).alloc (.cells #[.string X.nm, .slice xa xl xc, .int .i64 X.sy, .bool X.nd] 54 (0, 0)))
      obtain ⟨W1, hW1⟩ : ∃ W, wr.alloc (.cells #[.string X.nm, .slice xa xl xc, .int .i64 X.sy, .bool X.nd] 54 (0, 0)) = W := ⟨_, rfl⟩
      rw [hW1] at HG1 HKa ⊢
      clear hW1 p0 p1 p2 p3
      have q1 := cell_of_row _ _ 1 _ _ _ (unhide HG1)
      simp at q1
      have HS1 := hide (unhide HKa).size
      go_wp2_with fail
      refine Calls.mono (twin_any (.slice xa xl xc) X.bs W1 ((unhide HRD).kept (unhide HKa) (by simp))) ?_
      rintro e w2 ⟨rfl, k2, hh2⟩
      have HG2 := hide (k2.heap (unhide HG1) (by simp))
      have HH2 := hide hh2
      have HK2 := hide ((unhide HKa).trans k2 (by simp))
      have HGN := hide (lt_of_block (unhide HG1))
      clear k2 hh2 q1
      have q1 := cell_of_row _ _ 1 _ _ _ (unhide HG2)
      simp at q1
      have z1 := frozen_of_row _ _ 1 _ _ (unhide HG2)
      go_upto_region 6 with fail
      have HG3 := hide (heap_setCell_same w2 _ 1 _ _ (.slice (some ⟨W1.heap.size, 0, none⟩) X.bs.length X.bs.length) (unhide HG2))
      have HK3 := hide ((unhide HK2).setCell (p := ⟨wr.heap.size, 1, none⟩) (.inr (Nat.le_refl _)) (.slice (some ⟨W1.heap.size, 0, none⟩) X.bs.length X.bs.length))
      have HH3 := hide (((Kept.refl [wr.heap.size] w2).setCell (p := ⟨wr.heap.size, 1, none⟩) (.inl (by simp)) (.slice (some ⟨W1.heap.size, 0, none⟩) X.bs.length X.bs.length)).heap (unhide HH2) (by have := unhide HGN; simp; omega))
      obtain ⟨W3, hW3⟩ : ∃ W, w2.setCell ⟨wr.heap.size, 1, none⟩ (.slice (some ⟨W1.heap.size, 0, none⟩) X.bs.length X.bs.length) = W := ⟨_, rfl⟩
      rw [hW3] at HG3 HK3 HH3 ⊢
      clear hW3 q1 z1
      have r0 := cell_of_row _ _ 0 _ _ _ (unhide HG3)
      have r1 := cell_of_row _ _ 1 _ _ _ (unhide HG3)
      have r2 := cell_of_row _ _ 2 _ _ _ (unhide HG3)
      have r3 := cell_of_row _ _ 3 _ _ _ (unhide HG3)
      simp at r0 r1 r2 r3
      have HK4 := hide ((unhide HK3).alloc (.cells #[.string X.nm, .slice (some ⟨W1.heap.size, 0, none⟩) X.bs.length X.bs.length, .int .i64 X.sy, .bool X.nd] 54 (0, 0)))
      have HH4 := hide (((Kept.refl [] W3).alloc (.cells #[.string X.nm, .slice (some ⟨W1.heap.size, 0, none⟩) X.bs.length X.bs.length, .int .i64 X.sy, .bool X.nd] 54 (0, 0))).heap (unhide HH3) (by simp))
      have HN4 := hide (heap_alloc_new W3 (.cells #[.string X.nm, .slice (some ⟨W1.heap.size, 0, none⟩) X.bs.length X.bs.length, .int .i64 X.sy, .bool X.nd] 54 (0, 0)))
      have HBW := hide (unhide HK).size
      have HAA := hide (by
        intro a ha x hx hy
        simp only [blk, List.mem_singleton] at hy
        have := ((unhide HOW).fl x (.inr ⟨a, ha, hx⟩)).2
        have := unhide HS1
        omega : ∀ a ∈ ts, ∀ x ∈ blk a.v, x ∉ blk (.slice (some ⟨W1.heap.size, 0, none⟩) X.bs.length X.bs.length))
      go_wp2_with (at_builtin; refine wpList_pushI rfl _ _ rfl rfl _ w.heap.size (.slice va vl vc) ts ⟨X.nm, .slice (some ⟨W1.heap.size, 0, none⟩) X.bs.length X.bs.length, X.bs, X.sy, X.nd⟩ W3.heap.size ((unhide HOW).old (unhide HK4)) (unhide HN4) ⟨owns_fresh (unhide HH4) (unhide HLN) (by have := unhide HS1; have := unhide HBW; omega), (unhide HRD).byte, unhide HLN⟩ (unhide HAA) (by have := unhide HTL; omega) (Nat.le_trans (unhide HBW) (unhide HK4).size) rfl rfl ?_; intro g5 cap5 w5 HO5 HGR5)
      refine ⟨⟨i + 1, _, by omega, by simp, HO5, hide ?_, hide ?_⟩, ?_⟩
      · rw [unhide HT, List.map_append, List.map_append, unhide HTS]
        rfl
      · exact ((unhide HK).trans (unhide HK4) (by simp)).grown (unhide HGR5) (by intro x hx; right; exact ((unhide HOW).own.lt x hx).1)
      · simp [intOf]; omega
    · have hlt' : ¬ (i : Int) < l.length := by omega
      have hie : i = l.length := by omega
      subst hie
      rw [List.take_length] at HTS
      go_wp2_with fail
      go_ret
      exact ⟨_, rfl, ts, unhide HOW, unhide HTS, unhide HK⟩
end Go.Proofs.Ytlopdlcepmmjdaa
namespace Go.Proofs.Ytlopdlcepmmjdaa
open Go.RowKit Go.BigFrame Go.Maps Go.Sort
set_option linter.unusedVariables false
set_option linter.unusedSimpArgs false

theorem formed_key {l l' : List IFile} (h : l'.map iK = l.map iK) : formedB l' = formedB l ∧ l'.map toDF = l.map toDF ∧ l'.length = l.length := by
  have hl : l'.length = l.length := by have := congrArg List.length h; simpa using this
  have hi : ∀ i (h1 : i < l.length) (h2 : i < l'.length), iK l'[i] = iK l[i] := by
    intro i h1 h2
    have := congrArg (fun x => x[i]?) h
    simpa [List.getElem?_eq_getElem h1, List.getElem?_eq_getElem h2] using this
  refine ⟨?_, ?_, hl⟩
  · rw [Bool.eq_iff_iff, formedB_iff, formedB_iff]
    have key : ∀ (a b : List IFile), a.length = b.length → (∀ i (h1 : i < b.length) (h2 : i < a.length), iK a[i] = iK b[i]) → FormedL b → FormedL a := by
      intro a b hab hk hf i hia
      have hib : i < b.length := by omega
      have e := hk i hib hia
      simp only [iK, Prod.mk.injEq] at e
      obtain ⟨f1, f2, f3, f4⟩ := hf i hib
      refine ⟨by rw [e.1]; exact f1, by rw [e.2.2.1]; exact f2, by rw [e.2.2.1, e.2.1]; exact f3, fun hp => ?_⟩
      have e2 := hk (i - 1) (by omega) (by omega)
      simp only [iK, Prod.mk.injEq] at e2
      rw [e.1, e2.1]
      exact f4 hp
    exact ⟨key l l' hl.symm (fun i h1 h2 => (hi i h2 h1).symm), key l' l hl hi⟩
  · have e : ∀ f : IFile, toDF f = (fun (x : ByteArray × List Nat × Int × Bool) => (⟨x.1, x.2.1, x.2.2.1.toNat, x.2.2.2⟩ : DF)) (iK f) := fun f => rfl
    have : ∀ a : List IFile, a.map toDF = (a.map iK).map (fun (x : ByteArray × List Nat × Int × Bool) => (⟨x.1, x.2.1, x.2.2.1.toNat, x.2.2.2⟩ : DF)) := by
      intro a
      rw [List.map_map]
      rfl
    rw [this, this, h]
theorem OwnI.ok {B : Nat} {w : World} {v : Value} {ts l : List IFile} (h : OwnI B w v ts) (hk : ts.map iK = l.map iK) (ho : ∀ f ∈ l, f.nm.size ≤ 1048576 ∧ Rng f.sy) : ∀ f ∈ ts, OkIf w f := by
  intro f hf
  have h1 : iK f ∈ l.map iK := by rw [← hk]; exact List.mem_map.2 ⟨f, hf, rfl⟩
  obtain ⟨a, ha, hae⟩ := List.mem_map.1 h1
  simp only [iK, Prod.mk.injEq] at hae
  exact ⟨h.rd.2 f hf, by rw [← hae.1]; exact (ho a ha).1, by rw [← hae.2.2.1]; exact (ho a ha).2⟩

def tupAt : Value → Nat → Value
  | .tuple xs, i => xs.toList.getD i undef
  | _, _ => undef
/-- What From answers: the disk, or none. -/
def FrR (sec : Int) (l : List IFile) : Nat := if 1 ≤ sec ∧ sec ≤ 4096 then (if formedB l then 0 else 3) else 1
theorem fromT_any (sec : Int) (v : Value) (l ts : List IFile) (B bb : Nat) (w : World) (h : OwnI B w v ts) (hk : ts.map iK = l.map iK) (ho : ∀ f ∈ l, f.nm.size ≤ 1048576 ∧ Rng f.sy) (hl : l.length ≤ 1048576) (hb : ∀ f ∈ l, f.bs.length ≤ bb) :
    Calls Try.prog 8 #[.int .i64 sec, v] w fun e w' => ∃ p, e = .returned (.tuple #[p, .int .i64 (FrR sec l : Nat)]) ∧ Kept [] w w' ∧ (FrR sec l ≠ 0 → p = .pointer none) ∧ (FrR sec l = 0 → ∃ d D, p = .pointer (some ⟨d, 0, none⟩) ∧ DK w' d D l.length bb ⟨sec.toNat, 0, 0, false, fun _ => none, l.map toDF⟩ ∧ ∀ x ∈ D, w.heap.size ≤ x) := by
  obtain ⟨k1, k2, k3⟩ := formed_key hk
  have hok := h.ok hk ho
  unfold FrR
  by_cases hs : 1 ≤ sec ∧ sec ≤ 4096
  · rw [if_pos hs]
    cases hf : formedB l
    · refine Calls.mono (from_form sec v ts w hs.1 hs.2 h.rd.1 hok (by omega) (by rw [k1]; exact hf)) ?_
      rintro e w' ⟨rfl, kk⟩
      exact ⟨_, rfl, kk, fun _ => rfl, fun h9 => by simp at h9⟩
    · have hs2 : ((sec.toNat : Nat) : Int) = sec := by omega
      have hc := from_D sec.toNat v ts bb w (by omega) (by omega) h.rd.1 hok (by omega) (by
        intro f hf2
        have h1 : iK f ∈ l.map iK := by rw [← hk]; exact List.mem_map.2 ⟨f, hf2, rfl⟩
        obtain ⟨a, ha, hae⟩ := List.mem_map.1 h1
        simp only [iK, Prod.mk.injEq] at hae
        rw [← hae.2.1]
        exact hb a ha) (by rw [k1]; exact hf)
      rw [hs2] at hc
      refine Calls.mono hc ?_
      rintro e w' ⟨d, D, rfl, hd, kk, hn⟩
      rw [k2, k3] at hd
      exact ⟨_, rfl, kk, fun h9 => absurd rfl h9, fun _ => ⟨d, D, rfl, hd, hn⟩⟩
  · rw [if_neg hs]
    refine Calls.mono (from_arg sec v w (by omega)) ?_
    rintro e w' ⟨rfl, rfl⟩
    exact ⟨_, rfl, Kept.refl _ _, fun _ => rfl, fun h9 => by simp at h9⟩

theorem okOp_old {w w' : World} {o : OpD} (h : OkOp w o) (k : Kept [] w w') : OkOp w' o := ⟨h.k, h.s, h.p.kept k (by simp), h.f.old k, h.fr, h.cr, h.n, h.kk.old k, h.kr⟩
theorem stepD_sec (σ : DSt) (o : OpD) : (stepD σ o).2.sec = σ.sec := by
  unfold stepD
  (repeat' split) <;> first | rfl | (unfold stCreate; split <;> rfl) | (unfold stAppend; (repeat' split) <;> rfl) | (unfold stSync; (repeat' split) <;> rfl) | (unfold stNames; split <;> rfl)
theorem opW_take {os : List OpD} {i : Nat} (h : i < os.length) : ((os.take (i + 1)).map opW).sum = ((os.take i).map opW).sum + opW os[i] := by
  rw [List.take_succ_eq_append_getElem h, List.map_append, List.sum_append]
  simp
theorem opW_le {os : List OpD} (i : Nat) : ((os.take i).map opW).sum ≤ (os.map opW).sum := by
  conv => rhs; rw [← List.take_append_drop i os, List.map_append, List.sum_append]
  omega
theorem fsum_mem {l : List IFile} {f : IFile} (h : f ∈ l) : f.bs.length + 1 ≤ (l.map fun f => f.bs.length + 1).sum := by
  induction l with
  | nil => simp at h
  | cons a l ih =>
    rcases List.mem_cons.1 h with rfl | h
    · simp
    · have := ih h; simp only [List.map_cons, List.sum_cons]; omega
theorem fsum_len (l : List IFile) : l.length ≤ (l.map fun f => f.bs.length + 1).sum := sum_len l _ (by intro a; omega)

end Go.Proofs.Ytlopdlcepmmjdaa
/-
  Laws for drawn regions, by genreg.py. No program.
-/
namespace Go.Proofs.Ytlopdlcepmmjdaa
open Go Go.RowKit Go.BigFrame
set_option linter.unusedVariables false
set_option linter.unusedSimpArgs false
section
variable {P : Program} {Q : Exit → Act → World → Prop}
theorem wp_ac7 {id : Nat} {o0 o1 o2 o3 o4 o5 o6 : Oper} {a : Act} {w : World} (hm : P.follows .mixedOrders = true) (hs : Region.noSelect #[o0, o1, o2, o3, o4, o5, o6] = true)
    (f0 : Region.free .any #[o0, o1, o2, o3, o4, o5, o6] #[false, false, false, false, false, false, false] 0 = true) (r0 : (Region.ready .any #[o0, o1, o2, o3, o4, o5, o6] #[false, false, false, false, false, false, false]).contains 0 = true)
    (f1 : Region.free .any #[o0, o1, o2, o3, o4, o5, o6] #[true, false, false, false, false, false, false] 1 = true) (r1 : (Region.ready .any #[o0, o1, o2, o3, o4, o5, o6] #[true, false, false, false, false, false, false]).contains 1 = true)
    (f2 : Region.free .any #[o0, o1, o2, o3, o4, o5, o6] #[true, true, false, false, false, false, false] 2 = true) (r2 : (Region.ready .any #[o0, o1, o2, o3, o4, o5, o6] #[true, true, false, false, false, false, false]).contains 2 = true)
    (f4 : Region.free .any #[o0, o1, o2, o3, o4, o5, o6] #[true, true, true, false, false, false, false] 4 = true) (r4 : (Region.ready .any #[o0, o1, o2, o3, o4, o5, o6] #[true, true, true, false, false, false, false]).contains 4 = true)
    (f5 : Region.free .any #[o0, o1, o2, o3, o4, o5, o6] #[true, true, true, false, true, false, false] 5 = true) (r5 : (Region.ready .any #[o0, o1, o2, o3, o4, o5, o6] #[true, true, true, false, true, false, false]).contains 5 = true)
    (q_ : Region.ready .any #[o0, o1, o2, o3, o4, o5, o6] #[true, true, true, false, true, true, false] = [3])
    (q3_ : Region.ready .any #[o0, o1, o2, o3, o4, o5, o6] #[true, true, true, true, true, true, false] = [6])
    (q3_6_ : Region.ready .any #[o0, o1, o2, o3, o4, o5, o6] #[true, true, true, true, true, true, true] = [])
    (g3 : o3.guard = none)    (g6 : o6.guard = none)
    (v0 v1 v2 v4 v5 : Value) (A0 A1 A2 A3 A4 : Act)
    (S : World → Prop)
    (I_ : World → Prop)
    (I3_ : Value → World → Prop)
    (I3_6_ : Value → Value → World → Prop)
    (p0 : a.put o0.dst v0 = A0) (hy0 : YieldsIf P #[o0, o1, o2, o3, o4, o5, o6] S o0 v0 a)
    (p1 : A0.put o1.dst v1 = A1) (hy1 : YieldsIf P #[o0, o1, o2, o3, o4, o5, o6] S o1 v1 A0)
    (p2 : A1.put o2.dst v2 = A2) (hy2 : YieldsIf P #[o0, o1, o2, o3, o4, o5, o6] S o2 v2 A1)
    (p4 : A2.put o4.dst v4 = A3) (hy4 : YieldsIf P #[o0, o1, o2, o3, o4, o5, o6] S o4 v4 A2)
    (p5 : A3.put o5.dst v5 = A4) (hy5 : YieldsIf P #[o0, o1, o2, o3, o4, o5, o6] S o5 v5 A3)
    (i0 : I_ w.drew)
    (hIS : (∀ w', I_  w' → S w') ∧ (∀ (u3 : Value) w', I3_ u3 w' → S w') ∧ (∀ (u3 u6 : Value) w', I3_6_ u3 u6 w' → S w'))
    (s_3 : ∀ w', I_  w' → ∀ K : Act → World → Prop, (∀ (u3 : Value) w2, I3_ u3 w2 → K (A4.put o3.dst u3) w2) → o3.wp P A4 w' K (NoPanic Q))
    (s3_6 : ∀ (u3 : Value) w', I3_ u3 w' → ∀ K : Act → World → Prop, (∀ (u6 : Value) w2, I3_6_ u3 u6 w2 → K ((A4.put o3.dst u3).put o6.dst u6) w2) → o6.wp P (A4.put o3.dst u3) w' K (NoPanic Q))
    (h : ∀ (u3 u6 : Value) w', I3_6_ u3 u6 w' → Q .normal ((A4.put o3.dst u3).put o6.dst u6) w') :
    (Code.region id #[o0, o1, o2, o3, o4, o5, o6] true).wp P Q a w := by
  subst p0 p1 p2 p4 p5
  obtain ⟨z_, z3_, z3_6_⟩ := hIS
  refine wp_region_noPanic ?_
  refine wp_region_held_drew (S := S) hm (z_ _ i0) (fun hH => ?_)
  show wpAnyH P .any #[o0, o1, o2, o3, o4, o5, o6] (NoPanic Q) S 7 #[false, false, false, false, false, false, false] a w.drew
  refine wpAnyH_take (i := 0) (oi := o0) rfl hs f0 r0 (fun _ _ _ h => h) hy0 hH ?_
  refine wpAnyH_take (i := 1) (oi := o1) rfl hs f1 r1 (fun _ _ _ h => h) hy1 hH ?_
  refine wpAnyH_take (i := 2) (oi := o2) rfl hs f2 r2 (fun _ _ _ h => h) hy2 hH ?_
  refine wpAnyH_take (i := 4) (oi := o4) rfl hs f4 r4 (fun _ _ _ h => h) hy4 hH ?_
  refine wpAnyH_take (i := 5) (oi := o5) rfl hs f5 r5 (fun _ _ _ h => h) hy5 hH ?_
  generalize (((((a.put o0.dst v0).put o1.dst v1).put o2.dst v2).put o4.dst v4).put o5.dst v5) = B at *
  have wa3 : ∀ y, Region.wanted o3 y = true := fun y => by unfold Region.wanted; rw [g3]
  have wa6 : ∀ y, Region.wanted o6 y = true := fun y => by unfold Region.wanted; rw [g6]
  have t3_6_ : ∀ (u3 u6 : Value) w', I3_6_ u3 u6 w' → wpAnyH P .any #[o0, o1, o2, o3, o4, o5, o6] (NoPanic Q) S 0 #[true, true, true, true, true, true, true] ((B.put o3.dst u3).put o6.dst u6) w' := by
    intro u3 u6 w0 i0
    exact ⟨q3_6_, NoPanic.normal (h u3 u6 w0 i0)⟩
  have t3_ : ∀ (u3 : Value) w', I3_ u3 w' → wpAnyH P .any #[o0, o1, o2, o3, o4, o5, o6] (NoPanic Q) S 1 #[true, true, true, true, true, true, false] (B.put o3.dst u3) w' := by
    intro u3 w0 i0
    refine wpAnyH_ready (rs := [6]) q3_ (by simp) (AllReadyH.cons (o := o6) rfl (fun K hK => ?_) AllReadyH.nil)
    · rw [if_pos (wa6 _)]
      refine s3_6 u3 w0 i0 K (fun u6 w1 i1 => hK.out _ _ (z3_6_ u3 u6 w1 i1) (fun _ => ?_))
      clear hK
      exact t3_6_ u3 u6 w1 i1
  have t_ : ∀ w', I_  w' → wpAnyH P .any #[o0, o1, o2, o3, o4, o5, o6] (NoPanic Q) S 2 #[true, true, true, false, true, true, false] B w' := by
    intro w0 i0
    refine wpAnyH_ready (rs := [3]) q_ (by simp) (AllReadyH.cons (o := o3) rfl (fun K hK => ?_) AllReadyH.nil)
    · rw [if_pos (wa3 _)]
      refine s_3  w0 i0 K (fun u3 w1 i1 => hK.out _ _ (z3_ u3 w1 i1) (fun _ => ?_))
      clear hK
      exact t3_ u3 w1 i1
  exact t_ w.drew i0

end
end Go.Proofs.Ytlopdlcepmmjdaa
namespace Go.Proofs.Ytlopdlcepmmjdaa
open Go.RowKit Go.BigFrame Go.Maps Go.Sort
set_option linter.unusedVariables false
set_option linter.unusedSimpArgs false
theorem Ev.more {w w' : World} {B B' : List Nat} (h : Ev w w' B B') {W : World} (k : Kept [] w' W) : Ev w W B B' := ⟨h.1.trans k (by simp), h.2⟩
theorem st_sec (σ : DSt) (s : ByteArray) (p : List Nat) : (stCreate σ s).2.sec = σ.sec ∧ (stAppend σ s p).2.sec = σ.sec ∧ (stSync σ s).2.sec = σ.sec ∧ (stNames σ).2.sec = σ.sec := by
  refine ⟨?_, ?_, ?_, ?_⟩
  · unfold stCreate; split <;> rfl
  · unfold stAppend; (repeat' split) <;> rfl
  · unfold stSync; (repeat' split) <;> rfl
  · unfold stNames; split <;> rfl

set_option maxRecDepth 100000 in
set_option maxHeartbeats 2000000 in
theorem acts_any (d nb bb : Nat) (B : List Nat) (σ : DSt) (kd F : Nat) (pv : Value) (ps : List Nat) (w : World) (h : DK w d B nb bb σ) (hk : kd < 256) (hF : F < 256) (hp : Rd w pv ps) (hpd : ∀ x ∈ zblk pv ps, x ∉ B) (hn : nb ≤ 1000000000) (hb : bb + ps.length ≤ 140737488350000) :
    Calls Try.prog 25 #[.pointer (some ⟨d, 0, none⟩), .agg #[.int .u8 kd, .int .u8 F, pv]] w fun e w' => e = .returned (.tuple #[]) ∧ ∃ B' σ', DK w' d B' (nb + 1) (bb + ps.length) σ' ∧ σ'.sec = σ.sec ∧ Ev w w' B B' := by
  obtain ⟨pa, pl, pc, hpv⟩ : ∃ a l c, pv = .slice a l c := by obtain ⟨a, l, c, h1, _⟩ := hp; exact ⟨a, l, c, h1⟩
  subst hpv
  have hk0 := (Kept.refl [] w).alloc (.cells #[.int .u8 kd, .int .u8 F, .slice pa pl pc] 65 (0, 0))
  have hg := heap_alloc_new w (.cells #[.int .u8 kd, .int .u8 F, .slice pa pl pc] 65 (0, 0))
  obtain ⟨W, hW⟩ : ∃ W, w.alloc (.cells #[.int .u8 kd, .int .u8 F, .slice pa pl pc] 65 (0, 0)) = W := ⟨_, rfl⟩
  rw [hW] at hk0 hg
  have HW := hide hW
  have HK := hide hk0
  have HG := hide hg
  have c0 := cell_of_row _ _ 0 _ _ _ hg
  have c1 := cell_of_row _ _ 1 _ _ _ hg
  have c2 := cell_of_row _ _ 2 _ _ _ hg
  simp at c0 c1 c2
  clear hW hk0 hg
  by_cases h0 : kd = 0
  · have g0 : ((kd : Int) == 0) = true := by simp; omega
    clear h0
    go_enter Try.func25, Try.ntmps25
    go_wp2_with (first | (rw [unhide HW]) | fail)
    refine Calls.mono (file_any F hF _) ?_
    rintro e w1 ⟨s, rfl, hs, k1⟩
    have HS := hide hs
    have HK1 := hide ((unhide HK).trans k1 (by simp))
    clear hs k1
    go_wp2_with fail
    refine Calls.mono (create_D d nb bb B σ s _ (h.old (unhide HK1)) (by have := unhide HS; omega) hn) ?_
    rintro e w2 ⟨B', rfl, h9, ev⟩
    have HD := hide h9
    have HE := hide (Ev.pre (unhide HK1) ev)
    clear h9 ev
    go_wp2_with fail
    refine bodyPost_end (v := .tuple #[]) (results_none rfl _ _ _) rfl ⟨rfl, B', _, (unhide HD).more (by omega) (by omega), (st_sec σ s ps).1, unhide HE⟩
  have g0 : ((kd : Int) == 0) = false := by simp; omega
  by_cases h1 : kd = 1
  · have g1 : ((kd : Int) == 1) = true := by simp; omega
    clear h1
    go_enter Try.func25, Try.ntmps25
    go_upto_region 6 with (first | (rw [unhide HW]) | fail)
    refine wp_ac7 (by kernel_rfl) (by kernel_rfl) (by kernel_rfl) (by kernel_rfl) (by kernel_rfl) (by kernel_rfl) (by kernel_rfl) (by kernel_rfl) (by kernel_rfl) (by kernel_rfl) (by kernel_rfl) (by kernel_rfl) (by kernel_rfl) (by kernel_rfl) (by kernel_rfl) rfl rfl
      (.pointer (some ⟨d, 0, none⟩)) (.pointer (some ⟨w.heap.size, 1, none⟩)) (.int .u8 F) (.pointer (some ⟨w.heap.size, 2, none⟩)) (.slice pa pl pc) _ _ _ _ _
      (fun w' => w'.heap[w.heap.size]? = some (.cells #[.int .u8 kd, .int .u8 F, .slice pa pl pc] 65 (0, 0)))
      (fun w' => Kept [] W w')
      (fun u3 w' => (∃ s : ByteArray, u3 = .string s ∧ s.size ≤ 2) ∧ Kept [] W w')
      (fun u3 u6 w' => (∃ B' σ', DK w' d B' (nb + 1) (bb + ps.length) σ' ∧ σ'.sec = σ.sec ∧ Ev w w' B B') ∧ w'.heap[w.heap.size]? = some (.cells #[.int .u8 kd, .int .u8 F, .slice pa pl pc] 65 (0, 0)))
      (by simp only [Act.put, List.setIfInBounds_toArray, List.set_cons_zero, List.set_cons_succ]; rfl) (by exact Or.inl ⟨by rfl, fun W' hW' => by go_simp⟩)
      (by simp only [Act.put, List.setIfInBounds_toArray, List.set_cons_zero, List.set_cons_succ]; rfl) (by exact Or.inl ⟨by rfl, fun W' hW' => by go_simp⟩)
      (by simp only [Act.put, List.setIfInBounds_toArray, List.set_cons_zero, List.set_cons_succ]; rfl) (by exact Or.inl ⟨by rfl, fun W' hW' => by have h9 := cell_of_row _ _ 1 _ _ _ hW'; simp at h9; go_simp⟩)
      (by simp only [Act.put, List.setIfInBounds_toArray, List.set_cons_zero, List.set_cons_succ]; rfl) (by exact Or.inl ⟨by rfl, fun W' hW' => by go_simp⟩)
      (by simp only [Act.put, List.setIfInBounds_toArray, List.set_cons_zero, List.set_cons_succ]; rfl) (by exact Or.inl ⟨by rfl, fun W' hW' => by have h9 := cell_of_row _ _ 2 _ _ _ hW'; simp at h9; go_simp⟩)
      (Kept.refl [] W).drew
      ⟨fun w' h => h.heap (unhide HG) (by simp), fun u3 w' h => h.2.heap (unhide HG) (by simp), fun u3 u6 w' h => h.2⟩
      (by
        intro w' k K hK
        refine wp_callN rfl Try.call61 [.int .u8 F] rfl (file_any F hF w') ?_
        rintro e w2 ⟨s, rfl, hs, k2⟩
        exact ⟨_, rfl, hK _ _ ⟨⟨s, rfl, hs⟩, k.trans k2 (by simp)⟩⟩)
      (by
        rintro u3 w' ⟨⟨s, rfl, hs⟩, k⟩ K hK
        have k9 := (unhide HK).trans k (by simp)
        refine wp_callN rfl Try.call21 [.pointer (some ⟨d, 0, none⟩), .string s, .slice pa pl pc] rfl (append_D d nb bb B σ s (.slice pa pl pc) ps w' (h.old k9) (by omega) hn (hp.kept k9 (by simp)) hpd hb) ?_
        rintro e w2 ⟨B', rfl, h9, ev⟩
        exact ⟨_, rfl, hK _ _ ⟨⟨B', _, h9, (st_sec σ s ps).2.1, Ev.pre k9 ev⟩, ev.1.heap (k.heap (unhide HG) (by simp)) (fun h7 => by have := h.lt _ h7; omega)⟩⟩)
      ?_
    rintro u3 u6 w3 ⟨⟨B', σ', h9, hse, ev⟩, _⟩
    simp only [Act.put, List.setIfInBounds_toArray, List.set_cons_zero, List.set_cons_succ]
    have HD := hide h9
    have HS := hide hse
    have HE := hide ev
    clear h9 hse ev
    go_wp2_with fail
    refine bodyPost_end (v := .tuple #[]) (results_none rfl _ _ _) rfl ⟨rfl, B', σ', unhide HD, unhide HS, unhide HE⟩
  have g1 : ((kd : Int) == 1) = false := by simp; omega
  by_cases h2 : kd = 2
  · have g2 : ((kd : Int) == 2) = true := by simp; omega
    clear h2
    go_enter Try.func25, Try.ntmps25
    go_wp2_with (first | (rw [unhide HW]) | fail)
    refine Calls.mono (file_any F hF _) ?_
    rintro e w1 ⟨s, rfl, hs, k1⟩
    have HS := hide hs
    have HK1 := hide ((unhide HK).trans k1 (by simp))
    clear hs k1
    go_wp2_with fail
    refine Calls.mono (sync_D d nb bb B σ s _ (h.old (unhide HK1)) (by have := unhide HS; omega) hn) ?_
    rintro e w2 ⟨B', rfl, h9, ev⟩
    have HD := hide h9
    have HE := hide (Ev.pre (unhide HK1) ev)
    clear h9 ev
    go_wp2_with fail
    refine bodyPost_end (v := .tuple #[]) (results_none rfl _ _ _) rfl ⟨rfl, B', _, (unhide HD).more (by omega) (by omega), (st_sec σ s ps).2.2.1, unhide HE⟩
  have g2 : ((kd : Int) == 2) = false := by simp; omega
  go_enter Try.func25, Try.ntmps25
  go_wp2_with (first | (rw [unhide HW]) | fail)
  refine Calls.mono (names_D d nb bb B σ _ (h.old (unhide HK)) hn) ?_
  rintro e w2 ⟨B', rfl, h9, ev⟩
  have HD := hide h9
  have HE := hide (Ev.pre (unhide HK) ev)
  clear h9 ev
  go_wp2_with fail
  refine bodyPost_end (v := .tuple #[]) (results_none rfl _ _ _) rfl ⟨rfl, B', _, (unhide HD).more (by omega) (by omega), (st_sec σ ByteArray.empty ps).2.2.2, unhide HE⟩
end Go.Proofs.Ytlopdlcepmmjdaa
namespace Go.Proofs.Ytlopdlcepmmjdaa
open Go.RowKit Go.BigFrame Go.Maps Go.Sort
set_option linter.unusedVariables false
set_option linter.unusedSimpArgs false
theorem fstK_at {ks : List KeepD} {s : List UInt8} {i : Nat} (h : fstK (ks.take i) s = none) (hi : i < ks.length) : (ks[i].nm.data.toList = s → fstK ks s = some ks[i]) ∧ (ks[i].nm.data.toList ≠ s → fstK (ks.take (i + 1)) s = none) := by
  unfold fstK at *
  constructor
  · intro e
    conv => lhs; rw [← List.take_append_drop i ks, List.find?_append, h, List.drop_eq_getElem_cons hi, List.find?_cons_of_pos (by simp [e])]
    rfl
  · intro e
    rw [List.take_succ_eq_append_getElem hi, List.find?_append, h]
    simp [e]

set_option maxRecDepth 100000 in
set_option maxHeartbeats 1000000 in
theorem fated_any (n : Int) (kv : Value) (ks : List KeepD) (nm : ByteArray) (tail : Nat) (w : World) (hk : RdC 3 w kv (ks.map keC)) (hl : ks.length ≤ 1048576) :
    Calls Try.prog 66 #[.agg #[.int .i64 n, kv], .string nm, .int .i64 tail] w fun e w' => e = .returned (.tuple #[.int .i64 (wtn ((fstK ks nm.data.toList).getD zK).kb tail), .bool ((fstK ks nm.data.toList).getD zK).tn]) ∧ Kept [] w w' := by
  obtain ⟨ka, kl, kc, rfl, g1, g2, g3, g4⟩ := hk
  rw [List.length_map] at g1
  subst g1
  have hk0 := (Kept.refl [] w).alloc (.cells #[.int .i64 n, .slice ka ks.length kc] 40 (0, 0))
  have hg := heap_alloc_new w (.cells #[.int .i64 n, .slice ka ks.length kc] 40 (0, 0))
  obtain ⟨W, hW⟩ : ∃ W, w.alloc (.cells #[.int .i64 n, .slice ka ks.length kc] 40 (0, 0)) = W := ⟨_, rfl⟩
  rw [hW] at hk0 hg
  have HW := hide hW
  have HK := hide hk0
  have HG := hide hg
  have H4 := hide g4
  clear hW hk0 hg g4
  go_enter Try.func66, Try.ntmps66
  go_wp2_with (first | (rw [unhide HW]) | fail)
  go_loopw [8] (fun t8 wr => ∃ i : Nat, i ≤ ks.length ∧ t8 = .int .i64 i ∧ Hid (fstK (ks.take i) nm.data.toList = none) ∧ Hid (Kept [] W wr)) (fun t _ => ks.length - (intOf t).toNat)
  case atStart => exact ⟨0, Nat.zero_le _, rfl, hide rfl, hide (Kept.refl _ _)⟩
  case round =>
    obtain ⟨i, hi, rfl, HF, HKW⟩ := hrel
    have q1 := cell_of_row _ _ 1 _ _ _ ((unhide HKW).heap (unhide HG) (by simp))
    simp at q1
    by_cases hlt : i < ks.length
    · have hlt' : (i : Int) < ks.length := by omega
      obtain ⟨b, off, rfl, hcc⟩ := unhide H4 (by omega)
      have hr := hcc i (by rw [List.length_map]; exact hlt)
      rw [List.getElem_map] at hr
      have HKX := hide ((unhide HK).trans (unhide HKW) (by simp))
      have p0 := (unhide HKX).cell (hr 0 _ rfl) (by simp)
      have p1 := (unhide HKX).cell (hr 1 _ rfl) (by simp)
      have p2 := (unhide HKX).cell (hr 2 _ rfl) (by simp)
      rw [Nat.add_zero] at p0
      have HAT := hide (fstK_at (unhide HF) hlt)
      clear hr hcc
      generalize ks[i] = X at p0 p1 p2 HAT
      go_upto_region 5 with fail
      obtain ⟨V, hV⟩ : ∃ V, wr.alloc (.cells #[.string X.nm, .int .i64 X.kb, .bool X.tn] 72 (0, 0)) = V := ⟨_, rfl⟩
      have hkv := (Kept.refl [] wr).alloc (.cells #[.string X.nm, .int .i64 X.kb, .bool X.tn] 72 (0, 0))
      have hgv := heap_alloc_new wr (.cells #[.string X.nm, .int .i64 X.kb, .bool X.tn] 72 (0, 0))
      rw [hV] at hkv hgv ⊢
      have HKV := hide hkv
      have r0 := cell_of_row _ _ 0 _ _ _ hgv
      have r1 := cell_of_row _ _ 1 _ _ _ hgv
      have r2 := cell_of_row _ _ 2 _ _ _ hgv
      simp at r0 r1 r2
      clear hV hkv hgv p0 p1 p2 q1
      by_cases hn : X.nm.data.toList = nm.data.toList
      · have hnb : (X.nm.toList == nm.toList) = true := by rw [ba_toList, ba_toList, hn]; simp
        have HR := hide ((unhide HAT).1 hn)
        clear hn
        go_upto_region 6 with fail
        refine wp_region_quiet_lit (by kernel_rfl) (by kernel_rfl) ?_
        repeat (go_big_quiet_step (fail))
        refine wpQuiet_nil ?_
        rintro _ ⟨m5, rfl⟩
        go_wp2_with fail
        go_ret2
        rw [unhide HR]
        refine ⟨?_, (((unhide HK).trans (unhide HKW) (by simp)).trans (unhide HKV) (by simp)).drewN _⟩
        simp [wtn]
      · have hnb : (X.nm.toList == nm.toList) = false := by rw [ba_toList, ba_toList]; exact beq_eq_false_iff_ne.2 hn
        have HR := hide ((unhide HAT).2 hn)
        clear hn
        go_wp2_with fail
        refine ⟨⟨i + 1, by omega, by simp, HR, hide ((unhide HKW).trans (unhide HKV) (by simp))⟩, ?_⟩
        simp [intOf]; omega
    · have hlt' : ¬ (i : Int) < ks.length := by omega
      have hie : i = ks.length := by omega
      subst hie
      rw [List.take_length] at HF
      go_wp2_with fail
      go_ret2
      rw [unhide HF]
      exact ⟨by simp [wtn, zK]; try omega, (unhide HK).trans (unhide HKW) (by simp)⟩
end Go.Proofs.Ytlopdlcepmmjdaa
namespace Go.Proofs.Ytlopdlcepmmjdaa
open Go.RowKit
set_option linter.unusedVariables false
set_option linter.unusedSimpArgs false

theorem byteD {bs : List Nat} (h : ∀ x ∈ bs, x < 256) (j : Nat) : bs.getD j 0 < 256 := by
  rw [List.getD_eq_getElem?_getD]
  rcases Nat.lt_or_ge j bs.length with hj | hj
  · rw [List.getElem?_eq_getElem hj]; exact h _ (List.getElem_mem hj)
  · rw [List.getElem?_eq_none hj]; decide

theorem take_snoc {p : List Nat} {k : Nat} (h : k < p.length) : p.take (k + 1) = p.take k ++ [p.getD k 0] := by
  rw [List.take_succ_eq_append_getElem h, List.getD_eq_getElem?_getD, List.getElem?_eq_getElem h]; rfl

set_option maxRecDepth 100000 in
set_option maxHeartbeats 1000000 in
theorem ttwin_any (v : Value) (p : List Nat) (w : World) (h : Rd w v p) (hl : p.length ≤ 140737488351232) :
    Calls Try.prog 67 #[v] w fun e w' => ∃ ao cap, e = .returned (.slice ao p.length cap) ∧ w'.ownsRow w.heap.size 5 1 (.slice ao p.length cap) p.length (p.map u8) ∧ Kept [] w w' := by
  have H := hide h
  obtain ⟨ao, len, cap, rfl, rfl, h2, ⟨h3, h3'⟩, h4, h5, h6⟩ := h
  have H6 := hide h6
  have H5 := hide h5
  clear h4 h5 h6
  go_enter Try.func67, Try.ntmps67
  go_wp2
  go_loopw [3, 4] (fun t3 t4 wr => ∃ (k : Nat) (ao1 : Option Addr) (cap1 : Nat), k ≤ p.length ∧ t3 = .slice ao1 k cap1 ∧ t4 = .int .i64 k ∧ Hid (wr.ownsRow w.heap.size 5 1 (.slice ao1 k cap1) k ((p.take k).map u8)) ∧ Hid (Kept [] w wr)) (fun _ t _ => p.length - (intOf t).toNat)
  case atStart => exact ⟨0, none, 0, Nat.zero_le _, rfl, rfl, World.ownsRow_nil _ _ _ _, Kept.refl _ _⟩
  case round =>
    obtain ⟨k, ao1, cap1, hk, rfl, rfl, HO, HK⟩ := hrel
    by_cases hlt : k < p.length
    · have hlt' : (k : Int) < p.length := by omega
      obtain ⟨b, o, rfl, hcell⟩ := unhide H6 (by omega)
      have ck := (unhide HK).cell (hcell k hlt) (by simp)
      have hb := byteD (unhide H5) k
      have HS := hide (take_snoc hlt)
      have hkl : (p.take k).length = k := by simp; omega
      clear hcell
      generalize p.getD k 0 = z at ck hb HS
      have hrs : Rd (wr.alloc (.cells #[.int .u8 (z : Int)] 5)) (.slice (some ⟨wr.heap.size, 0, none⟩) 1 1) [z] := rd_lit (heap_alloc_new wr _) rfl (by simp; omega) 1 rfl (by omega)
      have HRs := hide hrs
      have HO' := hide (by rw [hkl]; exact unhide HO : wr.ownsRow w.heap.size 5 1 (.slice ao1 k cap1) (p.take k).length ((p.take k).map Go.Proofs.Ytlopdlcepmmjdaa.u8))
      have hsz := (unhide HK).size
      have Hkl := hide hkl
      clear hrs hkl
      go_wp2_with (at_builtin; go_must (refine wpList_appendAll rfl (.tmp 11) (.tmp 16) rfl rfl _ w.heap.size (.slice ao1 k cap1) (p.take k) [z] _ 1 1 (by exact (unhide HO').alloc _) (by exact unhide HRs) (by rw [unhide Hkl]; simp; omega) (by simp; omega) rfl rfl ?_; intro ao2 cap2 w2 HO2 HG2 HA2; rw [unhide Hkl] at HO2 HA2 ⊢; simp only [List.length_cons, List.length_nil, Nat.zero_add] at HO2 HG2 HA2))
      have hk2 := ((unhide HK).alloc (.cells #[.int .u8 (z : Int)] 5)).grown (unhide HG2) (by intro j hj; right; exact ((unhide HO).lt j hj).1)
      have HK2 := hide hk2
      clear hk2
      go_wp2
      go_roundw
      case rel => exact ⟨k + 1, ao2, cap2, by omega, by simp, by go_num, hide (by have h5 := unhide HO2; rw [unhide HS]; simpa [unhide Hkl] using h5), HK2⟩
      case measure => simp [intOf]; omega
    · have hlt' : ¬ (k : Int) < p.length := by omega
      have hkn : k = p.length := by omega
      subst hkn
      go_wp2
      go_ret
      exact ⟨ao1, cap1, rfl, by have h5 := unhide HO; rwa [List.take_length] at h5, unhide HK⟩

end Go.Proofs.Ytlopdlcepmmjdaa
namespace Go.Proofs.Ytlopdlcepmmjdaa
open Go.RowKit Go.BigFrame Go.Maps Go.Sort
set_option linter.unusedVariables false
set_option linter.unusedSimpArgs false

theorem cutN_nd (k : Nat) (A : List DF) : ∀ f ∈ A, f.nd = true → f ∈ cutN k A := by
  induction A generalizing k with
  | nil => simp
  | cons a r ih =>
    intro f hf hn
    unfold cutN
    rcases List.mem_cons.1 hf with rfl | hf
    · rw [if_pos hn]; simp
    · split
      · exact List.mem_cons_of_mem _ (ih k f hf hn)
      · cases k with
        | zero => exact ih 0 f hf hn
        | succ k => exact List.mem_cons_of_mem _ (ih k f hf hn)
theorem cutN_all (k : Nat) (A : List DF) (h : ∀ f ∈ A, f.nd = true) : cutN k A = A := by
  induction A with
  | nil => rfl
  | cons a r ih =>
    unfold cutN
    rw [if_pos (h a (by simp)), ih (fun f hf => h f (by simp [hf]))]
/-- What stays, told by name. -/
def kpt (L : List DF) (f : DF) : Bool := L.any fun x => decide (x.nm = f.nm)
theorem kpt_iff {L : List DF} {f : DF} : kpt L f = true ↔ ∃ x ∈ L, x.nm = f.nm := by unfold kpt; simp
theorem sub_filter {L A : List DF} (h : L.Sublist A) (hd : Dist A) : L = A.filter (kpt L) := by
  induction h with
  | slnil => rfl
  | @cons l₁ l₂ a h ih =>
    have hd2 : Dist l₂ := (List.pairwise_cons.1 hd).2
    have hn : kpt l₁ a = false := by
      rw [Bool.eq_false_iff]
      intro h9
      obtain ⟨x, hx, e⟩ := kpt_iff.1 h9
      exact (List.pairwise_cons.1 hd).1 x (h.subset hx) e.symm
    rw [List.filter_cons_of_neg (by rw [hn]; simp)]
    exact ih hd2
  | @cons_cons l₁ l₂ a h ih =>
    have hd2 : Dist l₂ := (List.pairwise_cons.1 hd).2
    rw [List.filter_cons_of_pos (by rw [kpt_iff]; exact ⟨a, by simp, rfl⟩)]
    congr 1
    have e : l₂.filter (kpt (a :: l₁)) = l₂.filter (kpt l₁) := by
      apply List.filter_congr
      intro x hx
      have hne := (List.pairwise_cons.1 hd).1 x hx
      unfold kpt
      simp [hne]
    rw [e]
    exact ih hd2
theorem setF_nd (k : KeepD) (sec : Nat) (f : DF) : (setF k sec f).nd = true := by unfold setF; split <;> rfl
theorem setF_fix (k : KeepD) (sec : Nat) (f : DF) (h1 : f.sy = f.bs.length) (h2 : f.nd = true) : setF k sec f = f := by
  obtain ⟨nm, bs, sy, nd⟩ := f
  dsimp only at h1 h2
  subst h1 h2
  have hN : setN k ⟨nm, bs, bs.length, true⟩ = bs.length := by unfold setN wtn; dsimp only; omega
  unfold setF
  rw [hN]
  dsimp only
  rw [if_neg (by omega), List.take_length]
/-- The first cut: what is left, in order. -/
theorem leaves_pure (σ : DSt) (hd : Dist σ.A) (hs : 1 ≤ σ.sec) (n : Int) (ks : List KeepD) (hsy : ∀ f ∈ σ.A, f.sy ≤ f.bs.length) :
    ∃ (p : DF → Bool) (g : DF → KeepD), srtA (stRestart σ n ks).A = ((srtA σ.A).filter p).map (fun f => setF (g f) σ.sec f) ∧ (∀ f ∈ srtA σ.A, f.nd = true → p f = true) := by
  let L := cutN (wtn n (unA σ.A)).toNat σ.A
  have hL : L = σ.A.filter (kpt L) := sub_filter (cutN_sub _ _) hd
  refine ⟨kpt L, fun f => (fstK ks f.nm.data.toList).getD zK, ?_, ?_⟩
  · show srtA (setA ks σ.sec L) = _
    unfold setA
    rw [srtA_map (hd.sublist (cutN_sub _ _)) (fun x => setF_nm _ _ x)]
    have e := srtA_filter hd (kpt L)
    rw [← hL] at e
    rw [e]
  · intro f hf hn
    rw [kpt_iff]
    exact ⟨f, cutN_nd _ _ f (srtA_mem.1 hf) hn, rfl⟩
/-- The second cut leaves all as it is. -/
theorem leaves_again (σ : DSt) (n m : Int) (ks ls : List KeepD) (h : ∀ f ∈ (stRestart σ n ks).A, f.sy = f.bs.length) : (stRestart (stRestart σ n ks) m ls).A = (stRestart σ n ks).A := by
  have hnd : ∀ f ∈ (stRestart σ n ks).A, f.nd = true := by
    intro f hf
    obtain ⟨a, _, rfl⟩ := List.mem_map.1 hf
    exact setF_nd _ _ _
  show setA ls σ.sec (cutN _ (stRestart σ n ks).A) = _
  rw [cutN_all _ _ hnd]
  unfold setA
  conv => rhs; rw [← List.map_id (stRestart σ n ks).A]
  apply List.map_congr_left
  intro f hf
  exact setF_fix _ _ _ (h f hf) (hnd f hf)
/-- Where the walk over what was stands in what is. -/
theorem kept_at {W : List DF} {p : DF → Bool} {i : Nat} (hi : i < W.length) (hp : p W[i] = true) : (W.filter p)[((W.take i).filter p).length]? = some W[i] := by
  conv => lhs; arg 1; rw [← List.take_append_drop i W]
  rw [List.filter_append, List.getElem?_append_right (Nat.le_refl _), Nat.sub_self, List.drop_eq_getElem_cons hi, List.filter_cons_of_pos hp]
  rfl
theorem kept_no {W : List DF} {p : DF → Bool} (hd : Dist W) {i j : Nat} (hi : i < W.length) (hp : p W[i] = false) {x : DF} (hx : (W.filter p)[j]? = some x) : x.nm ≠ W[i].nm := by
  intro e
  have hm := List.mem_filter.1 (List.mem_of_getElem? hx)
  have e1 := findA_of hd hm.1
  have e2 := findA_of hd (List.getElem_mem hi)
  rw [e, e2] at e1
  have := Option.some.inj e1
  rw [← this, hp] at hm
  simp at hm
theorem kept_step {W : List DF} {p : DF → Bool} {i : Nat} (hi : i < W.length) : ((W.take (i + 1)).filter p).length = ((W.take i).filter p).length + (if p W[i] then 1 else 0) := by
  rw [List.take_succ_eq_append_getElem hi, List.filter_append, List.length_append]
  by_cases h : p W[i] = true
  · rw [if_pos h, List.filter_cons_of_pos h]; rfl
  · rw [if_neg h, List.filter_cons_of_neg h]; rfl
end Go.Proofs.Ytlopdlcepmmjdaa
namespace Go.Proofs.Ytlopdlcepmmjdaa
open Go.RowKit Go.BigFrame Go.Maps Go.Sort
set_option linter.unusedVariables false
set_option linter.unusedSimpArgs false
/-- Of the names that are not durable, a cut leaves as many as the fate says, or all. -/
theorem cutN_un (k : Nat) (A : List DF) : unA (cutN k A) = min k (unA A) := by
  induction A generalizing k with
  | nil => simp [cutN, unA]
  | cons f r ih =>
    unfold cutN
    by_cases h : f.nd = true
    · rw [if_pos h]
      have e : ∀ L : List DF, unA (f :: L) = unA L := fun L => by unfold unA; rw [List.filter_cons_of_neg (by simp [h])]
      rw [e, e]
      exact ih k
    · rw [if_neg h]
      have e : ∀ L : List DF, unA (f :: L) = unA L + 1 := fun L => by unfold unA; rw [List.filter_cons_of_pos (by simp [h])]; rfl
      cases k with
      | zero => simp only; rw [ih 0]; omega
      | succ k => simp only; rw [e, e, ih k]; omega
end Go.Proofs.Ytlopdlcepmmjdaa
namespace Go.Proofs.Ytlopdlcepmmjdaa
open Go.RowKit Go.BigFrame Go.Maps Go.Sort
set_option linter.unusedVariables false
set_option linter.unusedSimpArgs false
theorem unA_perm {A B : List DF} (h : A.Perm B) : unA A = unA B := (h.filter _).length_eq
theorem unA_split (A : List DF) (q : DF → Bool) (hq : ∀ f ∈ A, f.nd = true → q f = true) : unA A = unA (A.filter q) + (A.filter fun f => !q f).length := by
  induction A with
  | nil => rfl
  | cons a r ih =>
    have ih := ih (fun f hf => hq f (by simp [hf]))
    have h0 := hq a (by simp)
    unfold unA at *
    rw [List.filter_filter] at ih
    cases hn : a.nd <;> cases hp : q a
    · simp [hn, hp]; omega
    · simp [hn, hp]; omega
    · have := h0 hn; rw [hp] at this; simp at this
    · simp [hn, hp]; omega
/-- What a cut leaves, in order, and how many names it leaves. -/
theorem durable_pure (σ : DSt) (hd : Dist σ.A) (n : Int) (ks : List KeepD) :
    ∃ (q : DF → Bool), srtA (stRestart σ n ks).A = ((srtA σ.A).filter q).map (fun f => setF ((fstK ks f.nm.data.toList).getD zK) σ.sec f) ∧ (∀ f ∈ srtA σ.A, f.nd = true → q f = true) ∧
      (unA (srtA σ.A) : Int) - (((srtA σ.A).filter fun f => !q f).length : Nat) = min (max n 0) (unA (srtA σ.A) : Nat) := by
  let L := cutN (wtn n (unA σ.A)).toNat σ.A
  have hL : L = σ.A.filter (kpt L) := sub_filter (cutN_sub _ _) hd
  have e : srtA L = (srtA σ.A).filter (kpt L) := by
    have e := srtA_filter hd (kpt L)
    rw [← hL] at e
    exact e
  have hnd : ∀ f ∈ srtA σ.A, f.nd = true → kpt L f = true := by
    intro f hf hn
    rw [kpt_iff]
    exact ⟨f, cutN_nd _ _ f (srtA_mem.1 hf) hn, rfl⟩
  refine ⟨kpt L, ?_, hnd, ?_⟩
  · show srtA (setA ks σ.sec L) = _
    unfold setA
    rw [srtA_map (hd.sublist (cutN_sub _ _)) (fun x => setF_nm _ _ x), e]
  · have h1 := unA_split (srtA σ.A) (kpt L) hnd
    rw [← e, unA_perm (srtA_perm L), cutN_un] at h1
    have h2 : unA (srtA σ.A) = unA σ.A := unA_perm (srtA_perm σ.A)
    rw [h2] at h1 ⊢
    unfold wtn at h1
    omega
theorem un_step {W : List DF} {i : Nat} (hi : i < W.length) : unA (W.take (i + 1)) = unA (W.take i) + (if W[i].nd then 0 else 1) := by
  unfold unA
  rw [kept_step (p := fun f => !f.nd) hi]
  cases W[i].nd <;> rfl
theorem setN_le (k : KeepD) (f : DF) (h : f.sy ≤ f.bs.length) : setN k f ≤ f.bs.length := by unfold setN wtn; omega
theorem setF_sy (k : KeepD) (sec : Nat) (f : DF) (h : f.sy ≤ f.bs.length) : (setF k sec f).sy = (setF k sec f).bs.length := by
  have h1 := setN_le k f h
  unfold setF
  split
  · simp; omega
  · simp; omega
end Go.Proofs.Ytlopdlcepmmjdaa
namespace Go.Proofs.Ytlopdlcepmmjdaa
open Go.RowKit Go.BigFrame Go.Maps Go.Sort
set_option linter.unusedVariables false
set_option linter.unusedSimpArgs false
theorem mod_shift (p s j : Nat) : (p + j) % s = (p % s + j) % s := by rw [Nat.mod_add_mod]
theorem tse_lt {p s j : Nat} (hs : 1 ≤ s) (h : j < tse p s) : (p + j) % s ≠ 0 := by
  have h1 : p % s < s := Nat.mod_lt _ (by omega)
  unfold tse at h
  rw [mod_shift]
  generalize p % s = r at h h1 ⊢
  by_cases h0 : r = 0
  · subst h0
    rw [Nat.sub_zero, Nat.mod_self] at h
    omega
  · rw [Nat.mod_eq_of_lt (by omega)] at h
    rw [Nat.mod_eq_of_lt (by omega)]
    omega
theorem tse_at {p s : Nat} (hs : 1 ≤ s) : (p + tse p s) % s = 0 := by
  have h1 : p % s < s := Nat.mod_lt _ (by omega)
  unfold tse
  rw [mod_shift]
  generalize p % s = r at h1 ⊢
  by_cases h0 : r = 0
  · subst h0
    rw [Nat.sub_zero, Nat.mod_self]
    simp
  · rw [Nat.mod_eq_of_lt (by omega : s - r < s), show r + (s - r) = s by omega, Nat.mod_self]
theorem tse_le {p s : Nat} (hs : 1 ≤ s) : tse p s < s := Nat.mod_lt _ (by omega)
theorem Rd.take0 {w : World} {ao : Option Addr} {cap n : Nat} {p : List Nat} (h : Rd w (.slice ao p.length cap) p) (hn : n ≤ p.length) : Rd w (.slice ao n cap) (p.take n) := by
  obtain ⟨ao1, len, cap1, e, h1, h2, ⟨h3, h3'⟩, h4, h5, h6⟩ := h
  cases e
  refine ⟨_, _, _, rfl, by rw [List.length_take]; omega, by omega, ⟨by omega, by omega⟩, h4, fun x hx => h5 x (List.mem_of_mem_take hx), fun hp => ?_⟩
  obtain ⟨b, off, e2, hc⟩ := h6 (by omega)
  refine ⟨b, off, e2, fun i hi => ?_⟩
  have h9 := hc i (by omega)
  rw [List.getD_eq_getElem?_getD, List.getElem?_take_of_lt hi, ← List.getD_eq_getElem?_getD]
  exact h9

def lenV : Value → Nat
  | .slice _ n _ => n
  | _ => 0

set_option maxRecDepth 100000 in
set_option maxHeartbeats 2000000 in
theorem tleft_any (n : Int) (kv : Value) (ks : List KeepD) (X : DF) (xv : Value) (sec : Nat) (w : World) (hk : RdC 3 w kv (ks.map keC)) (hl : ks.length ≤ 1048576) (hx : Rd w xv X.bs) (hsy : X.sy ≤ X.bs.length) (hb : X.bs.length ≤ 140737488340000) (hs : 1 ≤ sec) (hs2 : sec ≤ 4096) :
    Calls Try.prog 30 #[.agg #[.int .i64 n, kv], .agg #[.string X.nm, xv, .int .i64 (X.sy : Int), .bool X.nd], .int .i64 sec] w fun e w' => ∃ v, e = .returned v ∧ Rd w' v (setF ((fstK ks X.nm.data.toList).getD zK) sec X).bs ∧ Kept [] w w' := by
  obtain ⟨ka, kl, kc, hkv⟩ : ∃ a l c, kv = .slice a l c := by obtain ⟨a, l, c, h1, _⟩ := hk; exact ⟨a, l, c, h1⟩
  subst hkv
  obtain ⟨xa, xl, xc, hxv, hxl, hxc, ⟨hxc2, hxl2⟩, _⟩ := id hx
  subst hxv
  subst hxl
  have kA := (Kept.refl [] w).alloc (.cells #[.int .i64 n, .slice ka kl kc] 40 (0, 0))
  have gA := heap_alloc_new w (.cells #[.int .i64 n, .slice ka kl kc] 40 (0, 0))
  obtain ⟨WA, hWA⟩ : ∃ W, w.alloc (.cells #[.int .i64 n, .slice ka kl kc] 40 (0, 0)) = W := ⟨_, rfl⟩
  rw [hWA] at kA gA
  have HWA := hide hWA
  have kB := (Kept.refl [] WA).alloc (.cells #[.string X.nm, .slice xa X.bs.length xc, .int .i64 (X.sy : Int), .bool X.nd] 54 (0, 0))
  have gB := heap_alloc_new WA (.cells #[.string X.nm, .slice xa X.bs.length xc, .int .i64 (X.sy : Int), .bool X.nd] 54 (0, 0))
  obtain ⟨WB, hWB⟩ : ∃ W, WA.alloc (.cells #[.string X.nm, .slice xa X.bs.length xc, .int .i64 (X.sy : Int), .bool X.nd] 54 (0, 0)) = W := ⟨_, rfl⟩
  rw [hWB] at kB gB
  have HWB := hide hWB
  have HK := hide (kA.trans kB (by simp))
  have HGA := hide (kB.heap gA (by simp))
  have HGB := hide gB
  have a0 := cell_of_row _ _ 0 _ _ _ (unhide HGA)
  have a1 := cell_of_row _ _ 1 _ _ _ (unhide HGA)
  have b0 := cell_of_row _ _ 0 _ _ _ gB
  have b1 := cell_of_row _ _ 1 _ _ _ gB
  have b2 := cell_of_row _ _ 2 _ _ _ gB
  simp at a0 a1 b0 b1 b2
  obtain ⟨K, hK⟩ : ∃ K, (fstK ks X.nm.data.toList).getD zK = K := ⟨_, rfl⟩
  obtain ⟨m, hm⟩ : ∃ m, X.bs.length = X.sy + m := ⟨X.bs.length - X.sy, by omega⟩
  have hq0 : 0 ≤ wtn K.kb m ∧ wtn K.kb m ≤ m := by unfold wtn; omega
  obtain ⟨q, hq⟩ : ∃ q : Nat, wtn K.kb m = q := ⟨(wtn K.kb m).toNat, by omega⟩
  have hqm : q ≤ m := by omega
  have hN : setN K X = X.sy + q := by unfold setN; rw [show ((X.bs.length : Int) - X.sy) = (m : Int) by omega, hq]; simp
  have HF := hide (fun W (k : Kept [] WB W) => by
    have h9 := fated_any n (.slice ka kl kc) ks X.nm m W ((hk.old (unhide HK)).old k) hl
    rw [hK, hq] at h9
    exact h9)
  have HT := hide (fun W (k : Kept [] WB W) => by
    have h9 := ttwin_any (.slice xa (X.sy + q) xc) (X.bs.take (X.sy + q)) W (Rd.take0 ((hx.old (unhide HK) (by simp)).old k (by simp)) (by omega)) (by rw [List.length_take]; omega)
    rw [show (X.bs.take (X.sy + q)).length = X.sy + q by rw [List.length_take]; omega] at h9
    exact h9)
  have HNN := hide hN
  have HBY := hide hx.byte
  have hw1 : wrap64 ((X.bs.length : Int) - (X.sy : Int)) = (m : Int) := by unfold wrap64; omega
  have hw2 : IntKind.i64.wrap ((X.bs.length : Int) - (X.sy : Int)) = (m : Int) := by rw [show ((X.bs.length : Int) - X.sy) = (m : Int) by omega]; rw [IntKind.wrap_i64]; omega
  obtain ⟨M, hM⟩ : ∃ M, X.sy + q = M := ⟨_, rfl⟩
  have hw3 : (X.sy : Int) + (q : Int) = (M : Int) := by omega
  rw [hM] at HT HNN
  have hML : M ≤ X.bs.length := by omega
  have hMc : M ≤ xc := by omega
  have HM := hide hm
  have HMM := hide hM
  rw [hK]
  obtain ⟨KT, hKT⟩ : ∃ b, K.tn = b := ⟨_, rfl⟩
  rw [hKT] at HF
  have HKT := hide hKT
  clear hWA hWB kA kB gA gB hk hx hsy hm hN hq hq0 hqm hM hK hKT
  obtain ⟨L, hL⟩ : ∃ L, X.bs.length = L := ⟨_, rfl⟩
  have HL := hide hL
  rw [hL] at b1 hw1 hw2 hML hb HWB hxc hxl2
  rw [hL]
  clear hL
  go_enter Try.func30, Try.ntmps30
  go_wp2_with (first | (rw [unhide HWA]) | (rw [unhide HWB]) | fail)
  refine Calls.mono (unhide HF _ (Kept.refl _ _)) ?_
  rintro e w1 ⟨rfl, k1⟩
  have HK1 := hide k1
  have b1 := k1.cell b1 (by simp)
  have b2 := k1.cell b2 (by simp)
  clear k1 a0 a1 b0
  go_wp2_with fail
  refine Calls.mono (unhide HT _ (unhide HK1)) ?_
  rintro e w2 ⟨ao, cap, rfl, ho, k2⟩
  have HO := hide ho
  have HK2 := hide ((unhide HK1).trans k2 (by simp))
  have b1 := k2.cell b1 (by simp)
  have HK12 := hide k2
  clear ho k2 b2
  by_cases ht : KT = true ∧ M < L
  · obtain ⟨rfl, hlt⟩ := ht
    have hlt' : (M : Int) < (L : Int) := by omega
    have HFIN := hide (by
      unfold setF
      rw [unhide HNN, if_pos ⟨unhide HKT, by rw [unhide HL]; exact hlt⟩] : (setF K sec X).bs = X.bs.take M ++ List.replicate (tse M sec) 0)
    have h0 : ((sec : Int) == 0) = false := by simp; omega
    go_wp2_with fail
    clear hlt hlt'
    go_loopw [9] (fun t9 wr => ∃ (j N1 : Nat) (ao1 : Option Addr) (cap1 : Nat), j ≤ tse M sec ∧ Hid (N1 = M + j) ∧ t9 = .slice ao1 N1 cap1 ∧ Hid (wr.ownsRow w1.heap.size 5 1 (.slice ao1 N1 cap1) N1 ((X.bs.take M ++ List.replicate j 0).map Go.Proofs.Ytlopdlcepmmjdaa.u8)) ∧ Hid (Kept [] w1 wr)) (fun t _ => M + tse M sec - lenV t)
    case atStart => exact ⟨0, M, ao, cap, Nat.zero_le _, hide rfl, rfl, hide (by rw [List.replicate_zero, List.append_nil]; exact unhide HO), HK12⟩
    case round =>
      obtain ⟨j, N1, ao1, cap1, hj, HN1, rfl, HO1, HKW⟩ := hrel
      by_cases hlt : j < tse M sec
      · have hr : ((N1 : Int) % (sec : Int) != 0) = true := by
          have h9 := tse_lt hs hlt
          rw [← unhide HN1] at h9
          simp
          omega
        have hrs : Rd (wr.alloc (.cells #[.int .u8 0] 5)) (.slice (some ⟨wr.heap.size, 0, none⟩) 1 1) [0] := rd_lit (heap_alloc_new wr _) rfl (by simp) 1 rfl (by omega)
        have HRs := hide hrs
        have HPL := hide (by have h9 := unhide HL; have h8 := unhide HN1; rw [List.length_append, List.length_take, List.length_replicate]; omega : (X.bs.take M ++ List.replicate j 0).length = N1)
        have HO' := hide (by rw [unhide HPL]; exact unhide HO1 : wr.ownsRow w1.heap.size 5 1 (.slice ao1 N1 cap1) (X.bs.take M ++ List.replicate j 0).length ((X.bs.take M ++ List.replicate j 0).map Go.Proofs.Ytlopdlcepmmjdaa.u8))
        have hsz := (unhide HKW).size
        have hnb : N1 ≤ 140737488350000 := by have h7 := tse_le (p := M) hs; have h8 := unhide HN1; omega
        clear hrs
        go_wp2_with (at_builtin; go_must (refine wpList_appendAll rfl (.tmp 45) (.tmp 46) rfl rfl _ w1.heap.size (.slice ao1 N1 cap1) (X.bs.take M ++ List.replicate j 0) [0] _ 1 1 (by exact (unhide HO').alloc _) (by exact unhide HRs) (by rw [unhide HPL]; simp; omega) (by simp; omega) rfl rfl ?_; intro ao2 cap2 w3 HO2 HG2 HA2; rw [unhide HPL] at HO2 HA2 ⊢; simp only [List.length_cons, List.length_nil, Nat.zero_add] at HO2 HG2 HA2))
        have hk2 := ((unhide HKW).alloc (.cells #[.int .u8 0] 5)).grown (unhide HG2) (by intro j hj; right; exact ((unhide HO1).lt j hj).1)
        have HK3 := hide hk2
        clear hk2
        go_wp2
        go_roundw
        case rel => exact ⟨j + 1, N1 + 1, ao2, cap2, by omega, hide (by have := unhide HN1; omega), by simp, hide (by have h5 := unhide HO2; rw [List.append_assoc, show List.replicate j 0 ++ [0] = List.replicate (j + 1) 0 from (List.replicate_succ' ..).symm, List.length_append, List.length_replicate, ← Nat.add_assoc, show (X.bs.take M).length + j = N1 from by have h6 := unhide HPL; rw [List.length_append, List.length_replicate] at h6; exact h6] at h5; exact h5), HK3⟩
        case measure => simp [lenV]; have := unhide HN1; omega
      · have hr : ((N1 : Int) % (sec : Int) != 0) = false := by
          have h9 := tse_at (p := M) hs
          rw [← show j = tse M sec by omega, ← unhide HN1] at h9
          simp
          omega
        have hje : j = tse M sec := by omega
        subst hje
        have HPL := hide (by have h9 := unhide HL; have h8 := unhide HN1; rw [List.length_append, List.length_take, List.length_replicate]; omega : (X.bs.take M ++ List.replicate (tse M sec) 0).length = N1)
        have hnb : N1 ≤ 140737488350000 := by have h7 := tse_le (p := M) hs; have h8 := unhide HN1; omega
        have HFF := hide (by
          rw [unhide HFIN]
          refine rd_owns (by rw [unhide HPL]; exact unhide HO1) ?_ (by rw [unhide HPL]; omega)
          intro x hx
          rcases List.mem_append.1 hx with h1 | h1
          · exact unhide HBY x (List.mem_of_mem_take h1)
          · have := List.eq_of_mem_replicate h1; omega : Rd wr (.slice ao1 N1 cap1) (setF K sec X).bs)
        clear hnb hj hlt
        go_wp2_with fail
        go_ret
        exact ⟨_, rfl, unhide HFF, ((unhide HK).trans (unhide HK1) (by simp)).trans (unhide HKW) (by simp)⟩
  · have ht2 : (KT && decide ((M : Int) < (L : Int))) = false := by
      cases KT
      · rfl
      · have : ¬ M < L := fun h => ht ⟨rfl, h⟩
        simp; omega
    have HFIN := hide (by
      unfold setF
      rw [unhide HNN, if_neg (by intro h9; exact ht ⟨by rw [← unhide HKT]; exact h9.1, by rw [← unhide HL]; exact h9.2⟩)] : (setF K sec X).bs = X.bs.take M)
    have hfin : ∃ v, Ending.returned (.slice ao M cap) = .returned v ∧ Rd w2 v (setF K sec X).bs ∧ Kept [] w w2 := by
      refine ⟨_, rfl, ?_, (unhide HK).trans (unhide HK2) (by simp)⟩
      rw [unhide HFIN]
      have h9 := rd_owns (bs := X.bs.take M) (by rw [show (X.bs.take M).length = M by rw [List.length_take, unhide HL]; omega]; exact unhide HO) (fun x hx => unhide HBY x (List.mem_of_mem_take hx)) (by rw [List.length_take]; omega)
      exact h9
    have HFN := hide hfin
    clear hfin ht
    cases KT
    · clear ht2
      go_wp2_with fail
      go_ret
      exact unhide HFN
    · have hlt : ¬ (M : Int) < (L : Int) := by simpa using ht2
      clear ht2
      go_wp2_with fail
      go_ret
      exact unhide HFN
end Go.Proofs.Ytlopdlcepmmjdaa
/-
  Laws for drawn regions, by genreg.py. No program.
-/
namespace Go.Proofs.Ytlopdlcepmmjdaa
open Go Go.RowKit Go.BigFrame
set_option linter.unusedVariables false
set_option linter.unusedSimpArgs false
section
variable {P : Program} {Q : Exit → Act → World → Prop}
theorem wp_du21 {id : Nat} {o0 o1 o2 o3 o4 o5 o6 o7 o8 o9 o10 o11 o12 o13 o14 o15 o16 o17 o18 o19 o20 : Oper} {a : Act} {w : World} (hm : P.follows .mixedOrders = true) (hs : Region.noSelect #[o0, o1, o2, o3, o4, o5, o6, o7, o8, o9, o10, o11, o12, o13, o14, o15, o16, o17, o18, o19, o20] = true)
    (f0 : Region.free .any #[o0, o1, o2, o3, o4, o5, o6, o7, o8, o9, o10, o11, o12, o13, o14, o15, o16, o17, o18, o19, o20] #[false, false, false, false, false, false, false, false, false, false, false, false, false, false, false, false, false, false, false, false, false] 0 = true) (r0 : (Region.ready .any #[o0, o1, o2, o3, o4, o5, o6, o7, o8, o9, o10, o11, o12, o13, o14, o15, o16, o17, o18, o19, o20] #[false, false, false, false, false, false, false, false, false, false, false, false, false, false, false, false, false, false, false, false, false]).contains 0 = true)
    (f1 : Region.free .any #[o0, o1, o2, o3, o4, o5, o6, o7, o8, o9, o10, o11, o12, o13, o14, o15, o16, o17, o18, o19, o20] #[true, false, false, false, false, false, false, false, false, false, false, false, false, false, false, false, false, false, false, false, false] 1 = true) (r1 : (Region.ready .any #[o0, o1, o2, o3, o4, o5, o6, o7, o8, o9, o10, o11, o12, o13, o14, o15, o16, o17, o18, o19, o20] #[true, false, false, false, false, false, false, false, false, false, false, false, false, false, false, false, false, false, false, false, false]).contains 1 = true)
    (f2 : Region.free .any #[o0, o1, o2, o3, o4, o5, o6, o7, o8, o9, o10, o11, o12, o13, o14, o15, o16, o17, o18, o19, o20] #[true, true, false, false, false, false, false, false, false, false, false, false, false, false, false, false, false, false, false, false, false] 2 = true) (r2 : (Region.ready .any #[o0, o1, o2, o3, o4, o5, o6, o7, o8, o9, o10, o11, o12, o13, o14, o15, o16, o17, o18, o19, o20] #[true, true, false, false, false, false, false, false, false, false, false, false, false, false, false, false, false, false, false, false, false]).contains 2 = true)
    (f3 : Region.free .any #[o0, o1, o2, o3, o4, o5, o6, o7, o8, o9, o10, o11, o12, o13, o14, o15, o16, o17, o18, o19, o20] #[true, true, true, false, false, false, false, false, false, false, false, false, false, false, false, false, false, false, false, false, false] 3 = true) (r3 : (Region.ready .any #[o0, o1, o2, o3, o4, o5, o6, o7, o8, o9, o10, o11, o12, o13, o14, o15, o16, o17, o18, o19, o20] #[true, true, true, false, false, false, false, false, false, false, false, false, false, false, false, false, false, false, false, false, false]).contains 3 = true)
    (f4 : Region.free .any #[o0, o1, o2, o3, o4, o5, o6, o7, o8, o9, o10, o11, o12, o13, o14, o15, o16, o17, o18, o19, o20] #[true, true, true, true, false, false, false, false, false, false, false, false, false, false, false, false, false, false, false, false, false] 4 = true) (r4 : (Region.ready .any #[o0, o1, o2, o3, o4, o5, o6, o7, o8, o9, o10, o11, o12, o13, o14, o15, o16, o17, o18, o19, o20] #[true, true, true, true, false, false, false, false, false, false, false, false, false, false, false, false, false, false, false, false, false]).contains 4 = true)
    (f5 : Region.free .any #[o0, o1, o2, o3, o4, o5, o6, o7, o8, o9, o10, o11, o12, o13, o14, o15, o16, o17, o18, o19, o20] #[true, true, true, true, true, false, false, false, false, false, false, false, false, false, false, false, false, false, false, false, false] 5 = true) (r5 : (Region.ready .any #[o0, o1, o2, o3, o4, o5, o6, o7, o8, o9, o10, o11, o12, o13, o14, o15, o16, o17, o18, o19, o20] #[true, true, true, true, true, false, false, false, false, false, false, false, false, false, false, false, false, false, false, false, false]).contains 5 = true)
    (f6 : Region.free .any #[o0, o1, o2, o3, o4, o5, o6, o7, o8, o9, o10, o11, o12, o13, o14, o15, o16, o17, o18, o19, o20] #[true, true, true, true, true, true, false, false, false, false, false, false, false, false, false, false, false, false, false, false, false] 6 = true) (r6 : (Region.ready .any #[o0, o1, o2, o3, o4, o5, o6, o7, o8, o9, o10, o11, o12, o13, o14, o15, o16, o17, o18, o19, o20] #[true, true, true, true, true, true, false, false, false, false, false, false, false, false, false, false, false, false, false, false, false]).contains 6 = true)
    (f7 : Region.free .any #[o0, o1, o2, o3, o4, o5, o6, o7, o8, o9, o10, o11, o12, o13, o14, o15, o16, o17, o18, o19, o20] #[true, true, true, true, true, true, true, false, false, false, false, false, false, false, false, false, false, false, false, false, false] 7 = true) (r7 : (Region.ready .any #[o0, o1, o2, o3, o4, o5, o6, o7, o8, o9, o10, o11, o12, o13, o14, o15, o16, o17, o18, o19, o20] #[true, true, true, true, true, true, true, false, false, false, false, false, false, false, false, false, false, false, false, false, false]).contains 7 = true)
    (f8 : Region.free .any #[o0, o1, o2, o3, o4, o5, o6, o7, o8, o9, o10, o11, o12, o13, o14, o15, o16, o17, o18, o19, o20] #[true, true, true, true, true, true, true, true, false, false, false, false, false, false, false, false, false, false, false, false, false] 8 = true) (r8 : (Region.ready .any #[o0, o1, o2, o3, o4, o5, o6, o7, o8, o9, o10, o11, o12, o13, o14, o15, o16, o17, o18, o19, o20] #[true, true, true, true, true, true, true, true, false, false, false, false, false, false, false, false, false, false, false, false, false]).contains 8 = true)
    (f9 : Region.free .any #[o0, o1, o2, o3, o4, o5, o6, o7, o8, o9, o10, o11, o12, o13, o14, o15, o16, o17, o18, o19, o20] #[true, true, true, true, true, true, true, true, true, false, false, false, false, false, false, false, false, false, false, false, false] 9 = true) (r9 : (Region.ready .any #[o0, o1, o2, o3, o4, o5, o6, o7, o8, o9, o10, o11, o12, o13, o14, o15, o16, o17, o18, o19, o20] #[true, true, true, true, true, true, true, true, true, false, false, false, false, false, false, false, false, false, false, false, false]).contains 9 = true)
    (f10 : Region.free .any #[o0, o1, o2, o3, o4, o5, o6, o7, o8, o9, o10, o11, o12, o13, o14, o15, o16, o17, o18, o19, o20] #[true, true, true, true, true, true, true, true, true, true, false, false, false, false, false, false, false, false, false, false, false] 10 = true) (r10 : (Region.ready .any #[o0, o1, o2, o3, o4, o5, o6, o7, o8, o9, o10, o11, o12, o13, o14, o15, o16, o17, o18, o19, o20] #[true, true, true, true, true, true, true, true, true, true, false, false, false, false, false, false, false, false, false, false, false]).contains 10 = true)
    (f11 : Region.free .any #[o0, o1, o2, o3, o4, o5, o6, o7, o8, o9, o10, o11, o12, o13, o14, o15, o16, o17, o18, o19, o20] #[true, true, true, true, true, true, true, true, true, true, true, false, false, false, false, false, false, false, false, false, false] 11 = true) (r11 : (Region.ready .any #[o0, o1, o2, o3, o4, o5, o6, o7, o8, o9, o10, o11, o12, o13, o14, o15, o16, o17, o18, o19, o20] #[true, true, true, true, true, true, true, true, true, true, true, false, false, false, false, false, false, false, false, false, false]).contains 11 = true)
    (f12 : Region.free .any #[o0, o1, o2, o3, o4, o5, o6, o7, o8, o9, o10, o11, o12, o13, o14, o15, o16, o17, o18, o19, o20] #[true, true, true, true, true, true, true, true, true, true, true, true, false, false, false, false, false, false, false, false, false] 12 = true) (r12 : (Region.ready .any #[o0, o1, o2, o3, o4, o5, o6, o7, o8, o9, o10, o11, o12, o13, o14, o15, o16, o17, o18, o19, o20] #[true, true, true, true, true, true, true, true, true, true, true, true, false, false, false, false, false, false, false, false, false]).contains 12 = true)
    (f13 : Region.free .any #[o0, o1, o2, o3, o4, o5, o6, o7, o8, o9, o10, o11, o12, o13, o14, o15, o16, o17, o18, o19, o20] #[true, true, true, true, true, true, true, true, true, true, true, true, true, false, false, false, false, false, false, false, false] 13 = true) (r13 : (Region.ready .any #[o0, o1, o2, o3, o4, o5, o6, o7, o8, o9, o10, o11, o12, o13, o14, o15, o16, o17, o18, o19, o20] #[true, true, true, true, true, true, true, true, true, true, true, true, true, false, false, false, false, false, false, false, false]).contains 13 = true)
    (f14 : Region.free .any #[o0, o1, o2, o3, o4, o5, o6, o7, o8, o9, o10, o11, o12, o13, o14, o15, o16, o17, o18, o19, o20] #[true, true, true, true, true, true, true, true, true, true, true, true, true, true, false, false, false, false, false, false, false] 14 = true) (r14 : (Region.ready .any #[o0, o1, o2, o3, o4, o5, o6, o7, o8, o9, o10, o11, o12, o13, o14, o15, o16, o17, o18, o19, o20] #[true, true, true, true, true, true, true, true, true, true, true, true, true, true, false, false, false, false, false, false, false]).contains 14 = true)
    (f15 : Region.free .any #[o0, o1, o2, o3, o4, o5, o6, o7, o8, o9, o10, o11, o12, o13, o14, o15, o16, o17, o18, o19, o20] #[true, true, true, true, true, true, true, true, true, true, true, true, true, true, true, false, false, false, false, false, false] 15 = true) (r15 : (Region.ready .any #[o0, o1, o2, o3, o4, o5, o6, o7, o8, o9, o10, o11, o12, o13, o14, o15, o16, o17, o18, o19, o20] #[true, true, true, true, true, true, true, true, true, true, true, true, true, true, true, false, false, false, false, false, false]).contains 15 = true)
    (f16 : Region.free .any #[o0, o1, o2, o3, o4, o5, o6, o7, o8, o9, o10, o11, o12, o13, o14, o15, o16, o17, o18, o19, o20] #[true, true, true, true, true, true, true, true, true, true, true, true, true, true, true, true, false, false, false, false, false] 16 = true) (r16 : (Region.ready .any #[o0, o1, o2, o3, o4, o5, o6, o7, o8, o9, o10, o11, o12, o13, o14, o15, o16, o17, o18, o19, o20] #[true, true, true, true, true, true, true, true, true, true, true, true, true, true, true, true, false, false, false, false, false]).contains 16 = true)
    (q_ : Region.ready .any #[o0, o1, o2, o3, o4, o5, o6, o7, o8, o9, o10, o11, o12, o13, o14, o15, o16, o17, o18, o19, o20] #[true, true, true, true, true, true, true, true, true, true, true, true, true, true, true, true, true, false, false, false, false] = [17])
    (q17_ : Region.ready .any #[o0, o1, o2, o3, o4, o5, o6, o7, o8, o9, o10, o11, o12, o13, o14, o15, o16, o17, o18, o19, o20] #[true, true, true, true, true, true, true, true, true, true, true, true, true, true, true, true, true, true, false, false, false] = [18])
    (f17_18_19 : Region.free .any #[o0, o1, o2, o3, o4, o5, o6, o7, o8, o9, o10, o11, o12, o13, o14, o15, o16, o17, o18, o19, o20] #[true, true, true, true, true, true, true, true, true, true, true, true, true, true, true, true, true, true, true, false, false] 19 = true) (r17_18_19 : (Region.ready .any #[o0, o1, o2, o3, o4, o5, o6, o7, o8, o9, o10, o11, o12, o13, o14, o15, o16, o17, o18, o19, o20] #[true, true, true, true, true, true, true, true, true, true, true, true, true, true, true, true, true, true, true, false, false]).contains 19 = true)
    (f17_18_20 : Region.free .any #[o0, o1, o2, o3, o4, o5, o6, o7, o8, o9, o10, o11, o12, o13, o14, o15, o16, o17, o18, o19, o20] #[true, true, true, true, true, true, true, true, true, true, true, true, true, true, true, true, true, true, true, true, false] 20 = true) (r17_18_20 : (Region.ready .any #[o0, o1, o2, o3, o4, o5, o6, o7, o8, o9, o10, o11, o12, o13, o14, o15, o16, o17, o18, o19, o20] #[true, true, true, true, true, true, true, true, true, true, true, true, true, true, true, true, true, true, true, true, false]).contains 20 = true)
    (q17_18_ : Region.ready .any #[o0, o1, o2, o3, o4, o5, o6, o7, o8, o9, o10, o11, o12, o13, o14, o15, o16, o17, o18, o19, o20] #[true, true, true, true, true, true, true, true, true, true, true, true, true, true, true, true, true, true, true, true, true] = [])

    (v0 v1 v2 v3 v4 v5 v6 v7 v8 v9 v10 v11 v12 v13 v14 v15 v16 : Value) (A0 A1 A2 A3 A4 A5 A6 A7 A8 A9 A10 A11 A12 A13 A14 A15 A16 : Act)
    (S : World → Prop)
    (I_ : World → Prop)
    (I17_ : Value → World → Prop)
    (I17_18_ : Value → Value → World → Prop)
    (v19 : Value → Value)
    (v20 : Value → Value)
    (p0 : a.put o0.dst v0 = A0) (hy0 : YieldsIf P #[o0, o1, o2, o3, o4, o5, o6, o7, o8, o9, o10, o11, o12, o13, o14, o15, o16, o17, o18, o19, o20] S o0 v0 a)
    (p1 : A0.put o1.dst v1 = A1) (hy1 : YieldsIf P #[o0, o1, o2, o3, o4, o5, o6, o7, o8, o9, o10, o11, o12, o13, o14, o15, o16, o17, o18, o19, o20] S o1 v1 A0)
    (p2 : A1.put o2.dst v2 = A2) (hy2 : YieldsIf P #[o0, o1, o2, o3, o4, o5, o6, o7, o8, o9, o10, o11, o12, o13, o14, o15, o16, o17, o18, o19, o20] S o2 v2 A1)
    (p3 : A2.put o3.dst v3 = A3) (hy3 : YieldsIf P #[o0, o1, o2, o3, o4, o5, o6, o7, o8, o9, o10, o11, o12, o13, o14, o15, o16, o17, o18, o19, o20] S o3 v3 A2)
    (p4 : A3.put o4.dst v4 = A4) (hy4 : YieldsIf P #[o0, o1, o2, o3, o4, o5, o6, o7, o8, o9, o10, o11, o12, o13, o14, o15, o16, o17, o18, o19, o20] S o4 v4 A3)
    (p5 : A4.put o5.dst v5 = A5) (hy5 : YieldsIf P #[o0, o1, o2, o3, o4, o5, o6, o7, o8, o9, o10, o11, o12, o13, o14, o15, o16, o17, o18, o19, o20] S o5 v5 A4)
    (p6 : A5.put o6.dst v6 = A6) (hy6 : YieldsIf P #[o0, o1, o2, o3, o4, o5, o6, o7, o8, o9, o10, o11, o12, o13, o14, o15, o16, o17, o18, o19, o20] S o6 v6 A5)
    (p7 : A6.put o7.dst v7 = A7) (hy7 : YieldsIf P #[o0, o1, o2, o3, o4, o5, o6, o7, o8, o9, o10, o11, o12, o13, o14, o15, o16, o17, o18, o19, o20] S o7 v7 A6)
    (p8 : A7.put o8.dst v8 = A8) (hy8 : YieldsIf P #[o0, o1, o2, o3, o4, o5, o6, o7, o8, o9, o10, o11, o12, o13, o14, o15, o16, o17, o18, o19, o20] S o8 v8 A7)
    (p9 : A8.put o9.dst v9 = A9) (hy9 : YieldsIf P #[o0, o1, o2, o3, o4, o5, o6, o7, o8, o9, o10, o11, o12, o13, o14, o15, o16, o17, o18, o19, o20] S o9 v9 A8)
    (p10 : A9.put o10.dst v10 = A10) (hy10 : YieldsIf P #[o0, o1, o2, o3, o4, o5, o6, o7, o8, o9, o10, o11, o12, o13, o14, o15, o16, o17, o18, o19, o20] S o10 v10 A9)
    (p11 : A10.put o11.dst v11 = A11) (hy11 : YieldsIf P #[o0, o1, o2, o3, o4, o5, o6, o7, o8, o9, o10, o11, o12, o13, o14, o15, o16, o17, o18, o19, o20] S o11 v11 A10)
    (p12 : A11.put o12.dst v12 = A12) (hy12 : YieldsIf P #[o0, o1, o2, o3, o4, o5, o6, o7, o8, o9, o10, o11, o12, o13, o14, o15, o16, o17, o18, o19, o20] S o12 v12 A11)
    (p13 : A12.put o13.dst v13 = A13) (hy13 : YieldsIf P #[o0, o1, o2, o3, o4, o5, o6, o7, o8, o9, o10, o11, o12, o13, o14, o15, o16, o17, o18, o19, o20] S o13 v13 A12)
    (p14 : A13.put o14.dst v14 = A14) (hy14 : YieldsIf P #[o0, o1, o2, o3, o4, o5, o6, o7, o8, o9, o10, o11, o12, o13, o14, o15, o16, o17, o18, o19, o20] S o14 v14 A13)
    (p15 : A14.put o15.dst v15 = A15) (hy15 : YieldsIf P #[o0, o1, o2, o3, o4, o5, o6, o7, o8, o9, o10, o11, o12, o13, o14, o15, o16, o17, o18, o19, o20] S o15 v15 A14)
    (p16 : A15.put o16.dst v16 = A16) (hy16 : YieldsIf P #[o0, o1, o2, o3, o4, o5, o6, o7, o8, o9, o10, o11, o12, o13, o14, o15, o16, o17, o18, o19, o20] S o16 v16 A15)
    (i0 : I_ w.drew)
    (hIS : (∀ w', I_  w' → S w') ∧ (∀ (u17 : Value) w', I17_ u17 w' → S w') ∧ (∀ (u17 u18 : Value) w', I17_18_ u17 u18 w' → S w'))
    (wg_17 : Region.wanted o17 (yielded #[o0, o1, o2, o3, o4, o5, o6, o7, o8, o9, o10, o11, o12, o13, o14, o15, o16, o17, o18, o19, o20] A16.tmps) = true)
    (wg17_18 : ∀ (u17 : Value), Region.wanted o18 (yielded #[o0, o1, o2, o3, o4, o5, o6, o7, o8, o9, o10, o11, o12, o13, o14, o15, o16, o17, o18, o19, o20] (A16.put o17.dst u17).tmps) = true)
    (s_17 : ∀ w', I_  w' → ∀ K : Act → World → Prop, (∀ (u17 : Value) w2, I17_ u17 w2 → K (A16.put o17.dst u17) w2) → o17.wp P A16 w' K (NoPanic Q))
    (s17_18 : ∀ (u17 : Value) w', I17_ u17 w' → ∀ K : Act → World → Prop, (∀ (u18 : Value) w2, I17_18_ u17 u18 w2 → K ((A16.put o17.dst u17).put o18.dst u18) w2) → o18.wp P (A16.put o17.dst u17) w' K (NoPanic Q))
    (y17_18_19 : ∀ (u17 u18 : Value) w', I17_18_ u17 u18 w' → YieldsIf P #[o0, o1, o2, o3, o4, o5, o6, o7, o8, o9, o10, o11, o12, o13, o14, o15, o16, o17, o18, o19, o20] S o19 (v19 u18) ((A16.put o17.dst u17).put o18.dst u18))
    (y17_18_20 : ∀ (u17 u18 : Value) w', I17_18_ u17 u18 w' → YieldsIf P #[o0, o1, o2, o3, o4, o5, o6, o7, o8, o9, o10, o11, o12, o13, o14, o15, o16, o17, o18, o19, o20] S o20 (v20 u18) (((A16.put o17.dst u17).put o18.dst u18).put o19.dst (v19 u18)))
    (h : ∀ (u17 u18 : Value) w', I17_18_ u17 u18 w' → Q .normal ((((A16.put o17.dst u17).put o18.dst u18).put o19.dst (v19 u18)).put o20.dst (v20 u18)) w') :
    (Code.region id #[o0, o1, o2, o3, o4, o5, o6, o7, o8, o9, o10, o11, o12, o13, o14, o15, o16, o17, o18, o19, o20] true).wp P Q a w := by
  subst p0 p1 p2 p3 p4 p5 p6 p7 p8 p9 p10 p11 p12 p13 p14 p15 p16
  obtain ⟨z_, z17_, z17_18_⟩ := hIS
  refine wp_region_noPanic ?_
  refine wp_region_held_drew (S := S) hm (z_ _ i0) (fun hH => ?_)
  show wpAnyH P .any #[o0, o1, o2, o3, o4, o5, o6, o7, o8, o9, o10, o11, o12, o13, o14, o15, o16, o17, o18, o19, o20] (NoPanic Q) S 21 #[false, false, false, false, false, false, false, false, false, false, false, false, false, false, false, false, false, false, false, false, false] a w.drew
  refine wpAnyH_take (i := 0) (oi := o0) rfl hs f0 r0 (fun _ _ _ h => h) hy0 hH ?_
  refine wpAnyH_take (i := 1) (oi := o1) rfl hs f1 r1 (fun _ _ _ h => h) hy1 hH ?_
  refine wpAnyH_take (i := 2) (oi := o2) rfl hs f2 r2 (fun _ _ _ h => h) hy2 hH ?_
  refine wpAnyH_take (i := 3) (oi := o3) rfl hs f3 r3 (fun _ _ _ h => h) hy3 hH ?_
  refine wpAnyH_take (i := 4) (oi := o4) rfl hs f4 r4 (fun _ _ _ h => h) hy4 hH ?_
  refine wpAnyH_take (i := 5) (oi := o5) rfl hs f5 r5 (fun _ _ _ h => h) hy5 hH ?_
  refine wpAnyH_take (i := 6) (oi := o6) rfl hs f6 r6 (fun _ _ _ h => h) hy6 hH ?_
  refine wpAnyH_take (i := 7) (oi := o7) rfl hs f7 r7 (fun _ _ _ h => h) hy7 hH ?_
  refine wpAnyH_take (i := 8) (oi := o8) rfl hs f8 r8 (fun _ _ _ h => h) hy8 hH ?_
  refine wpAnyH_take (i := 9) (oi := o9) rfl hs f9 r9 (fun _ _ _ h => h) hy9 hH ?_
  refine wpAnyH_take (i := 10) (oi := o10) rfl hs f10 r10 (fun _ _ _ h => h) hy10 hH ?_
  refine wpAnyH_take (i := 11) (oi := o11) rfl hs f11 r11 (fun _ _ _ h => h) hy11 hH ?_
  refine wpAnyH_take (i := 12) (oi := o12) rfl hs f12 r12 (fun _ _ _ h => h) hy12 hH ?_
  refine wpAnyH_take (i := 13) (oi := o13) rfl hs f13 r13 (fun _ _ _ h => h) hy13 hH ?_
  refine wpAnyH_take (i := 14) (oi := o14) rfl hs f14 r14 (fun _ _ _ h => h) hy14 hH ?_
  refine wpAnyH_take (i := 15) (oi := o15) rfl hs f15 r15 (fun _ _ _ h => h) hy15 hH ?_
  refine wpAnyH_take (i := 16) (oi := o16) rfl hs f16 r16 (fun _ _ _ h => h) hy16 hH ?_
  generalize (((((((((((((((((a.put o0.dst v0).put o1.dst v1).put o2.dst v2).put o3.dst v3).put o4.dst v4).put o5.dst v5).put o6.dst v6).put o7.dst v7).put o8.dst v8).put o9.dst v9).put o10.dst v10).put o11.dst v11).put o12.dst v12).put o13.dst v13).put o14.dst v14).put o15.dst v15).put o16.dst v16) = B at *
  have t17_18_ : ∀ (u17 u18 : Value) w', I17_18_ u17 u18 w' → wpAnyH P .any #[o0, o1, o2, o3, o4, o5, o6, o7, o8, o9, o10, o11, o12, o13, o14, o15, o16, o17, o18, o19, o20] (NoPanic Q) S 0 #[true, true, true, true, true, true, true, true, true, true, true, true, true, true, true, true, true, true, true, true, true] ((((B.put o17.dst u17).put o18.dst u18).put o19.dst (v19 u18)).put o20.dst (v20 u18)) w' := by
    intro u17 u18 w0 i0
    exact ⟨q17_18_, NoPanic.normal (h u17 u18 w0 i0)⟩
  have t17_ : ∀ (u17 : Value) w', I17_ u17 w' → wpAnyH P .any #[o0, o1, o2, o3, o4, o5, o6, o7, o8, o9, o10, o11, o12, o13, o14, o15, o16, o17, o18, o19, o20] (NoPanic Q) S 3 #[true, true, true, true, true, true, true, true, true, true, true, true, true, true, true, true, true, true, false, false, false] (B.put o17.dst u17) w' := by
    intro u17 w0 i0
    refine wpAnyH_ready (rs := [18]) q17_ (by simp) (AllReadyH.cons (o := o18) rfl (fun K hK => ?_) AllReadyH.nil)
    · rw [if_pos (wg17_18 u17)]
      refine s17_18 u17 w0 i0 K (fun u18 w1 i1 => hK.out _ _ (z17_18_ u17 u18 w1 i1) (fun _ => ?_))
      clear hK
      refine wpAnyH_take (i := 19) (oi := o19) rfl hs f17_18_19 r17_18_19 (fun _ _ _ h => h) (y17_18_19 u17 u18 w1 i1) (z17_18_ u17 u18 w1 i1) ?_
      refine wpAnyH_take (i := 20) (oi := o20) rfl hs f17_18_20 r17_18_20 (fun _ _ _ h => h) (y17_18_20 u17 u18 w1 i1) (z17_18_ u17 u18 w1 i1) ?_
      exact t17_18_ u17 u18 w1 i1
  have t_ : ∀ w', I_  w' → wpAnyH P .any #[o0, o1, o2, o3, o4, o5, o6, o7, o8, o9, o10, o11, o12, o13, o14, o15, o16, o17, o18, o19, o20] (NoPanic Q) S 4 #[true, true, true, true, true, true, true, true, true, true, true, true, true, true, true, true, true, false, false, false, false] B w' := by
    intro w0 i0
    refine wpAnyH_ready (rs := [17]) q_ (by simp) (AllReadyH.cons (o := o17) rfl (fun K hK => ?_) AllReadyH.nil)
    · rw [if_pos (wg_17 )]
      refine s_17  w0 i0 K (fun u17 w1 i1 => hK.out _ _ (z17_ u17 w1 i1) (fun _ => ?_))
      clear hK
      exact t17_ u17 w1 i1
  exact t_ w.drew i0

end
end Go.Proofs.Ytlopdlcepmmjdaa
namespace Go.Proofs.Ytlopdlcepmmjdaa
open Go.ChangeShapes Go.WideShapes Go.ChangeAt Go.RowKit Go.Deep
set_option linter.unusedVariables false
set_option linter.unusedSimpArgs false
/-- An act that came in. -/
structure ActD where
  kd : Nat
  F : Nat
  pv : Value
  ps : List Nat
def acC (a : ActD) : List Value := [.int .u8 a.kd, .int .u8 a.F, a.pv]
structure OkAc (W : World) (a : ActD) : Prop where
  kd : a.kd < 256
  F : a.F < 256
  p : Rd W a.pv a.ps
def acW (a : ActD) : Nat := a.ps.length + 1
instance : Inhabited ActD := ⟨⟨0, 0, undef, []⟩⟩
section
variable {H : Type} {enc : TypeId × Value → H} {W : World}

theorem open_act3 {fuel : Nat} {cs : List Value} {x : DataW H × List MemPlace} (h : DataW.trod enc Try.prog W 0 (fun _ => true) true fuel 65 cs = some x) (hB : Rows.uptoBulk x.1 ≤ 1048576) :
    ∃ a : ActD, cs = acC a ∧ OkAc W a ∧ acW a ≤ Rows.uptoBulk x.1 := by
  obtain ⟨xs, n, _, rfl, hl, hlen, hf⟩ := DataW.trod_struct Try.underlying65 h
  rw [show Try.prog.cellsOf 65 = 3 from by kernel_rfl] at hl
  match xs, hlen with
  | [y0, y1, y2], _ =>
    have f0 : DataW.trod enc Try.prog W 0 (fun _ => true) true n 5 ((cs.drop 0).take 1) = some y0 := by have this : DataW.trod enc Try.prog W 0 (fun _ => true) true n 5 ((cs.drop 0).take (Try.prog.cellsOf 5)) = some y0 := hf 0 _ rfl; rw [show Try.prog.cellsOf 5 = 1 from by kernel_rfl] at this; exact this
    have f1 : DataW.trod enc Try.prog W 0 (fun _ => true) true n 5 ((cs.drop 1).take 1) = some y1 := by have this : DataW.trod enc Try.prog W 0 (fun _ => true) true n 5 ((cs.drop 1).take (Try.prog.cellsOf 5)) = some y1 := hf 1 _ rfl; rw [show Try.prog.cellsOf 5 = 1 from by kernel_rfl] at this; exact this
    have f2 : DataW.trod enc Try.prog W 0 (fun _ => true) true n 36 ((cs.drop 2).take 1) = some y2 := by have this : DataW.trod enc Try.prog W 0 (fun _ => true) true n 36 ((cs.drop 2).take (Try.prog.cellsOf 36)) = some y2 := hf 2 _ rfl; rw [show Try.prog.cellsOf 36 = 1 from by kernel_rfl] at this; exact this
    simp only [List.map_cons, List.map_nil, Rows.uptoBulk, Rows.uptoBulkAll] at hB ⊢
    obtain ⟨z0, e0, q0, w0⟩ := DataW.trod_int Try.underlying5 f0
    have g0 := byte_of_wf w0
    have b0 := bulk_one y0.1
    obtain ⟨z1, e1, q1, w1⟩ := DataW.trod_int Try.underlying5 f1
    have g1 := byte_of_wf w1
    have b1 := bulk_one y1.1
    obtain ⟨v2, z2, e2, hr2, hb2⟩ := open_bytes f2
    have b2 := bulk_bytes hb2
    have r2 := hr2 (by omega)
    have hd : cs.drop 3 = [] := List.drop_eq_nil_of_le (by omega)
    have this := k_split cs 0 1
    rw [e0, k_split cs 1 1, e1, k_split cs 2 1, e2, hd, List.drop_zero] at this
    exact ⟨⟨z0.toNat, z1.toNat, v2, z2⟩, by rw [this]; simp only [acC]; rw [Int.toNat_of_nonneg g0.1, Int.toNat_of_nonneg g1.1]; rfl, ⟨by show z0.toNat < 256; omega, by show z1.toNat < 256; omega, r2⟩, by show z2.length + 1 ≤ _; omega⟩

theorem open_acts3 {fuel : Nat} {cs : List Value} {x : DataW H × List MemPlace} (h : DataW.trod enc Try.prog W 0 (fun _ => true) true fuel 57 cs = some x) (hB : Rows.uptoBulk x.1 ≤ 1048576) :
    ∃ (v : Value) (l : List ActD), cs = [v] ∧ RdC 3 W v (l.map acC) ∧ (∀ a ∈ l, OkAc W a) ∧ (l.map acW).sum + 1 ≤ Rows.uptoBulk x.1 :=
  open_rows Try.underlying57 (by kernel_rfl : Try.prog.cellsOf 65 = 3) acC (by intro a; rfl) (by decide) (OkAc W) acW (fun n cs y h hB => open_act3 h hB) h hB
end

end Go.Proofs.Ytlopdlcepmmjdaa
namespace Go.Proofs.Ytlopdlcepmmjdaa
open Go.RowKit Go.BigFrame Go.Maps Go.Sort
set_option linter.unusedVariables false
set_option linter.unusedSimpArgs false
theorem OwnFl.shapeL {B : Nat} {w : World} {v : Value} {ts : List (DF × Value)} (h : OwnFl B w v ts) : ∃ a c, v = .slice a ts.length c ∧ (0 < ts.length → ∃ g, a = some ⟨g, 0, none⟩) := by
  rcases h.own.2 with ⟨rfl, h0⟩ | ⟨g, cap, cur, rfl, _⟩
  · exact ⟨none, 0, by rw [h0], fun h9 => by omega⟩
  · exact ⟨_, cap, rfl, fun _ => ⟨g, rfl⟩⟩
theorem owns_two {w : World} {B : Nat} {v : Value} {n : Nat} {xs : List Value} (h : w.ownsRow B 5 1 v n xs) : v = .slice none 0 0 ∨ ∃ g c, v = .slice (some ⟨g, 0, none⟩) n c := by
  rcases h.2 with ⟨rfl, h0⟩ | ⟨g, cap, cur, rfl, _⟩
  · exact .inl rfl
  · exact .inr ⟨g, cap, rfl⟩
theorem rdFl_at {w : World} {g n c i : Nat} {ts : List (DF × Value)} (h : RdFl w (.slice (some ⟨g, 0, none⟩) n c) ts) (hi : i < ts.length) :
    w.cell? ⟨g, i * 4, none⟩ = some (.string ts[i].1.nm) ∧ w.cell? ⟨g, i * 4 + 1, none⟩ = some ts[i].2 ∧ w.cell? ⟨g, i * 4 + 2, none⟩ = some (.int .i64 (ts[i].1.sy : Int)) ∧ w.cell? ⟨g, i * 4 + 3, none⟩ = some (.bool ts[i].1.nd) := by
  obtain ⟨ao, len, cap, e9, r1, r2, r3, r4⟩ := h.1
  cases e9
  rw [List.length_map] at r1
  obtain ⟨b9, o9, e8, hcc⟩ := r4 (by omega)
  cases e8
  have hr := hcc i (by rw [List.length_map]; exact hi)
  rw [List.getElem_map] at hr
  have p0 := hr 0 _ rfl
  have p1 := hr 1 _ rfl
  have p2 := hr 2 _ rfl
  have p3 := hr 3 _ rfl
  simp only [Nat.zero_add, Nat.add_zero] at p0 p1 p2 p3
  exact ⟨p0, p1, p2, p3⟩
theorem fst_at {ts : List (DF × Value)} {S : List DF} (h : ts.map Prod.fst = S) {i : Nat} (h1 : i < ts.length) (h2 : i < S.length) : ts[i].1 = S[i] := by
  have h9 := congrArg (fun l => l[i]?) h
  simpa [List.getElem?_eq_getElem h1, List.getElem?_eq_getElem h2] using h9
theorem DK.syl {w : World} {d nb bb : Nat} {B : List Nat} {σ : DSt} (h : DK w d B nb bb σ) : ∀ f ∈ σ.A, f.sy ≤ f.bs.length := by
  obtain ⟨m, u, fv, fs, h1, rfl, h3⟩ := h.ex
  rw [h3]
  intro f hf
  obtain ⟨a, ha, rfl⟩ := List.mem_map.1 hf
  exact (h1.files a ha).2.2.2
end Go.Proofs.Ytlopdlcepmmjdaa
namespace Go.Proofs.Ytlopdlcepmmjdaa
open Go.RowKit Go.BigFrame Go.Maps Go.Sort
set_option linter.unusedVariables false
set_option linter.unusedSimpArgs false

theorem RdFl.kept {L : List Nat} {w w' : World} {v : Value} {ts : List (DF × Value)} (h : RdFl w v ts) (k : Kept L w w') (hn : ∀ x ∈ flB v ts, x ∉ L) : RdFl w' v ts :=
  ⟨h.1.kept k (fun x hx => hn x (by simp [flB, hx])), fun t ht => (h.2 t ht).kept k (fun x hx => hn x (by simp only [flB, List.mem_append, List.mem_flatMap]; exact .inr ⟨t, ht, hx⟩))⟩
theorem RdFl.old {w w' : World} {v : Value} {ts : List (DF × Value)} (h : RdFl w v ts) (k : Kept [] w w') : RdFl w' v ts := h.kept k (by simp)

end Go.Proofs.Ytlopdlcepmmjdaa
namespace Go.Proofs.Ytlopdlcepmmjdaa
open Go.RowKit Go.BigFrame Go.Maps Go.Sort
set_option linter.unusedVariables false
set_option linter.unusedSimpArgs false
def sFi : ByteArray := ⟨#[102, 105, 114, 115, 116]⟩
theorem du1 (S : Nat) : stCreate ⟨S, 0, 0, false, fN, []⟩ sFi = (0, ⟨S, 0, 1, false, fN, [⟨sFi, [], 0, false⟩]⟩) := by rfl
theorem du2 (S : Nat) : stAppend ⟨S, 0, 1, false, fN, [⟨sFi, [], 0, false⟩]⟩ sFi [7] = (0, ⟨S, 0, 2, false, fN, [⟨sFi, [7], 0, false⟩]⟩) := by rfl
theorem du3 (S : Nat) : stRead ⟨S, 0, 2, false, fN, [⟨sFi, [7], 0, false⟩]⟩ sFi = ([7], 0) := by rfl
theorem acW_take {acs : List ActD} {i : Nat} (h : i < acs.length) : ((acs.take (i + 1)).map acW).sum = ((acs.take i).map acW).sum + acW acs[i] := by
  rw [List.take_succ_eq_append_getElem h, List.map_append, List.sum_append]
  simp
theorem acW_le {acs : List ActD} (i : Nat) : ((acs.take i).map acW).sum ≤ (acs.map acW).sum := by
  conv => rhs; rw [← List.take_append_drop i acs, List.map_append, List.sum_append]
  omega

set_option maxRecDepth 100000 in
set_option maxHeartbeats 8000000 in
theorem wholeDurable_go (x0 : Nat) (av : Value) (acs : List ActD) (fv : Value) (fl : List (Int × Int)) (cr : Int) (n : Int) (kv : Value) (ks : List KeepD) (w : World) (hx0 : x0 < 65536) (ha : RdC 3 w av (acs.map acC)) (hao : ∀ a ∈ acs, OkAc w a) (haw : (acs.map acW).sum + 1 ≤ 1048576) (hf : RdC 2 w fv (fl.map faC)) (hfo : ∀ a ∈ fl, OkFa a) (hfl : fl.length ≤ 1048576) (hcr : Rng cr) (hn : Rng n) (hk : RdC 3 w kv (ks.map keC)) (hko : ∀ a ∈ ks, OkKe a) (hkl : ks.length ≤ 1048576) :
    Calls Try.prog 6 #[.int .u16 x0, av, fv, .int .i64 cr, .agg #[.int .i64 n, kv]] w fun e w' => e = .returned (.bool true) ∧ Kept [] w w' := by
  obtain ⟨aa, al, ac, hav⟩ : ∃ a l c, av = .slice a l c := by obtain ⟨a, l, c, h1, _⟩ := ha; exact ⟨a, l, c, h1⟩
  obtain ⟨fa, fll, fc, hfv⟩ : ∃ a l c, fv = .slice a l c := by obtain ⟨a, l, c, h1, _⟩ := hf; exact ⟨a, l, c, h1⟩
  obtain ⟨ka, kl, kc, hkv⟩ : ∃ a l c, kv = .slice a l c := by obtain ⟨a, l, c, h1, _⟩ := hk; exact ⟨a, l, c, h1⟩
  subst hav hfv hkv
  have hal : al = acs.length := by obtain ⟨a, l, c, e, h1, _⟩ := ha; cases e; rw [List.length_map] at h1; exact h1.symm
  subst hal
  have hasl : acs.length ≤ 1048576 := by have := sum_len acs acW (by intro a; unfold acW; omega); omega
  have kA := (Kept.refl [] w).alloc (.cells #[.int .i64 n, .slice ka kl kc] 40 (0, 0))
  have gA := heap_alloc_new w (.cells #[.int .i64 n, .slice ka kl kc] 40 (0, 0))
  obtain ⟨WA, hWA⟩ : ∃ W, w.alloc (.cells #[.int .i64 n, .slice ka kl kc] 40 (0, 0)) = W := ⟨_, rfl⟩
  rw [hWA] at kA gA
  have HWA := hide hWA
  have HKA := hide kA
  have HGA := hide gA
  have HA := hide ha
  have HAO := hide hao
  have HAW := hide haw
  have HF := hide hf
  have HFO := hide hfo
  have HKS := hide hk
  have HKO := hide (fun a ha => by have := (hko a ha).1; omega : ∀ a ∈ ks, a.nm.size ≤ 140737488355328)
  clear hWA kA gA ha hao haw hf hfo hk hko hn hcr
  obtain ⟨S, hS⟩ : ∃ S : Nat, 1 + x0 % 600 = S := ⟨_, rfl⟩
  have hS1 : 1 ≤ S ∧ S ≤ 600 := by omega
  have hS2 : (1 : Int) + (x0 : Int) % 600 = (S : Int) := by omega
  clear hS
  go_enter Try.func6, Try.ntmps6
  go_wp2_with (first | (rw [unhide HWA]) | fail)
  refine Calls.mono (newM_D S _ (by omega) (by omega)) ?_
  rintro e w1 ⟨d, B1, rfl, hd1, hk1, hb1⟩
  have HD1 := hide hd1
  have HK1 := hide (And.intro hk1 hb1)
  clear hd1 hk1 hb1
  go_wp2_with fail
  have hc := create_D d 0 0 B1 _ sFi w1 (unhide HD1) (by decide) (by decide)
  rw [show (stCreate ⟨S, 0, 0, false, fun _ => none, []⟩ sFi) = _ from du1 S] at hc
  refine Calls.mono hc ?_
  clear hc
  rintro e w2 ⟨B2, rfl, hd2, hv2⟩
  have HD2 := hide hd2
  have HK2 := hide ((unhide HK1).1.ev (unhide HK1).2 hv2)
  clear hd2 hv2
  go_wp2_with fail
  obtain ⟨W2, hW2⟩ : ∃ W, w2.alloc (.cells #[.int .u8 7] 5 (0, 0)) = W := ⟨_, rfl⟩
  have hk := (Kept.refl [] w2).alloc (.cells #[.int .u8 7] 5 (0, 0))
  have hg := heap_alloc_new w2 (.cells #[.int .u8 7] 5 (0, 0))
  rw [hW2] at hk hg ⊢
  have hc := append_D d 1 0 B2 _ sFi (.slice (some ⟨w2.heap.size, 0, none⟩) 1 1) [7] W2 ((unhide HD2).old hk) (by decide) (by decide) (rd_lit hg rfl (by simp) 1 rfl (by omega)) (by
    intro x hx hy
    replace hx := (mem_zblk hx).1
    simp only [blk, List.mem_singleton] at hx
    subst hx
    have := (unhide HD2).lt _ hy
    omega) (by simp)
  rw [du2 S] at hc
  refine Calls.mono hc ?_
  clear hc hg
  rintro e w3 ⟨B3, rfl, hd3, hv3⟩
  have HD3 := hide hd3
  have HK3 := hide (((unhide HK2).1.trans hk (by simp)).ev (unhide HK2).2 hv3)
  clear hd3 hv3 hk hW2
  go_wp2_with fail
  have hc := read_D d 2 1 B3 _ sFi w3 (unhide HD3) (by decide) (by decide)
  rw [du3 S] at hc
  refine Calls.mono hc ?_
  clear hc
  rintro e w4 ⟨v4, rfl, hn4, hk4⟩
  have HN4 := hide hn4
  have HD4 := hide ((unhide HD3).old hk4)
  have HK4 := hide ((unhide HK3).1.trans hk4 (by simp))
  clear hn4 hk4
  go_wp2_with fail
  obtain ⟨W4, hW4⟩ : ∃ W, w4.alloc (.cells #[.int .u8 7] 5 (0, 0)) = W := ⟨_, rfl⟩
  have hk := (Kept.refl [] w4).alloc (.cells #[.int .u8 7] 5 (0, 0))
  have hg := heap_alloc_new w4 (.cells #[.int .u8 7] 5 (0, 0))
  rw [hW4] at hk hg ⊢
  have hs := tsame_any v4 (.slice (some ⟨w4.heap.size, 0, none⟩) 1 1) [7] [7] W4 ((unhide HN4).rd.kept hk (by simp)) (rd_lit hg rfl (by simp) 1 rfl (by omega))
  refine Calls.mono hs ?_
  clear hs
  rintro e w5 ⟨rfl, hw5⟩
  rw [hw5, decide_eq_true rfl]
  have HD5 := hide ((unhide HD4).old hk)
  have HK5 := hide ((unhide HK4).trans hk (by simp))
  clear hw5 w5 hk hg hW4 HN4
  go_wp2_with fail
  refine Calls.mono (plan_D d 2 1 B3 _ (.slice fa fll fc) fl cr _ (unhide HD5) ((unhide HF).old ((unhide HKA).trans (unhide HK5) (by simp))) (by
    intro x hx hy
    have h8 := (unhide HF).ltZ (by intro r hr; obtain ⟨a, _, rfl⟩ := List.mem_map.1 hr; simp [faC]) x hx
    have h9 := (unhide HK3).2 x hy
    have h7 := (unhide HKA).size
    omega) (unhide HFO) hfl) ?_
  rintro e w6 ⟨B6, rfl, hd6, hv6⟩
  have HK6 := hide ((unhide HK5).ev (unhide HK3).2 hv6)
  obtain ⟨σ, hσ⟩ : ∃ σ, stPlan ⟨S, 0, 2, false, fN, [⟨sFi, [7], 0, false⟩]⟩ fl cr = σ := ⟨_, rfl⟩
  have HSE := hide (by rw [← hσ]; rfl : σ.sec = S)
  rw [hσ] at hd6
  have HD6 := hide (hd6.more (nb' := 2 + 1048576) (bb' := 1) (by omega) (by omega))
  clear hd6 hv6 hσ
  clear HD1 HD2 HD3 HD4 HD5 HK1 HK2 HK3 HK4 HK5
  go_wp2_with fail
  go_loopw [15] (fun t15 wr => ∃ (i : Nat) (B : List Nat) (σ : DSt), i ≤ acs.length ∧ t15 = .int .i64 i ∧ Hid (DK wr d B (2 + 1048576 + i) (1 + ((acs.take i).map acW).sum) σ) ∧ Hid (σ.sec = S) ∧ Hid (Kept [] WA wr ∧ ∀ x ∈ B, WA.heap.size ≤ x)) (fun t _ => acs.length - (intOf t).toNat)
  case atStart => exact ⟨0, B6, σ, Nat.zero_le _, rfl, hide (by simpa using unhide HD6), HSE, HK6⟩
  case round =>
    clear HD6 HSE HK6
    obtain ⟨i, B, σ, hi, rfl, HD, HSE, HKW⟩ := hrel
    have HKX := hide ((unhide HKA).trans (unhide HKW).1 (by simp))
    by_cases hlt : i < acs.length
    · have hlt' : (i : Int) < acs.length := by omega
      obtain ⟨ao, al2, ac2, hae, _, _, _, hac⟩ := unhide HA
      cases hae
      obtain ⟨b, off, rfl, hcc⟩ := hac (by omega)
      have hr := hcc i (by rw [List.length_map]; exact hlt)
      rw [List.getElem_map] at hr
      have p0 := (unhide HKX).cell (hr 0 _ rfl) (by simp)
      have p1 := (unhide HKX).cell (hr 1 _ rfl) (by simp)
      have p2 := (unhide HKX).cell (hr 2 _ rfl) (by simp)
      rw [Nat.add_zero] at p0
      have HAT := hide (acW_take hlt)
      have HAL := hide (acW_le (acs := acs) (i + 1))
      have hok := unhide HAO acs[i] (List.getElem_mem hlt)
      have HOK := hide hok
      obtain ⟨pa, pl, pc, hpv⟩ : ∃ a l c, acs[i].pv = .slice a l c := by obtain ⟨a, l, c, h1, _⟩ := hok.p; exact ⟨a, l, c, h1⟩
      have HPV := hide hpv
      rw [hpv] at p2
      clear hr hcc hac hok hpv
      generalize acs[i] = X at p0 p1 p2 HAT HAL HOK HPV
      have hacw : acW X = X.ps.length + 1 := rfl
      go_wp2_with fail
      refine Calls.mono (acts_any d (2 + 1048576 + i) (1 + ((acs.take i).map acW).sum) B σ X.kd X.F (.slice pa pl pc) X.ps _ (unhide HD) (unhide HOK).kd (unhide HOK).F (by have h9 := (unhide HOK).p; rw [unhide HPV] at h9; exact h9.kept (unhide HKX) (by simp)) (by
        intro x hx hy
        have h9 := (unhide HOK).p
        rw [unhide HPV] at h9
        have h8 := h9.ltZ x hx
        have h7 := (unhide HKW).2 x hy
        have h6 := (unhide HKA).size
        omega) (by omega) (by have := unhide HAT; have := unhide HAL; have := unhide HAW; omega)) ?_
      rintro e w7 ⟨rfl, B7, σ7, hd7, hse7, ev7⟩
      have HD7 := hide (hd7.more (nb' := 2 + 1048576 + (i + 1)) (bb' := 1 + ((acs.take (i + 1)).map acW).sum) (by omega) (by have := unhide HAT; omega))
      have HSE7 := hide (hse7.trans (unhide HSE))
      have HK7 := hide ((unhide HKW).1.ev (unhide HKW).2 ev7)
      clear hd7 hse7 ev7 p0 p1 p2 hacw
      go_wp2_with fail
      refine ⟨⟨i + 1, B7, σ7, by omega, by simp, HD7, HSE7, HK7⟩, ?_⟩
      simp [intOf]; omega
    · have hlt' : ¬ (i : Int) < acs.length := by omega
      obtain ⟨R0, hR0⟩ : ∃ R, R = wr := ⟨_, rfl⟩
      subst hR0
      have HDX := hide ((unhide HD).more (nb' := 2097156) (bb' := 1048578) (by omega) (by have := acW_le (acs := acs) i; have := unhide HAW; omega))
      clear HD hi hlt
      go_wp2_with fail
      refine Calls.mono (files_D d _ _ B _ _ (unhide HDX) (by decide) (by decide)) ?_
      rintro e w3 ⟨v3, ts3, rfl, ho3, ht3, k3⟩
      have HO3 := hide ho3
      have HT3 := hide ht3
      have HD3 := hide ((unhide HDX).old k3)
      have HK3 := hide ((unhide HKW).1.trans k3 (by simp))
      have HN := hide (unhide HKW).2
      have HF3 := hide (fun x hx hy => by have h8 := (ho3.ge x hx).1; have h9 := (unhide HDX).lt x hy; omega : ∀ x ∈ flB v3 ts3, x ∉ B)
      obtain ⟨a3, c3, hv3, hg3⟩ := ho3.shapeL
      subst hv3
      clear ho3 ht3 k3
      have r0 := cell_of_row _ _ 0 _ _ _ ((unhide HK3).heap (unhide HGA) (by simp))
      have r1 := cell_of_row _ _ 1 _ _ _ ((unhide HK3).heap (unhide HGA) (by simp))
      simp at r0 r1
      go_wp2_with fail
      refine Calls.mono (restart_D d _ _ B σ n (.slice ka kl kc) ks _ (unhide HD3) (by decide) (by decide) ((unhide HKS).old ((unhide HKA).trans (unhide HK3) (by simp))) (by intro x hx hy; have h8 := (unhide HKS).ltZ (by intro r hr; obtain ⟨a, _, rfl⟩ := List.mem_map.1 hr; simp [keC]) x hx; have h9 := unhide HN x hy; have h7 := (unhide HKA).size; omega) (unhide HKO) (by omega)) ?_
      rintro e w4 ⟨D4, rfl, hd4, ev4⟩
      have HD4 := hide hd4
      have HK4 := hide ((unhide HK3).ev (unhide HN) ev4)
      have HO4 := hide ((unhide HO3).keptF ev4.1 (unhide HF3))
      clear hd4 ev4 r0 r1
      go_wp2_with fail
      refine Calls.mono (files_D d _ _ D4 _ _ (unhide HD4) (by decide) (by decide)) ?_
      rintro e w5 ⟨v5, ts5, rfl, ho5, ht5, k5⟩
      obtain ⟨q, hS1, hnd, hcnt⟩ := durable_pure σ (unhide HDX).dist n ks
      rw [unhide HSE] at hS1
      have HCN := hide hcnt
      have HND := hide hnd
      have HDI := hide (unhide HDX).dist
      have HSY := hide (unhide HDX).syl
      have HSB := hide (unhide HDX).byt
      rw [hS1] at ht5
      have HT5 := hide ht5
      have HD5 := hide ((unhide HD4).old k5)
      have HK5 := hide ((unhide HK4).1.trans k5 (by simp))
      have HR3 := hide ((unhide HO4).rd.old k5)
      have HR5 := hide ho5.rd
      obtain ⟨a5, c5, hv5, hg5⟩ := ho5.shapeL
      subst hv5
      clear ho5 ht5 k5 hcnt hnd hS1
      go_wp2_with fail
      refine Calls.mono (off_D d _ _ D4 _ _ (unhide HD5)) ?_
      rintro e w6 ⟨rfl, hw6⟩
      rw [hw6]
      clear hw6 w6
      rw [show (stRestart σ n ks).off = false from rfl]
      go_wp2_with fail
      refine Calls.mono (ops_D d _ _ D4 _ _ (unhide HD5)) ?_
      rintro e w6 ⟨rfl, hw6⟩
      rw [hw6]
      clear hw6 w6
      rw [show (stRestart σ n ks).op = 0 from rfl]
      obtain ⟨SA, hSA⟩ : ∃ SA, srtA σ.A = SA := ⟨_, rfl⟩
      rw [hSA] at HT3 HT5 HND HCN
      obtain ⟨IS, hIS⟩ : ∃ IS, (SA.filter q).map (fun f => setF ((fstK ks f.nm.data.toList).getD zK) S f) = IS := ⟨_, rfl⟩
      rw [hIS] at HT5
      have hl3 : ts3.length = SA.length := by have := congrArg List.length (unhide HT3); simpa using this
      have hl5 : ts5.length = IS.length := by have := congrArg List.length (unhide HT5); simpa using this
      have HLB := hide (by rw [← hSA, srtA_len]; exact (unhide HDX).len : SA.length ≤ 2097156)
      have HLI := hide (by rw [← hIS, List.length_map]; exact Nat.le_trans (List.length_filter_le _ _) (unhide HLB) : IS.length ≤ 2097156)
      have HDS := hide (by rw [← hSA]; exact srtA_dist (unhide HDI) : Dist SA)
      have HSS := hide (fun f hf => unhide HSY f (srtA_mem.1 (by rw [hSA]; exact hf)) : ∀ f ∈ SA, f.sy ≤ f.bs.length)
      have HSL := hide (fun f hf => unhide HSB f (srtA_mem.1 (by rw [hSA]; exact hf)) : ∀ f ∈ SA, f.bs.length ≤ 1048578)
      rw [hl3] at HR3 hg3 ⊢
      rw [hl5] at HR5 hg5 ⊢
      have HL3 := hide hl3
      have HL5 := hide hl5
      have HG3 := hide hg3
      have HG5 := hide hg5
      have HIS := hide hIS
      clear hSA hIS hl3 hl5 hg3 hg5 hlt' HO3 HD3 HF3 HDX HO4 HD4 HD5 HSY HSB HA HAO HF HFO
      go_wp2_with fail
      go_loopw [18, 19, 20, 21] (fun t18 t19 t20 t21 wr => ∃ i j l f : Nat, i ≤ SA.length ∧ j ≤ IS.length ∧ t21 = .int .i64 i ∧ t18 = .int .i64 j ∧ t19 = .int .i64 l ∧ t20 = .int .i64 f ∧ Hid (l ≤ i ∧ f ≤ i) ∧ Hid (j = ((SA.take i).filter q).length) ∧ Hid (l = ((SA.take i).filter fun f => !q f).length) ∧ Hid (f = unA (SA.take i)) ∧ Hid (Kept [] w5 wr)) (fun _ _ _ t _ => SA.length - (intOf t).toNat)
      case atStart => exact ⟨0, 0, 0, 0, Nat.zero_le _, Nat.zero_le _, rfl, rfl, rfl, rfl, hide (by omega), hide (by simp), hide (by simp), hide (by simp [unA]), hide (Kept.refl _ _)⟩
      case round =>
        obtain ⟨i, j, l, f, hi, hj, rfl, rfl, rfl, rfl, HLF, HJ, HL, HFR, HW⟩ := hrel
        have hlb : SA.length ≤ 2097156 := unhide HLB
        have hli : IS.length ≤ 2097156 := unhide HLI
        by_cases hlt : i < SA.length
        · have hlt' : (i : Int) < SA.length := by omega
          have hlf := unhide HLF
          have l3 : i < ts3.length := by rw [unhide HL3]; exact hlt
          obtain ⟨g3, rfl⟩ := unhide HG3 (by omega)
          obtain ⟨p0, p1, p2, p3⟩ := rdFl_at (unhide HR3) l3
          have hrd := (unhide HR3).2 ts3[i] (List.getElem_mem l3)
          obtain ⟨xa, xl, xc, hxv, hxl, _⟩ := id hrd
          have x3 := fst_at (unhide HT3) l3 hlt
          have p0 := (unhide HW).cell p0 (by simp)
          have p1 := (unhide HW).cell p1 (by simp)
          have p2 := (unhide HW).cell p2 (by simp)
          have p3 := (unhide HW).cell p3 (by simp)
          rw [hxv] at p1
          rw [x3] at p0 p2 p3 hrd hxl
          rw [hxv] at hrd
          have HRX := hide (hrd.kept (unhide HW) (by simp))
          have HPY := hide (fun (h9 : q SA[i] = true) => by
            have h8 := kept_at hlt h9
            rw [← unhide HJ] at h8
            rw [← unhide HIS, List.getElem?_map, h8]
            rfl : q SA[i] = true → IS[j]? = some (setF ((fstK ks SA[i].nm.data.toList).getD zK) S SA[i]))
          have HPN := hide (fun (h9 : q SA[i] = false) (y : DF) (hy : IS[j]? = some y) => by
            rw [← unhide HIS, List.getElem?_map] at hy
            obtain ⟨x, hx, hxy⟩ := Option.map_eq_some_iff.1 hy
            rw [← hxy, setF_nm]
            exact kept_no (unhide HDS) hlt h9 hx : q SA[i] = false → ∀ y, IS[j]? = some y → y.nm ≠ SA[i].nm)
          have HJ2 := hide (kept_step (p := q) hlt)
          have HL2 := hide (kept_step (p := fun f => !q f) hlt)
          have HF2 := hide (un_step hlt)
          have HXN := hide (unhide HND SA[i] (List.getElem_mem hlt))
          have HXS := hide (unhide HSS SA[i] (List.getElem_mem hlt))
          have HXL := hide (unhide HSL SA[i] (List.getElem_mem hlt))
          clear hrd hxv x3
          generalize SA[i] = X at p0 p1 p2 p3 HRX HPY HPN HJ2 HL2 HF2 HXN HXS HXL hxl
          subst hxl
          rw [← unhide HJ] at HJ2
          rw [← unhide HL] at HL2
          rw [← unhide HFR] at HF2
          have hs0 : ¬ (X.sy : Int) < 0 := by omega
          have hs1 : ¬ (X.bs.length : Int) < (X.sy : Int) := by have := unhide HXS; omega
          go_upto_region 25 with fail
          have HGV := hide (heap_alloc_new wr (.cells #[.string X.nm, .slice xa X.bs.length xc, .int .i64 (X.sy : Int), .bool X.nd] 54 (0, 0)))
          have HKV := hide ((Kept.refl [] wr).alloc (.cells #[.string X.nm, .slice xa X.bs.length xc, .int .i64 (X.sy : Int), .bool X.nd] 54 (0, 0)))
          obtain ⟨V, hV⟩ : ∃ W, wr.alloc (.cells #[.string X.nm, .slice xa X.bs.length xc, .int .i64 (X.sy : Int), .bool X.nd] 54 (0, 0)) = W := ⟨_, rfl⟩
          rw [hV] at HGV HKV ⊢
          clear hV
          have HW2 := hide ((unhide HW).trans (unhide HKV) (by simp))
          have HRX2 := hide ((unhide HRX).kept (unhide HKV) (by simp))
          have z0 := cell_of_row _ _ 0 _ _ _ (unhide HGV)
          have z1 := cell_of_row _ _ 1 _ _ _ (unhide HGV)
          have z2 := cell_of_row _ _ 2 _ _ _ (unhide HGV)
          have z3 := cell_of_row _ _ 3 _ _ _ (unhide HGV)
          simp at z0 z1 z2 z3
          clear p0 p1 p2 p3 HRX
          cases hq : q X
          case false =>
            have hnd : X.nd = false := by
              cases h9 : X.nd
              · rfl
              · have := unhide HXN h9; rw [hq] at this; simp at this
            rw [hnd] at z3
            have hj2 : j = ((SA.take (i + 1)).filter q).length := by have h9 := unhide HJ2; rw [hq] at h9; simp at h9; omega
            have HJ3 := hide hj2
            have HL3' := hide (by have h9 := unhide HL2; rw [hq] at h9; simp at h9; omega : l + 1 = ((SA.take (i + 1)).filter fun f => !q f).length)
            have HF3' := hide (by have h9 := unhide HF2; rw [hnd] at h9; simp at h9; omega : f + 1 = unA (SA.take (i + 1)))
            have HPN2 := hide (unhide HPN hq)
            clear hnd hj2 HPY HPN HJ2 HL2 HF2 HXN hq
            go_upto_region 29 with fail
            by_cases hjl : j < IS.length
            case' pos =>
              have hjl' : (j : Int) < IS.length := by omega
              have hjl2 : ¬ (IS.length : Int) ≤ j := by omega
              have l5 : j < ts5.length := by rw [unhide HL5]; exact hjl
              obtain ⟨g5, rfl⟩ := unhide HG5 (by omega)
              obtain ⟨s0, _, _, _⟩ := rdFl_at (unhide HR5) l5
              have s0 := (unhide HW2).cell s0 (by simp)
              have x5 := fst_at (unhide HT5) l5 hjl
              rw [x5] at s0
              have hne : (IS[j].nm.toList == X.nm.toList) = false := by
                rw [beq_eq_false_iff_ne, ba_toListS, ba_toListS]
                exact fun e => unhide HPN2 IS[j] (List.getElem?_eq_getElem hjl) (ba_ext e)
              clear x5 HPN2
              generalize IS[j].nm = ynm at s0 hne
              refine wp_region_quiet_lit (by kernel_rfl) (by kernel_rfl) ?_
              repeat (go_big_quiet_step (fail))
              refine wpQuiet_nil ?_
              rintro _ ⟨m5, rfl⟩
            case' neg =>
              have hjl' : ¬ (j : Int) < IS.length := by omega
              have hjl2 : (IS.length : Int) ≤ j := by omega
              refine wp_region_quiet_lit (by kernel_rfl) (by kernel_rfl) ?_
              repeat (go_big_quiet_step (fail))
              refine wpQuiet_nil ?_
              rintro _ ⟨m5, rfl⟩
            all_goals
              clear hjl hjl' hjl2
              go_wp2_with fail
              refine ⟨⟨i + 1, j, l + 1, f + 1, by omega, hj, by simp, rfl, by simp, by simp, hide (by omega), HJ3, HL3', HF3', hide ((unhide HW2).drewN _)⟩, ?_⟩
              simp [intOf]; omega
          case true =>
            have hy := unhide HPY hq
            obtain ⟨hjl, hy2⟩ := List.getElem?_eq_some_iff.1 hy
            have hjl' : (j : Int) < IS.length := by omega
            have hjl2 : ¬ (IS.length : Int) ≤ j := by omega
            have l5 : j < ts5.length := by rw [unhide HL5]; exact hjl
            obtain ⟨g5, rfl⟩ := unhide HG5 (by omega)
            obtain ⟨s0, s1, s2, s3⟩ := rdFl_at (unhide HR5) l5
            have x5 := (fst_at (unhide HT5) l5 hjl).trans hy2
            have HRY := hide (((unhide HR5).2 ts5[j] (List.getElem_mem l5)).kept (unhide HW2) (by simp))
            have s0 := (unhide HW2).cell s0 (by simp)
            have s1 := (unhide HW2).cell s1 (by simp)
            have s2 := (unhide HW2).cell s2 (by simp)
            have s3 := (unhide HW2).cell s3 (by simp)
            have hj2 : j + 1 = ((SA.take (i + 1)).filter q).length := by have h9 := unhide HJ2; rw [hq] at h9; simp at h9; omega
            have HJ3 := hide hj2
            have HL3' := hide (by have h9 := unhide HL2; rw [hq] at h9; simp at h9; omega : l = ((SA.take (i + 1)).filter fun f => !q f).length)
            have hynm : ts5[j].1.nm = X.nm := by rw [x5, setF_nm]
            have hyl : ts5[j].1.sy = ts5[j].1.bs.length := by rw [x5]; exact setF_sy _ _ _ (unhide HXS)
            have hynd : ts5[j].1.nd = true := by rw [x5]; exact setF_nd _ _ _
            have HYB := hide (by rw [x5] : ts5[j].1.bs = (setF ((fstK ks X.nm.data.toList).getD zK) S X).bs)
            rw [hynm] at s0
            rw [hynd] at s3
            obtain ⟨ya, yl, yc, hyv, hyl2, _⟩ := id (unhide HRY)
            rw [hyl2] at hyl
            rw [hyv] at s1 HRY
            have HYL := hide hyl
            clear hj2 hy hy2 x5 hynm HPY HPN HJ2 HL2 HXN hq hyv hynd hyl2
            generalize ts5[j].1 = Y at s2 HRY HYB HYL hyl
            subst hyl
            cases hnd : X.nd
            case' false =>
              obtain ⟨F2, hF2⟩ : ∃ F2 : Nat, f + 1 = F2 := ⟨_, rfl⟩
              have HF3' := hide (by have h9 := unhide HF2; rw [hnd] at h9; simp at h9; omega : F2 = unA (SA.take (i + 1)))
              have hF3 : (f : Int) + 1 = (F2 : Int) := by omega
              have HFB := hide (by omega : F2 ≤ i + 1)
              rw [hnd] at z3
              clear hF2 HF2
              go_upto_region 29 with fail
            case' true =>
              obtain ⟨F2, hF2⟩ : ∃ F2 : Nat, F2 = f := ⟨_, rfl⟩
              have HF3' := hide (by have h9 := unhide HF2; rw [hnd] at h9; simp at h9; omega : F2 = unA (SA.take (i + 1)))
              have hF3 : (F2 : Int) = (F2 : Int) := rfl
              have HFB := hide (by omega : F2 ≤ i + 1)
              rw [hnd] at z3
              clear HF2
              subst hF2
              go_upto_region 29 with fail
            all_goals
              clear hF3
              refine wp_region_quiet_lit (by kernel_rfl) (by kernel_rfl) ?_
              repeat (go_big_quiet_step (fail))
              refine wpQuiet_nil ?_
              rintro _ ⟨m5, rfl⟩
              have s0 := ((Kept.refl [] V).drewN m5).cell s0 (by simp)
              have s1 := ((Kept.refl [] V).drewN m5).cell s1 (by simp)
              have s2 := ((Kept.refl [] V).drewN m5).cell s2 (by simp)
              have s3 := ((Kept.refl [] V).drewN m5).cell s3 (by simp)
              have z0 := ((Kept.refl [] V).drewN m5).cell z0 (by simp)
              have z1 := ((Kept.refl [] V).drewN m5).cell z1 (by simp)
              have z2 := ((Kept.refl [] V).drewN m5).cell z2 (by simp)
              have z3 := ((Kept.refl [] V).drewN m5).cell z3 (by simp)
              have HW3 := hide ((unhide HW2).drewN m5)
              have HRX3 := hide ((unhide HRX2).kept ((Kept.refl [] V).drewN m5) (by simp))
              have HRY3 := hide ((unhide HRY).kept ((Kept.refl [] V).drewN m5) (by simp))
              obtain ⟨V2, hV2⟩ : ∃ W, V.drewN m5 = W := ⟨_, rfl⟩
              rw [hV2] at s0 s1 s2 s3 z0 z1 z2 z3 HW3 HRX3 HRY3 ⊢
              clear hV2
              go_upto_region 35 with fail
              have HGV3 := hide (heap_alloc_new V2 (.cells #[.string X.nm, .slice ya Y.sy yc, .int .i64 (Y.sy : Int), .bool true] 54 (0, 0)))
              have HKV3 := hide ((Kept.refl [] V2).alloc (.cells #[.string X.nm, .slice ya Y.sy yc, .int .i64 (Y.sy : Int), .bool true] 54 (0, 0)))
              obtain ⟨V3, hV3⟩ : ∃ W, V2.alloc (.cells #[.string X.nm, .slice ya Y.sy yc, .int .i64 (Y.sy : Int), .bool true] 54 (0, 0)) = W := ⟨_, rfl⟩
              rw [hV3] at HGV3 HKV3 ⊢
              clear hV3
              have HW4 := hide ((unhide HW3).trans (unhide HKV3) (by simp))
              have y1 := cell_of_row _ _ 1 _ _ _ (unhide HGV3)
              have y2 := cell_of_row _ _ 2 _ _ _ (unhide HGV3)
              have y3 := cell_of_row _ _ 3 _ _ _ (unhide HGV3)
              simp at y1 y2 y3
              have z0 := (unhide HKV3).cell z0 (by simp)
              have z1 := (unhide HKV3).cell z1 (by simp)
              have z2 := (unhide HKV3).cell z2 (by simp)
              have z3 := (unhide HKV3).cell z3 (by simp)
              rw [← hnd] at z3
              have HRX4 := hide ((unhide HRX3).kept (unhide HKV3) (by simp))
              have HRY4 := hide ((unhide HRY3).kept (unhide HKV3) (by simp))
              have HKZ := hide ((unhide HK5).trans (unhide HW4) (by simp))
              have t0 := cell_of_row _ _ 0 _ _ _ ((unhide HKZ).heap (unhide HGA) (by simp))
              have t1 := cell_of_row _ _ 1 _ _ _ ((unhide HKZ).heap (unhide HGA) (by simp))
              simp at t0 t1
              clear s0 s1 s2 s3
              refine wp_du21 (by kernel_rfl) (by kernel_rfl) (by kernel_rfl) (by kernel_rfl) (by kernel_rfl) (by kernel_rfl) (by kernel_rfl) (by kernel_rfl) (by kernel_rfl) (by kernel_rfl) (by kernel_rfl) (by kernel_rfl) (by kernel_rfl) (by kernel_rfl) (by kernel_rfl) (by kernel_rfl) (by kernel_rfl) (by kernel_rfl) (by kernel_rfl) (by kernel_rfl) (by kernel_rfl) (by kernel_rfl) (by kernel_rfl) (by kernel_rfl) (by kernel_rfl) (by kernel_rfl) (by kernel_rfl) (by kernel_rfl) (by kernel_rfl) (by kernel_rfl) (by kernel_rfl) (by kernel_rfl) (by kernel_rfl) (by kernel_rfl) (by kernel_rfl) (by kernel_rfl) (by kernel_rfl) (by kernel_rfl) (by kernel_rfl) (by kernel_rfl) (by kernel_rfl) (by kernel_rfl) (by kernel_rfl)
                (.pointer (some ⟨V2.heap.size, 3, none⟩)) (.bool true) (.bool false) (.bool false) (.pointer (some ⟨V2.heap.size, 2, none⟩)) (.int .i64 (Y.sy : Int)) (.pointer (some ⟨V2.heap.size, 1, none⟩)) (.slice ya Y.sy yc) (.int .i64 (Y.sy : Int)) (.bool false) (.bool false) (.bool false) (.pointer (some ⟨V2.heap.size, 1, none⟩)) (.slice ya Y.sy yc) (.agg #[.int .i64 n, .slice ka kl kc]) (.agg #[.string X.nm, .slice xa X.bs.length xc, .int .i64 (X.sy : Int), .bool X.nd]) (.int .i64 (S : Int)) _ _ _ _ _ _ _ _ _ _ _ _ _ _ _ _ _
                (fun w' => Kept [] V3 w')
                (fun w' => Kept [] V3 w')
                (fun u17 w' => Rd w' u17 (setF ((fstK ks X.nm.data.toList).getD zK) S X).bs ∧ Kept [] V3 w')
                (fun u17 u18 w' => u18 = .bool true ∧ Kept [] V3 w')
                (fun _ => .bool false) (fun _ => .bool false)
                (by simp only [Act.put, List.setIfInBounds_toArray, List.set_cons_zero, List.set_cons_succ]; rfl) (by exact Or.inl ⟨by rfl, fun W' hW' => by  go_simp⟩)
                (by simp only [Act.put, List.setIfInBounds_toArray, List.set_cons_zero, List.set_cons_succ]; rfl) (by exact Or.inl ⟨by rfl, fun W' hW' => by have h90 := hW'.cell y3 (by simp); go_simp⟩)
                (by simp only [Act.put, List.setIfInBounds_toArray, List.set_cons_zero, List.set_cons_succ]; rfl) (by exact Or.inl ⟨by rfl, fun W' hW' => by  go_simp⟩)
                (by simp only [Act.put, List.setIfInBounds_toArray, List.set_cons_zero, List.set_cons_succ]; rfl) (by exact Or.inl ⟨by rfl, fun W' hW' => by  go_simp⟩)
                (by simp only [Act.put, List.setIfInBounds_toArray, List.set_cons_zero, List.set_cons_succ]; rfl) (by exact Or.inl ⟨by rfl, fun W' hW' => by  go_simp⟩)
                (by simp only [Act.put, List.setIfInBounds_toArray, List.set_cons_zero, List.set_cons_succ]; rfl) (by exact Or.inl ⟨by rfl, fun W' hW' => by have h90 := hW'.cell y2 (by simp); go_simp⟩)
                (by simp only [Act.put, List.setIfInBounds_toArray, List.set_cons_zero, List.set_cons_succ]; rfl) (by exact Or.inl ⟨by rfl, fun W' hW' => by  go_simp⟩)
                (by simp only [Act.put, List.setIfInBounds_toArray, List.set_cons_zero, List.set_cons_succ]; rfl) (by exact Or.inl ⟨by rfl, fun W' hW' => by have h90 := hW'.cell y1 (by simp); go_simp⟩)
                (by simp only [Act.put, List.setIfInBounds_toArray, List.set_cons_zero, List.set_cons_succ]; rfl) (by exact Or.inl ⟨by rfl, fun W' hW' => by  go_simp⟩)
                (by simp only [Act.put, List.setIfInBounds_toArray, List.set_cons_zero, List.set_cons_succ]; rfl) (by exact Or.inl ⟨by rfl, fun W' hW' => by  go_simp⟩)
                (by simp only [Act.put, List.setIfInBounds_toArray, List.set_cons_zero, List.set_cons_succ]; rfl) (by exact Or.inl ⟨by rfl, fun W' hW' => by  go_simp⟩)
                (by simp only [Act.put, List.setIfInBounds_toArray, List.set_cons_zero, List.set_cons_succ]; rfl) (by exact Or.inl ⟨by rfl, fun W' hW' => by  go_simp⟩)
                (by simp only [Act.put, List.setIfInBounds_toArray, List.set_cons_zero, List.set_cons_succ]; rfl) (by exact Or.inl ⟨by rfl, fun W' hW' => by  go_simp⟩)
                (by simp only [Act.put, List.setIfInBounds_toArray, List.set_cons_zero, List.set_cons_succ]; rfl) (by exact Or.inl ⟨by rfl, fun W' hW' => by have h90 := hW'.cell y1 (by simp); go_simp⟩)
                (by simp only [Act.put, List.setIfInBounds_toArray, List.set_cons_zero, List.set_cons_succ]; rfl) (by exact Or.inl ⟨by rfl, fun W' hW' => by have h90 := hW'.cell t0 (by simp); have h91 := hW'.cell t1 (by simp); go_simp⟩)
                (by simp only [Act.put, List.setIfInBounds_toArray, List.set_cons_zero, List.set_cons_succ]; rfl) (by exact Or.inl ⟨by rfl, fun W' hW' => by have h90 := hW'.cell z0 (by simp); have h91 := hW'.cell z1 (by simp); have h92 := hW'.cell z2 (by simp); have h93 := hW'.cell z3 (by simp); go_simp⟩)
                (by simp only [Act.put, List.setIfInBounds_toArray, List.set_cons_zero, List.set_cons_succ]; rfl) (by exact Or.inl ⟨by rfl, fun W' hW' => by  go_simp⟩)
                (Kept.refl [] V3).drew
                ⟨fun w' h => h, fun u17 w' h => h.2, fun u17 u18 w' h => h.2⟩
                (by first | rfl | (simp only [Act.put, List.setIfInBounds_toArray, List.set_cons_zero, List.set_cons_succ]; rfl)) (by intros; first | rfl | (simp only [Act.put, List.setIfInBounds_toArray, List.set_cons_zero, List.set_cons_succ]; rfl))
                (by
                  intro w' k K hK
                  refine wp_callN rfl Try.call30 [.agg #[.int .i64 n, .slice ka kl kc], .agg #[.string X.nm, .slice xa X.bs.length xc, .int .i64 (X.sy : Int), .bool X.nd], .int .i64 (S : Int)] rfl (tleft_any n (.slice ka kl kc) ks X (.slice xa X.bs.length xc) S w' ((unhide HKS).old (((unhide HKA).trans (unhide HKZ) (by simp)).trans k (by simp))) hkl ((unhide HRX4).kept k (by simp)) (unhide HXS) (by have := unhide HXL; omega) (by omega) (by omega)) ?_
                  rintro e w2 ⟨v, rfl, hr, k2⟩
                  exact ⟨_, rfl, hK _ _ ⟨hr, k.trans k2 (by simp)⟩⟩)
                (by
                  rintro u17 w' ⟨hr, k⟩ K hK
                  have hs9 := tsame_any (.slice ya Y.sy yc) u17 Y.bs (setF ((fstK ks X.nm.data.toList).getD zK) S X).bs w' ((unhide HRY4).kept k (by simp)) hr
                  rw [decide_eq_true (unhide HYB)] at hs9
                  refine wp_callN rfl Try.call23 [.slice ya Y.sy yc, u17] rfl hs9 ?_
                  rintro e w2 ⟨rfl, rfl⟩
                  exact ⟨_, rfl, hK _ _ ⟨rfl, k⟩⟩)
                (by rintro u17 u18 w' ⟨rfl, k⟩; exact Or.inl ⟨by rfl, fun W' hW' => by go_simp⟩)
                (by rintro u17 u18 w' ⟨rfl, k⟩; exact Or.inl ⟨by rfl, fun W' hW' => by go_simp⟩)
                ?_
              rintro u17 u18 w9 ⟨rfl, k9⟩
              simp only [Act.put, List.setIfInBounds_toArray, List.set_cons_zero, List.set_cons_succ]
              have HW9 := hide ((unhide HW4).trans k9 (by simp))
              clear k9 z0 z1 z2 z3 t0 t1 y1 y2 y3
              go_wp2_with fail
              refine ⟨⟨i + 1, j + 1, l, F2, by omega, by omega, by simp, by simp, rfl, rfl, hide (by have := unhide HFB; omega), HJ3, HL3', HF3', HW9⟩, ?_⟩
              simp [intOf]; omega
        · have hlt' : ¬ (i : Int) < SA.length := by omega
          have hie : i = SA.length := by omega
          subst hie
          have hjl : j = IS.length := by have h9 := unhide HJ; rw [List.take_length] at h9; rw [h9, ← unhide HIS, List.length_map]
          subst hjl
          have hcn : (f : Int) - l = min (max n 0) (f : Nat) := by
            have h9 := unhide HCN
            have h8 := unhide HL
            have h7 := unhide HFR
            rw [List.take_length] at h8 h7
            rw [← h7, ← h8] at h9
            exact h9
          have HC2 := hide hcn
          have hlf := unhide HLF
          have t0 := cell_of_row _ _ 0 _ _ _ (((unhide HK5).trans (unhide HW) (by simp)).heap (unhide HGA) (by simp))
          simp at t0
          clear hcn
          go_wp2_with fail
          all_goals
            go_ret
            refine ⟨?_, ((unhide HKA).trans (unhide HK5) (by simp)).trans (unhide HW) (by simp)⟩
            have h9 := unhide HC2
            simp
            omega

theorem wholeDurable_walk (x0 : Nat) (av : Value) (acs : List ActD) (fv : Value) (fl : List (Int × Int)) (cr : Int) (n : Int) (kv : Value) (ks : List KeepD) (w : World) (hx0 : x0 < 65536) (ha : RdC 3 w av (acs.map acC)) (hao : ∀ a ∈ acs, OkAc w a) (haw : (acs.map acW).sum + 1 ≤ 1048576) (hf : RdC 2 w fv (fl.map faC)) (hfo : ∀ a ∈ fl, OkFa a) (hfl : fl.length ≤ 1048576) (hcr : Rng cr) (hn : Rng n) (hk : RdC 3 w kv (ks.map keC)) (hko : ∀ a ∈ ks, OkKe a) (hkl : ks.length ≤ 1048576) :
    Calls Try.prog 6 #[.int .u16 x0, av, fv, .int .i64 cr, .agg #[.int .i64 n, kv]] w fun e w' => e = .returned (.bool true) ∧ Below w.heap.size w w' :=
  (wholeDurable_go x0 av acs fv fl cr n kv ks w hx0 ha hao haw hf hfo hfl hcr hn hk hko hkl).mono fun e w' h9 => ⟨h9.1, h9.2.below (Nat.le_refl _) (by simp)⟩
end Go.Proofs.Ytlopdlcepmmjdaa
