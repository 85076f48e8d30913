import Derived.Test.YtejchncdimcdbaaGreatDoorDk20
namespace Go.Proofs.YtejchncdimcdbaaGreatDoor
open Go.RowKit Go.BigFrame
set_option linter.unusedVariables false
set_option linter.unusedSimpArgs false

/-- A file, without its memory. -/
structure DF where
  nm : ByteArray
  bs : List Nat
  sy : Nat
  nd : Bool
/-- A disk, without its memory. -/
structure DSt where
  sec : Nat
  cr : Int
  op : Int
  off : Bool
  ft : Int → Option Int
  A : List DF
def absF (f : DFile) : DF := ⟨f.nm, f.bs, f.sy, f.nd⟩
def findA (A : List DF) (s : List UInt8) : Option DF := A.find? fun f => f.nm.data.toList == s
def Dist (A : List DF) : Prop := A.Pairwise fun a b => a.nm ≠ b.nm
def upA (A : List DF) (nm : ByteArray) (F : DF → DF) : List DF := A.map fun x => if x.nm = nm then F x else x
def tick (σ : DSt) (A : List DF) : DSt := { σ with op := σ.op + 1, off := decide (σ.op + 1 = σ.cr), A := A }
def ownA (A : List DF) (s : ByteArray) : Nat := if isNm s then (if (findA A s.data.toList).isSome then 6 else 0) else 3
def stCreate (σ : DSt) (s : ByteArray) : Nat × DSt :=
  if σ.off then (12, σ) else
    (opE σ.ft σ.cr σ.op (ownA σ.A s), tick σ (if ownA σ.A s = 0 ∧ opE σ.ft σ.cr σ.op (ownA σ.A s) ≠ 7 then σ.A ++ [⟨s, [], 0, false⟩] else σ.A))
def appK (σ : DSt) (p : List Nat) : Nat := if opE σ.ft σ.cr σ.op 0 = 7 then (wtn ((σ.ft (σ.op + 1)).getD 0) p.length).toNat else p.length
def stAppend (σ : DSt) (s : ByteArray) (p : List Nat) : Nat × DSt :=
  if σ.off then (12, σ) else if (findA σ.A s.data.toList).isSome then (opE σ.ft σ.cr σ.op 0, tick σ (upA σ.A s fun f => { f with bs := f.bs ++ p.take (appK σ p) })) else (opE σ.ft σ.cr σ.op 5, tick σ σ.A)
def stSync (σ : DSt) (s : ByteArray) : Nat × DSt :=
  if σ.off then (12, σ) else if (findA σ.A s.data.toList).isSome then (opE σ.ft σ.cr σ.op 0, tick σ (if opE σ.ft σ.cr σ.op 0 = 0 then upA σ.A s fun f => { f with sy := f.bs.length } else σ.A)) else (opE σ.ft σ.cr σ.op 5, tick σ σ.A)
def ndA (A : List DF) : List DF := A.map fun f => { f with nd := true }
def stNames (σ : DSt) : Nat × DSt :=
  if σ.off then (12, σ) else (opE σ.ft σ.cr σ.op 0, tick σ (if opE σ.ft σ.cr σ.op 0 = 0 then ndA σ.A else σ.A))
def stRead (σ : DSt) (s : ByteArray) : List Nat × Nat :=
  if σ.off then ([], 12) else match findA σ.A s.data.toList with | none => ([], 5) | some f => (f.bs, 0)
/-- The first k of the names that are not durable stay. -/
def cutN : Nat → List DF → List DF
  | _, [] => []
  | k, f :: r => if f.nd then f :: cutN k r else match k with
    | 0 => cutN 0 r
    | k + 1 => f :: cutN k r
theorem ba_ext {a b : ByteArray} (h : a.data.toList = b.data.toList) : a = b := by
  obtain ⟨⟨a⟩⟩ := a
  obtain ⟨⟨b⟩⟩ := b
  simp only at h
  subst h
  rfl
theorem find_abs (fs : List DFile) (s : List UInt8) : findA (fs.map absF) s = (fs.find? fun f => f.nm.data.toList == s).map absF := by
  unfold findA
  rw [List.find?_map]
  rfl
theorem look_isSome (fs : List DFile) (s : List UInt8) : (look fs s).isSome = (findA (fs.map absF) s).isSome := by
  rw [find_abs]
  unfold look
  simp
theorem own_abs (fs : List DFile) (s : ByteArray) : own1 fs s = ownA (fs.map absF) s := by
  unfold own1 ownA
  rw [look_isSome]
theorem look_file {fs : List DFile} {s : List UInt8} {x : DF} (h : findA (fs.map absF) s = some x) : ∃ f ∈ fs, look fs s = some f.g ∧ absF f = x ∧ f.nm.data.toList = s := by
  rw [find_abs] at h
  obtain ⟨f, hf, rfl⟩ := Option.map_eq_some_iff.1 h
  exact ⟨f, List.mem_of_find?_eq_some hf, by unfold look; rw [hf]; rfl, rfl, by simpa using List.find?_some hf⟩
theorem look_no {fs : List DFile} {s : List UInt8} (h : findA (fs.map absF) s = none) : look fs s = none := by
  have := look_isSome fs s
  rw [h] at this
  simpa using this
theorem dist_eq {fs : List DFile} (h : Dist (fs.map absF)) {a b : DFile} (ha : a ∈ fs) (hb : b ∈ fs) (e : a.nm = b.nm) : a = b := by
  unfold Dist at h
  rw [List.pairwise_map] at h
  induction h with
  | nil => simp at ha
  | @cons x l hx hl ih =>
    simp only [List.mem_cons] at ha hb
    rcases ha with rfl | ha
    · rcases hb with rfl | hb
      · rfl
      · exact absurd e (hx b hb)
    · rcases hb with rfl | hb
      · exact absurd e.symm (hx a ha)
      · exact ih ha hb
theorem up_abs {fs : List DFile} (hap : fs.Pairwise Apt) (hd : Dist (fs.map absF)) {f : DFile} (hf : f ∈ fs) (v : Value) (bs : List Nat) (sy : Nat) :
    (upF fs f.g v bs sy).map absF = upA (fs.map absF) f.nm fun x => { x with bs := bs, sy := sy } := by
  unfold upF upA
  rw [List.map_map, List.map_map]
  apply List.map_congr_left
  intro a ha
  simp only [Function.comp]
  by_cases hg : a.g = f.g
  · rcases apt_mem hap ha hf with rfl | hab
    · simp [upOne, absF]
    · exact absurd hg hab.1
  · have hn : a.nm ≠ f.nm := fun e => hg (by rw [dist_eq hd ha hf e])
    simp [upOne, absF, hg, hn]
theorem up_congr {A : List DF} (hd : Dist A) {x : DF} (hx : x ∈ A) {F G : DF → DF} (h : F x = G x) : upA A x.nm F = upA A x.nm G := by
  unfold upA
  apply List.map_congr_left
  intro a ha
  by_cases hn : a.nm = x.nm
  · have : a = x := by
      have hd2 : A.Pairwise fun a b => a.nm ≠ b.nm := hd
      clear h
      induction hd2 with
      | nil => simp at ha
      | @cons y l hy hl ih =>
        simp only [List.mem_cons] at ha hx
        rcases ha with rfl | ha
        · rcases hx with rfl | hx
          · rfl
          · exact absurd hn (hy x hx)
        · rcases hx with rfl | hx
          · exact absurd hn.symm (hy a ha)
          · exact ih hl hx ha
    rw [if_pos hn, if_pos hn, this, h]
  · rw [if_neg hn, if_neg hn]
theorem upA_nm {A : List DF} {s : ByteArray} {F : DF → DF} (h : ∀ x, (F x).nm = x.nm) : (upA A s F).map DF.nm = A.map DF.nm := by
  unfold upA
  rw [List.map_map]
  apply List.map_congr_left
  intro a _
  simp only [Function.comp]
  split
  · exact h a
  · rfl
theorem dist_iff (A : List DF) : Dist A ↔ (A.map DF.nm).Nodup := by
  unfold Dist List.Nodup
  rw [List.pairwise_map]
theorem dist_up {A : List DF} {s : ByteArray} {F : DF → DF} (h : ∀ x, (F x).nm = x.nm) (hd : Dist A) : Dist (upA A s F) := by
  rw [dist_iff, upA_nm h]
  exact (dist_iff A).1 hd
/-- The blocks of a disk: what may turn, and what is new. -/
def Ev (w w' : World) (B B' : List Nat) : Prop := Kept B w w' ∧ ∀ x ∈ B', x ∈ B ∨ w.heap.size ≤ x
theorem Ev.refl (w : World) (B : List Nat) : Ev w w B B := ⟨Kept.refl _ _, fun x hx => .inl hx⟩
theorem Ev.trans {a b c : World} {A B C : List Nat} (h : Ev a b A B) (k : Ev b c B C) : Ev a c A C := by
  refine ⟨h.1.trans k.1 h.2, ?_⟩
  intro x hx
  rcases k.2 x hx with h1 | h1
  · exact h.2 x h1
  · exact .inr (Nat.le_trans h.1.size h1)
/-- The disk at block d, in its blocks B, with at most nb of everything and bb bytes a file. -/
structure DK (w : World) (d : Nat) (B : List Nat) (nb bb : Nat) (σ : DSt) : Prop where
  ex : ∃ m u fv fs, DkAt w d σ.sec m nb u fv σ.cr σ.op σ.off σ.ft fs ∧ B = dkB d m u fv fs ∧ σ.A = fs.map absF
  dist : Dist σ.A
  opb : 0 ≤ σ.op ∧ σ.op ≤ nb
  len : σ.A.length ≤ nb
  byt : ∀ f ∈ σ.A, f.bs.length ≤ bb
  secb : 1 ≤ σ.sec ∧ σ.sec ≤ 4096
  nms : ∀ f ∈ σ.A, isNm f.nm = true
theorem isNm_size {s : ByteArray} (h : isNm s = true) : 1 ≤ s.size ∧ s.size ≤ 40 := by
  unfold isNm at h
  simp only [Bool.and_eq_true, decide_eq_true_eq] at h
  exact h.1
theorem DK.lt {w : World} {d nb bb : Nat} {B : List Nat} {σ : DSt} (h : DK w d B nb bb σ) : ∀ x ∈ B, x < w.heap.size := by
  obtain ⟨m, u, fv, fs, h1, rfl, h3⟩ := h.ex
  exact h1.lt
theorem DK.kept {L : List Nat} {w w' : World} {d nb bb : Nat} {B : List Nat} {σ : DSt} (h : DK w d B nb bb σ) (k : Kept L w w') (hn : ∀ x ∈ B, x ∉ L) : DK w' d B nb bb σ := by
  obtain ⟨m, u, fv, fs, h1, rfl, h3⟩ := h.ex
  exact ⟨⟨m, u, fv, fs, h1.kept k hn, rfl, h3⟩, h.dist, h.opb, h.len, h.byt, h.secb, h.nms⟩
theorem DK.more {w : World} {d nb bb : Nat} {B : List Nat} {σ : DSt} (h : DK w d B nb bb σ) {nb' bb' : Nat} (h1 : nb ≤ nb') (h2 : bb ≤ bb') : DK w d B nb' bb' σ := by
  obtain ⟨m, u, fv, fs, h3, rfl, h4⟩ := h.ex
  exact ⟨⟨m, u, fv, fs, h3.more h1, rfl, h4⟩, h.dist, ⟨h.opb.1, by have := h.opb.2; omega⟩, Nat.le_trans h.len h1, fun f hf => Nat.le_trans (h.byt f hf) h2, h.secb, h.nms⟩
end Go.Proofs.YtejchncdimcdbaaGreatDoor
