import Derived.Test.YtejchncdimcdbaaGreatDoorDk5
namespace Go.Proofs.YtejchncdimcdbaaGreatDoor
open Go.RowKit Go.BigFrame
set_option linter.unusedVariables false
set_option linter.unusedSimpArgs false

set_option maxHeartbeats 400000 in
theorem dcloned_any (v : Value) (bs : List Nat) (w : World) (h : Rd w v bs) :
    Calls Tryz.prog 43 #[v] w fun e w' => e = .returned (.slice (some ⟨w.heap.size, 0, none⟩) bs.length bs.length) ∧ Kept [] w w' ∧
      w'.heap[w.heap.size]? = some (.cells (bs.map u8).toArray 5 (0, 0)) := by
  have hk : Rd (w.alloc (.cells (zeros bs.length).toArray 5)) v bs := h.kept ((Kept.refl [] w).alloc _) (by simp)
  obtain ⟨ao, len, cap, rfl, rfl, h2, ⟨h3, h3'⟩, h4, h5, h6⟩ := h
  have hmk := run_make_row' (P := Tryz.prog) 72 5 (.int .u8 0) 1 Tryz.underlying72 Tryz.info5 rfl .i64 .i64 bs.length (by omega) (by omega)
  simp only [madeZeros] at hmk
  obtain ⟨w2, hrun, hg, hw⟩ := run_copy_head 72 72 3 5 Tryz.underlying72 Tryz.size5 _ w.heap.size bs.length bs.length cap ao bs (zeros bs.length) 5 (heap_alloc_new w _) hk (Nat.le_refl _) (by simp [zeros])
  have HG := hide hg
  have HW := hide hw
  clear hg hw hk h6
  go_enter Tryz.func43, Tryz.ntmps43
  go_wp2
  go_ret
  refine ⟨rfl, ((Kept.refl [] w).alloc _).trans (unhide HW) (by simp), ?_⟩
  rw [unhide HG]; simp [zeros]
def mblk : Value → List Nat
  | .map (some b) => [b]
  | _ => []
/-- A disk: its cells, the map, the names that are not durable in the order in which they came, the faults, the files. -/
structure DkAt (w : World) (d sec m N : Nat) (u fv : Value) (cr op : Int) (off : Bool) (ft : Int → Option Int) (fs : List DFile) : Prop where
  row : DRow w d sec (.map (some m)) u fv cr op off
  map : DMap w m N fs
  un : Qr w 103 u (unN fs)
  ft : FMap w fv N ft
  files : ∀ f ∈ fs, FileAt w f
  apart : fs.Pairwise fun a b => a.g ≠ b.g ∧ ∀ x ∈ blk a.v, x ∉ blk b.v
  two : m ∉ mblk fv
def dkB (d m : Nat) (u fv : Value) (fs : List DFile) : List Nat := d :: m :: (blk u ++ mblk fv ++ fs.flatMap fun f => f.g :: blk f.v)
theorem FMap.kept {L : List Nat} {w w' : World} {fv : Value} {N : Nat} {ft : Int → Option Int} (h : FMap w fv N ft) (k : Kept L w w') (hn : ∀ x ∈ mblk fv, x ∉ L) : FMap w' fv N ft := by
  rcases h with h | ⟨b, n, D, rfl, ho, r⟩
  · exact .inl h
  · exact .inr ⟨b, n, D, rfl, ownsMap_heap ho (k.block b ho.lt (hn b (by simp [mblk]))), r⟩
theorem own_blk {v : Value} {x : Nat} (h : v.ownBlock = some x) : x ∈ blk v := by
  unfold Value.ownBlock at h
  split at h <;> simp_all [blk]
theorem FileAt.kept {L : List Nat} {w w' : World} {f : DFile} (h : FileAt w f) (k : Kept L w w') (hg : f.g ∉ L) (hv : ∀ x ∈ blk f.v, x ∉ L) : FileAt w' f :=
  ⟨k.heap h.1 hg, k.owns h.2.1 (fun x hx => hv x (own_blk hx)), h.2.2⟩
theorem DkAt.kept {L : List Nat} {w w' : World} {d sec m N : Nat} {u fv : Value} {cr op : Int} {off : Bool} {ft : Int → Option Int} {fs : List DFile} (h : DkAt w d sec m N u fv cr op off ft fs) (k : Kept L w w') (hn : ∀ x ∈ dkB d m u fv fs, x ∉ L) : DkAt w' d sec m N u fv cr op off ft fs where
  row := k.heap h.row (hn d (by simp [dkB]))
  map := dmap_kept h.map k (hn m (by simp [dkB]))
  un := h.un.kept k (fun x hx => hn x (by simp [dkB, hx]))
  ft := h.ft.kept k (fun x hx => hn x (by simp [dkB, hx]))
  files := fun f hf => (h.files f hf).kept k (hn f.g (by
    simp only [dkB, List.mem_cons, List.mem_append, List.mem_flatMap]
    exact .inr (.inr (.inr ⟨f, hf, .inl rfl⟩)))) (fun x hx => hn x (by
    simp only [dkB, List.mem_cons, List.mem_append, List.mem_flatMap]
    exact .inr (.inr (.inr ⟨f, hf, .inr hx⟩))))
  apart := h.apart
  two := h.two
theorem cells_ne {w : World} {p q : Nat} {a b : Array Value} {T S : TypeId} {x y : Nat × Nat} (hp : w.heap[p]? = some (.cells a T x)) (hq : w.heap[q]? = some (.cells b S y)) (h : T ≠ S) : p ≠ q := by
  intro e
  subst e
  rw [hp] at hq
  injection hq with hq
  injection hq with h1 h2 h3
  exact h h2
theorem owns_cells {w : World} {base e s n : Nat} {v : Value} {xs : List Value} (h : w.ownsRow base e s v n xs) {x : Nat} (hx : x ∈ blk v) : ∃ cs, w.heap[x]? = some (.cells cs e (0, 0)) := by
  rcases h.2 with ⟨rfl, _⟩ | ⟨g, cap, cur, rfl, _, hg, _⟩
  · simp [blk] at hx
  · simp only [blk, List.mem_singleton] at hx
    subst hx
    exact ⟨_, hg⟩
theorem qr_cells {w : World} {e : TypeId} {v : Value} {xs : List Value} (h : Qr w e v xs) {x : Nat} (hx : x ∈ blk v) : ∃ cs, w.heap[x]? = some (.cells cs e (0, 0)) := by
  rcases h with ⟨rfl, _⟩ | ⟨g, off, cap, cur, rfl, hg, r⟩
  · simp [blk] at hx
  · simp only [blk, List.mem_singleton] at hx
    subst hx
    exact ⟨_, hg⟩
theorem fmap_block {w : World} {fv : Value} {N : Nat} {ft : Int → Option Int} (h : FMap w fv N ft) {x : Nat} (hx : x ∈ mblk fv) : ∃ (n : Nat) (D : DataW Unit), w.ownsMap Tryz.prog 3 (plainElem Tryz.prog 3) x n D := by
  rcases h with ⟨rfl, _⟩ | ⟨b, n, D, rfl, ho, _⟩
  · simp [mblk] at hx
  · simp only [mblk, List.mem_singleton] at hx
    subst hx
    exact ⟨n, D, ho⟩
/-- The disk's own cells have turned, nothing else. -/
theorem DkAt.turned {w w' : World} {d sec m N : Nat} {u fv : Value} {cr op : Int} {off : Bool} {ft : Int → Option Int} {fs : List DFile} (h : DkAt w d sec m N u fv cr op off ft fs) (k : Kept [d] w w') {cr' op' : Int} {off' : Bool} (hr : DRow w' d sec (.map (some m)) u fv cr' op' off') : DkAt w' d sec m N u fv cr' op' off' ft fs where
  row := hr
  map := by
    obtain ⟨n, D, ho, _⟩ := h.map
    exact dmap_kept h.map k (by simpa using (map_ne ho h.row).symm)
  un := h.un.kept k (by
    intro x hx
    obtain ⟨cs, hc⟩ := qr_cells h.un hx
    simpa using cells_ne hc h.row (by decide))
  ft := h.ft.kept k (by
    intro x hx
    obtain ⟨n, D, ho⟩ := fmap_block h.ft hx
    simpa using (map_ne ho h.row).symm)
  files := fun f hf => (h.files f hf).kept k (by simpa using cells_ne (h.files f hf).1 h.row (by decide)) (by
    intro x hx
    obtain ⟨cs, hc⟩ := owns_cells (h.files f hf).2.1 hx
    simpa using cells_ne hc h.row (by decide))
  apart := h.apart
  two := h.two
theorem DkAt.more {w : World} {d sec m N M : Nat} {u fv : Value} {cr op : Int} {off : Bool} {ft : Int → Option Int} {fs : List DFile} (h : DkAt w d sec m N u fv cr op off ft fs) (hM : N ≤ M) : DkAt w d sec m M u fv cr op off ft fs where
  row := h.row
  map := by obtain ⟨n, D, ho, hn, r⟩ := h.map; exact ⟨n, D, ho, by omega, r⟩
  un := h.un
  ft := by
    rcases h.ft with h1 | ⟨b, n, D, h1, ho, hn, r⟩
    · exact .inl h1
    · exact .inr ⟨b, n, D, h1, ho, by omega, r⟩
  files := h.files
  apart := h.apart
  two := h.two
/-- A file more. -/
theorem add_any (d sec m N : Nat) (f : DFile) (w : World) (u fv : Value) (cr op : Int) (off : Bool) (ft : Int → Option Int) (fs : List DFile) (h : DkAt w d sec m N u fv cr op off ft fs) (hf : FileAt w f) (hN : N ≤ 1000000000) (hfs : fs.length ≤ 1000000000) (hs : f.nm.size ≤ 140737488355328)
    (hl : look fs f.nm.data.toList = none) (hap : ∀ a ∈ fs, a.g ≠ f.g ∧ ∀ x ∈ blk a.v, x ∉ blk f.v) :
    Calls Tryz.prog 42 #[.pointer (some ⟨d, 0, none⟩), .pointer (some ⟨f.g, 0, none⟩)] w fun e w' => ∃ u', e = .returned (.tuple #[]) ∧ DkAt w' d sec m (N + 1) u' fv cr op off ft (fs ++ [f]) ∧ Kept (d :: m :: blk u) w w' ∧ ∀ x ∈ blk u', x ∈ blk u ∨ w.heap.size ≤ x := by
  refine Calls.mono (dadd_any d f w sec m N u fv cr op off fs h.row h.map h.un hf hN hfs hs hl) ?_
  rintro e w' ⟨u', rfl, h1, h2, h3, hk, h5⟩
  obtain ⟨n, D, ho, _⟩ := h.map
  have hfree : ∀ {q : Nat} {cs : Array Value} {T : TypeId} {z : Nat × Nat}, w.heap[q]? = some (.cells cs T z) → T ≠ 101 → T ≠ 103 → q ∉ d :: m :: blk u := by
    intro q cs T z hq hT hS hx
    simp only [List.mem_cons] at hx
    rcases hx with hx | hx | hx
    · exact cells_ne hq h.row hT hx
    · exact map_ne ho hq hx
    · obtain ⟨c2, hc⟩ := qr_cells h.un hx
      exact cells_ne hq hc hS rfl
  have hfile : ∀ {a : DFile}, FileAt w a → FileAt w' a := by
    intro a ha
    refine ha.kept hk (hfree ha.1 (by decide) (by decide)) ?_
    intro x hx
    obtain ⟨cs, hc⟩ := owns_cells ha.2.1 hx
    exact hfree hc (by decide) (by decide)
  refine ⟨u', rfl, ⟨h1, h2, h3, ?_, ?_, ?_, h.two⟩, hk, h5⟩
  · have h6 := h.more (Nat.le_succ N)
    refine h6.ft.kept hk ?_
    intro x hx hx2
    obtain ⟨n2, D2, ho2⟩ := fmap_block h.ft hx
    simp only [List.mem_cons] at hx2
    rcases hx2 with hx2 | hx2 | hx2
    · exact map_ne ho2 h.row hx2.symm
    · subst hx2
      exact h.two hx
    · exact Qr.notMap h.un ho2 hx2
  · intro a ha
    rw [List.mem_append] at ha
    rcases ha with ha | ha
    · exact hfile (h.files a ha)
    · simp only [List.mem_singleton] at ha
      subst ha
      exact hfile hf
  · rw [List.pairwise_append]
    refine ⟨h.apart, List.pairwise_singleton _ _, ?_⟩
    intro a ha b hb
    simp only [List.mem_singleton] at hb
    subst hb
    exact hap a ha
end Go.Proofs.YtejchncdimcdbaaGreatDoor
