import Derived.Test.YthampopakcdgnaaEOwn
namespace Go.Proofs.Ythampopakcdgnaa
open Go.RowKit Go.BigFrame
set_option linter.unusedVariables false
set_option linter.unusedSimpArgs false

/-- A block whose first n cells are nought. -/
def Zr (w : World) (g n : Nat) : Prop := ∀ i, i < n → w.cell? ⟨g, i, none⟩ = some (u8 0)
theorem Zr.made (w : World) (n : Nat) : Zr (w.alloc (.cells (madeCells #[.int .u8 0] n) 5)) w.heap.size n := fun i hi => by
  rw [cell_of_row _ _ _ _ _ _ (heap_alloc_new w _)]
  simp [madeCells, hi, Nat.mod_one, u8]
theorem Zr.old {w w' : World} {g n : Nat} (h : Zr w g n) (k : Kept [] w w') : Zr w' g n := fun i hi => k.cell (h i hi) (by simp)
theorem Zr.rd {w : World} {g n : Nat} (h : Zr w g n) (m c : Nat) (hm : m ≤ n) (hc : m ≤ c) (hl : c ≤ 1000000) : Rd w (.slice (some ⟨g, 0, none⟩) m c) (List.replicate m 0) := by
  refine ⟨_, m, c, rfl, by simp, hc, ⟨by omega, by omega⟩, by simp, fun x hx => by simp at hx; omega, fun hp => ⟨g, 0, rfl, fun i hi => ?_⟩⟩
  rw [Nat.zero_add, h i (by omega)]
  simp [List.getD_eq_getElem?_getD, hi]
/-- Entries as they lie: each three cells. -/
def LieN (w : World) (g : Nat) (ts : List (En × Value × Value)) : Prop :=
  ∀ i (h : i < ts.length), w.cell? ⟨g, i * 3, none⟩ = some (.int .u8 (ts[i].1.k : Int)) ∧ w.cell? ⟨g, i * 3 + 1, none⟩ = some ts[i].2.1 ∧ w.cell? ⟨g, i * 3 + 2, none⟩ = some ts[i].2.2
theorem LieN.old {w w' : World} {g : Nat} {ts : List (En × Value × Value)} (h : LieN w g ts) (k : Kept [] w w') : LieN w' g ts := fun i hi => ⟨k.cell (h i hi).1 (by simp), k.cell (h i hi).2.1 (by simp), k.cell (h i hi).2.2 (by simp)⟩
theorem LieN.row {w : World} {g : Nat} {ts : List (En × Value × Value)} {cs : Array Value} {t : TypeId} {fr : Nat × Nat} (h : w.heap[g]? = some (.cells cs t fr)) (hc : cs = (cellsN ts).toArray) : LieN w g ts := fun i hi => by
  subst hc
  obtain ⟨h1, h2, h3⟩ := cellsN_get ts i hi
  rw [cell_of_row _ _ _ _ _ _ h, cell_of_row _ _ _ _ _ _ h, cell_of_row _ _ _ _ _ _ h, List.getElem?_toArray, List.getElem?_toArray, List.getElem?_toArray, show i * 3 = 3 * i by omega]
  exact ⟨h1, h2, h3⟩
theorem LieN.rdn {w : World} {g : Nat} {ts : List (En × Value × Value)} (h : LieN w g ts) (hok : ∀ t ∈ ts, OkE w t.1 t.2.1 t.2.2) (n cap : Nat) (hn : n ≤ ts.length) (hc : n ≤ cap) (hb : cap ≤ 1000000) : RdN w (.slice (some ⟨g, 0, none⟩) n cap) ((ts.take n).map (·.1)) := by
  have hl : ((ts.take n).map (·.1)).length = n := by simp; omega
  have he : ∀ i (hi : i < ((ts.take n).map (·.1)).length) (h2 : i < ts.length), ((ts.take n).map (·.1))[i] = ts[i].1 := fun i hi h2 => by
    rw [List.getElem_map, List.getElem_take]
  refine ⟨some ⟨g, 0, none⟩, n, cap, fun i => (ts.getD i (⟨0, [], []⟩, undef, undef)).2.1, fun i => (ts.getD i (⟨0, [], []⟩, undef, undef)).2.2, rfl, hl, hc, by omega, fun i hi => ?_, fun _ => ⟨g, 0, rfl, fun i hi => ?_⟩⟩
  · have h2 : i < ts.length := by omega
    have hg : ts.getD i (⟨0, [], []⟩, undef, undef) = ts[i] := by rw [List.getD_eq_getElem?_getD, List.getElem?_eq_getElem h2]; rfl
    simp only [hg]
    rw [he i hi h2]
    exact hok ts[i] (List.getElem_mem h2)
  · have h2 : i < ts.length := by omega
    have hg : ts.getD i (⟨0, [], []⟩, undef, undef) = ts[i] := by rw [List.getD_eq_getElem?_getD, List.getElem?_eq_getElem h2]; rfl
    simp only [hg]
    rw [he i hi h2]
    obtain ⟨q0, q1, q2⟩ := h i h2
    intro j v hv
    rw [Nat.zero_add]
    match j, hv with
    | 0, hv => simp [enC] at hv; subst hv; exact q0
    | 1, hv => simp [enC] at hv; subst hv; exact q1
    | 2, hv => simp [enC] at hv; subst hv; exact q2
    | j + 3, hv => simp [enC] at hv
/-- EntryFixed's rows. -/
def fxT (gk gv : Nat) : List (En × Value × Value) :=
  [(⟨1, List.replicate 64 0, List.replicate 256 0⟩, .slice (some ⟨gk, 0, none⟩) 64 65, .slice (some ⟨gv, 0, none⟩) 256 257), (⟨1, List.replicate 65 0, []⟩, .slice (some ⟨gk, 0, none⟩) 65 65, .slice none 0 0),
   (⟨1, [], List.replicate 257 0⟩, .slice none 0 0, .slice (some ⟨gv, 0, none⟩) 257 257), (⟨3, List.replicate 65 0, []⟩, .slice (some ⟨gk, 0, none⟩) 65 65, .slice none 0 0), (⟨0, [], []⟩, .slice none 0 0, .slice none 0 0),
   (⟨2, List.replicate 64 0, []⟩, .slice (some ⟨gk, 0, none⟩) 64 65, .slice none 0 0), (⟨2, [], List.replicate 1 0⟩, .slice none 0 0, .slice (some ⟨gv, 0, none⟩) 1 257), (⟨2, [], List.replicate 257 0⟩, .slice none 0 0, .slice (some ⟨gv, 0, none⟩) 257 257), (⟨1, [], []⟩, .slice none 0 0, .slice none 0 0)]
theorem fxT_ok {w : World} {gk gv : Nat} (hk : Zr w gk 65) (hv : Zr w gv 257) : ∀ t ∈ fxT gk gv, OkE w t.1 t.2.1 t.2.2 := by
  intro t ht
  unfold fxT at ht
  simp only [List.mem_cons, List.not_mem_nil, or_false] at ht
  rcases ht with rfl | rfl | rfl | rfl | rfl | rfl | rfl | rfl | rfl
  · exact ⟨by simp, hk.rd 64 65 (by omega) (by omega) (by omega), hv.rd 256 257 (by omega) (by omega) (by omega)⟩
  · exact ⟨by simp, hk.rd 65 65 (by omega) (by omega) (by omega), Rd.nil _⟩
  · exact ⟨by simp, Rd.nil _, hv.rd 257 257 (by omega) (by omega) (by omega)⟩
  · exact ⟨by simp, hk.rd 65 65 (by omega) (by omega) (by omega), Rd.nil _⟩
  · exact ⟨by simp, Rd.nil _, Rd.nil _⟩
  · exact ⟨by simp, hk.rd 64 65 (by omega) (by omega) (by omega), Rd.nil _⟩
  · exact ⟨by simp, Rd.nil _, hv.rd 1 257 (by omega) (by omega) (by omega)⟩
  · exact ⟨by simp, Rd.nil _, hv.rd 257 257 (by omega) (by omega) (by omega)⟩
  · exact ⟨by simp, Rd.nil _, Rd.nil _⟩
theorem chkE_rep (k a b : Nat) : chkE ⟨k, List.replicate a 0, List.replicate b 0⟩ = if 64 < a ∨ 256 < b then 2 else if (k ≠ 1 ∧ k ≠ 2) ∨ (k = 2 ∧ 0 < b) then 3 else 0 := by
  unfold chkE; simp only [List.length_replicate]
def fxW : List Nat := [0, 2, 2, 2, 3, 0, 3, 2, 0]
theorem fxT_chk (gk gv i : Nat) (h : i < (fxT gk gv).length) : chkE (fxT gk gv)[i].1 = fxW.getD i 0 := by
  have h9 : i < 9 := h
  match i, h9 with
  | 0, _ => exact (chkE_rep 1 64 256).trans (by decide)
  | 1, _ => exact (chkE_rep 1 65 0).trans (by decide)
  | 2, _ => exact (chkE_rep 1 0 257).trans (by decide)
  | 3, _ => exact (chkE_rep 3 65 0).trans (by decide)
  | 4, _ => exact (chkE_rep 0 0 0).trans (by decide)
  | 5, _ => exact (chkE_rep 2 64 0).trans (by decide)
  | 6, _ => exact (chkE_rep 2 0 1).trans (by decide)
  | 7, _ => exact (chkE_rep 2 0 257).trans (by decide)
  | 8, _ => exact (chkE_rep 1 0 0).trans (by decide)
/-- EntryFixed's first row. -/
def fx0 (gk gv : Nat) : En × Value × Value := (⟨1, List.replicate 64 0, List.replicate 256 0⟩, .slice (some ⟨gk, 0, none⟩) 64 65, .slice (some ⟨gv, 0, none⟩) 256 257)
theorem make_fx : ∃ C : Array Value, C.size = 195 ∧ ∀ w : World, (Instr.makeSlice 26 (.int .i64 65) (.int .i64 65)).run Try.prog w = .ok (.slice (some ⟨w.heap.size, 0, none⟩) 65 65) (w.alloc (.cells C 25)) := by
  obtain ⟨i0, hi, hz0, hz1, hz2⟩ := info_parts Try.infoN
  refine ⟨madeCells (Value.agg #[.int .u8 0, .slice none 0 0, .slice none 0 0]).cells 195, size_madeCells _ _, fun w => ?_⟩
  have h := run_make (P := Try.prog) w 26 25 i0 _ Try.underlying26 hi hz0 .i64 .i64 65 65 (by omega) (by omega) (by rw [hz2]; omega) (by omega)
  rw [hz1] at h
  exact h
theorem there_made {w : World} {C : Array Value} {n : Nat} {t : TypeId} (h : C.size = n) : (w.alloc (.cells C t)).there w.heap.size 0 n := fun j hj => by
  have hb := heap_alloc_new w (.cells C t)
  refine ⟨?_, by unfold World.frozen?; rw [hb]; simp⟩
  rw [Nat.zero_add, cell_of_row _ _ _ _ _ _ hb, Array.getElem?_eq_getElem (by omega)]
  rfl
theorem setCells_keptF {L : List Nat} {w0 : World} (b : Nat) (hb : b ∈ L ∨ w0.heap.size ≤ b) : ∀ (vs : List Value) (o : Nat) (w : World), Kept L w0 w → Kept L w0 (w.setCells b o vs)
  | [], _, _, h => h
  | v :: r, o, w, h => by rw [World.setCells]; exact setCells_keptF b hb r (o + 1) _ (h.setCell hb v)
theorem there_sub {w : World} {g i : Nat} (ht : w.there g 0 195) (hi : i < 65) : w.there g (i * 3) 3 := fun j hj => by
  have h9 := ht (i * 3 + j) (by omega)
  rw [Nat.zero_add] at h9
  exact h9
theorem LieN.step {w : World} {g i : Nat} {t : En × Value × Value} (h : LieN w g (List.replicate i t)) (ht : w.there g 0 195) (hi : i < 65) : LieN (w.setCells g (i * 3) [.int .u8 (t.1.k : Int), t.2.1, t.2.2]) g (List.replicate (i + 1) t) := fun j hj => by
  rw [List.getElem_replicate]
  rw [List.length_replicate] at hj
  have hs : ∀ m, m < 3 → (w.cell? ⟨g, i * 3 + m, none⟩).isSome = true := fun m hm => by have h9 := (ht (i * 3 + m) (by omega)).1; rw [Nat.zero_add] at h9; exact h9
  rcases Nat.lt_or_ge j i with h9 | h9
  · have h8 := h j (by rw [List.length_replicate]; exact h9)
    rw [List.getElem_replicate] at h8
    refine ⟨?_, ?_, ?_⟩
    · rw [World.cell?_setCells_out g _ _ _ _ (fun _ _ => Or.inl (by simp; omega))]; exact h8.1
    · rw [World.cell?_setCells_out g _ _ _ _ (fun _ _ => Or.inl (by simp; omega))]; exact h8.2.1
    · rw [World.cell?_setCells_out g _ _ _ _ (fun _ _ => Or.inl (by simp; omega))]; exact h8.2.2
  · obtain rfl : j = i := by omega
    have q := World.cell?_setCells_in g [.int .u8 (t.1.k : Int), t.2.1, t.2.2] (j * 3) w hs
    exact ⟨q 0 (by simp), q 1 (by simp), q 2 (by simp)⟩
end Go.Proofs.Ythampopakcdgnaa
