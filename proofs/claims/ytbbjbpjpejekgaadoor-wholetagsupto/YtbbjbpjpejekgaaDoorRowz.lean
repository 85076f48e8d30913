import Derived.Test.YtbbjbpjpejekgaaDoorCat
import Derived.Test.YtbbjbpjpejekgaaDoorSha
namespace Go.Proofs.YtbbjbpjpejekgaaDoor
open Go.RowKit
set_option linter.unusedVariables false
set_option linter.unusedSimpArgs false

abbrev wv (n : Nat) : Value := .int .u32 (n : Int)
theorem Kept.setRow {L : List Nat} {a w : World} (h : Kept L a w) {g : Nat} (hg : g ∈ L ∨ a.heap.size ≤ g) (cs : Array Value) : Kept L a (w.setRow g cs) :=
  h.trans (M := [g]) ⟨rfl, rfl, rfl, by simp [World.setRow], fun k _ hn => setRow_other w g k _ (by simpa using hn)⟩ (by simpa using hg)
/-- A row of words; a row of bytes. -/
def row (ms : List Nat) : Array Value := (ms.map wv).toArray
def brow (bs : List Nat) : Array Value := (bs.map u8).toArray
theorem row_size (ms : List Nat) : (row ms).size = ms.length := by simp [row]
theorem brow_size (ms : List Nat) : (brow ms).size = ms.length := by simp [brow]
theorem row_set (ms : List Nat) (k v : Nat) : (row ms).setIfInBounds k (wv v) = row (ms.set k v) := by unfold row; rw [List.map_set]; simp
theorem brow_set (ms : List Nat) (k v : Nat) : (brow ms).setIfInBounds k (u8 v) = brow (ms.set k v) := by unfold brow; rw [List.map_set]; simp
theorem row_get (ms : List Nat) (k : Nat) (h : k < ms.length) : (row ms)[k]? = some (wv (ms.getD k 0)) := by
  simp [row, List.getD_eq_getElem?_getD, List.getElem?_eq_getElem h]
theorem brow_get (ms : List Nat) (k : Nat) (h : k < ms.length) : (brow ms)[k]? = some (u8 (ms.getD k 0)) := by
  simp [brow, List.getD_eq_getElem?_getD, List.getElem?_eq_getElem h]
theorem row_one (ms : List Nat) : (row ms).all (·.oneCell') = true := by
  rw [Array.all_eq_true_iff_forall_mem]; intro v hv; simp [row] at hv; obtain ⟨x, _, rfl⟩ := hv; rfl
theorem brow_one (ms : List Nat) : (brow ms).all (·.oneCell') = true := by
  rw [Array.all_eq_true_iff_forall_mem]; intro v hv; simp [brow] at hv; obtain ⟨x, _, rfl⟩ := hv; rfl
theorem getD_set_same (ms : List Nat) (k v : Nat) (h : k < ms.length) : (ms.set k v).getD k 0 = v := by simp [List.getD_eq_getElem?_getD, h]
theorem getD_set_other (ms : List Nat) (k j v : Nat) (h : j ≠ k) : (ms.set k v).getD j 0 = ms.getD j 0 := by
  simp [List.getD_eq_getElem?_getD, List.getElem?_set, Ne.symm h]
theorem heap_alloc3 (w : World) (A B C : Obj) : (((w.alloc A).alloc B).alloc C).heap[w.heap.size]? = some A ∧ (((w.alloc A).alloc B).alloc C).heap[w.heap.size + 1]? = some B ∧ (((w.alloc A).alloc B).alloc C).heap[w.heap.size + 1 + 1]? = some C := by
  have s1 : (w.alloc A).heap.size = w.heap.size + 1 := by simp
  have s2 : ((w.alloc A).alloc B).heap.size = w.heap.size + 1 + 1 := by simp
  refine ⟨?_, ?_, ?_⟩
  · rw [heap_alloc_old]
    · exact heap_alloc2_old _ _ _
    · omega
  · rw [heap_alloc_old]
    · exact heap_alloc2_new _ _ _
    · omega
  · rw [← s2]; exact heap_alloc_new _ _
theorem row_cell {w : World} {g : Nat} {ms : List Nat} {t : TypeId} {fr : Nat × Nat} (h : w.heap[g]? = some (.cells (row ms) t fr)) (k : Nat) (hk : k < ms.length) : w.cell? ⟨g, k, none⟩ = some (wv (ms.getD k 0)) := by
  rw [cell_of_row _ _ _ _ _ _ h, row_get _ _ hk]
theorem brow_cell {w : World} {g : Nat} {ms : List Nat} {t : TypeId} {fr : Nat × Nat} (h : w.heap[g]? = some (.cells (brow ms) t fr)) (k : Nat) (hk : k < ms.length) : w.cell? ⟨g, k, none⟩ = some (u8 (ms.getD k 0)) := by
  rw [cell_of_row _ _ _ _ _ _ h, brow_get _ _ hk]

theorem Tryd.size_a8 : (Tryd.prog.info? 114).map (·.size) = some 8 := by kernel_rfl

theorem Tryd.size_a64b : (Tryd.prog.info? 115).map (·.size) = some 64 := by kernel_rfl

theorem Tryd.size_a64w : (Tryd.prog.info? 124).map (·.size) = some 64 := by kernel_rfl

theorem Tryd.size_a32b : (Tryd.prog.info? 25).map (·.size) = some 32 := by kernel_rfl

def zw (n : Nat) : Array Value := row (List.replicate n 0)
def zb (n : Nat) : Array Value := brow (List.replicate n 0)
theorem zw_size (n : Nat) : (zw n).size = n := by simp [zw, row]
theorem zb_size (n : Nat) : (zb n).size = n := by simp [zb, brow]
theorem zw8 : (#[.int .u32 0, .int .u32 0, .int .u32 0, .int .u32 0, .int .u32 0, .int .u32 0, .int .u32 0, .int .u32 0] : Array Value) = zw 8 := rfl
theorem zw64 : (#[.int .u32 0, .int .u32 0, .int .u32 0, .int .u32 0, .int .u32 0, .int .u32 0, .int .u32 0, .int .u32 0, .int .u32 0, .int .u32 0, .int .u32 0, .int .u32 0, .int .u32 0, .int .u32 0, .int .u32 0, .int .u32 0, .int .u32 0, .int .u32 0, .int .u32 0, .int .u32 0, .int .u32 0, .int .u32 0, .int .u32 0, .int .u32 0, .int .u32 0, .int .u32 0, .int .u32 0, .int .u32 0, .int .u32 0, .int .u32 0, .int .u32 0, .int .u32 0, .int .u32 0, .int .u32 0, .int .u32 0, .int .u32 0, .int .u32 0, .int .u32 0, .int .u32 0, .int .u32 0, .int .u32 0, .int .u32 0, .int .u32 0, .int .u32 0, .int .u32 0, .int .u32 0, .int .u32 0, .int .u32 0, .int .u32 0, .int .u32 0, .int .u32 0, .int .u32 0, .int .u32 0, .int .u32 0, .int .u32 0, .int .u32 0, .int .u32 0, .int .u32 0, .int .u32 0, .int .u32 0, .int .u32 0, .int .u32 0, .int .u32 0, .int .u32 0] : Array Value) = zw 64 := rfl
theorem zb32 : (#[.int .u8 0, .int .u8 0, .int .u8 0, .int .u8 0, .int .u8 0, .int .u8 0, .int .u8 0, .int .u8 0, .int .u8 0, .int .u8 0, .int .u8 0, .int .u8 0, .int .u8 0, .int .u8 0, .int .u8 0, .int .u8 0, .int .u8 0, .int .u8 0, .int .u8 0, .int .u8 0, .int .u8 0, .int .u8 0, .int .u8 0, .int .u8 0, .int .u8 0, .int .u8 0, .int .u8 0, .int .u8 0, .int .u8 0, .int .u8 0, .int .u8 0, .int .u8 0] : Array Value) = zb 32 := rfl
theorem zb64 : (#[.int .u8 0, .int .u8 0, .int .u8 0, .int .u8 0, .int .u8 0, .int .u8 0, .int .u8 0, .int .u8 0, .int .u8 0, .int .u8 0, .int .u8 0, .int .u8 0, .int .u8 0, .int .u8 0, .int .u8 0, .int .u8 0, .int .u8 0, .int .u8 0, .int .u8 0, .int .u8 0, .int .u8 0, .int .u8 0, .int .u8 0, .int .u8 0, .int .u8 0, .int .u8 0, .int .u8 0, .int .u8 0, .int .u8 0, .int .u8 0, .int .u8 0, .int .u8 0, .int .u8 0, .int .u8 0, .int .u8 0, .int .u8 0, .int .u8 0, .int .u8 0, .int .u8 0, .int .u8 0, .int .u8 0, .int .u8 0, .int .u8 0, .int .u8 0, .int .u8 0, .int .u8 0, .int .u8 0, .int .u8 0, .int .u8 0, .int .u8 0, .int .u8 0, .int .u8 0, .int .u8 0, .int .u8 0, .int .u8 0, .int .u8 0, .int .u8 0, .int .u8 0, .int .u8 0, .int .u8 0, .int .u8 0, .int .u8 0, .int .u8 0, .int .u8 0] : Array Value) = zb 64 := rfl

end Go.Proofs.YtbbjbpjpejekgaaDoor
