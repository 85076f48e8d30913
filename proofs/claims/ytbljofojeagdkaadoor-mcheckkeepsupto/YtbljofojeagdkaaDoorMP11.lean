import Derived.Test.YtbljofojeagdkaaDoorMP10
import Derived.Test.YtbljofojeagdkaaDoorMP7
import Derived.Test.YtbljofojeagdkaaDoorQMid
namespace Go.Proofs.YtbljofojeagdkaaDoor
open Go.RowKit Go.BigFrame
set_option linter.unusedVariables false
set_option linter.unusedSimpArgs false

theorem RdD.flat {w : World} {g : Nat} {ds : List (List Nat)} {t : TypeId} {fr : Nat × Nat} (h : w.heap[g]? = some (.cells (flatD ds).toArray t fr)) (hd : ∀ d ∈ ds, Dg d) (n : Nat) (hn : ds.length = n) (hs : n ≤ 1000000) : RdD w (.slice (some ⟨g, 0, none⟩) n n) ds := by
  subst hn
  refine ⟨_, _, _, rfl, rfl, Nat.le_refl _, by omega, hd, fun _ => ⟨g, 0, rfl, fun i hi => ?_⟩⟩
  intro j v hv
  have hj : j < 32 := by
    have := (List.getElem?_eq_some_iff.1 hv).1
    rw [List.length_map, List.getD_eq_getElem?_getD, List.getElem?_eq_getElem hi] at this
    rw [← (hd ds[i] (List.getElem_mem hi)).1]; exact this
  have hq := flatD_at (fun d hd' => (hd d hd').1) i hi j hj
  rw [Nat.zero_add, cell_of_row _ _ _ _ _ _ h, List.getElem?_toArray, hq]
  exact hv
theorem RdD.range {w : World} {ao : Option Addr} {n c : Nat} {ds : List (List Nat)} (h : RdD w (.slice ao n c) ds) (hp : 0 < ds.length) : ∃ b o, ao = some ⟨b, o, none⟩ ∧ ∀ i, i < ds.length → w.rangeAt b (o + i * 32) ((ds.getD i []).map u8) := by
  obtain ⟨_, _, _, e, h1, h2, h3, h4, h5⟩ := h
  cases e
  obtain ⟨b, o, e, hc⟩ := h5 (by omega)
  exact ⟨b, o, e, fun i hi => hc i (by omega)⟩

def e1 : List Nat := 1 :: List.replicate 31 0
def e2 : List Nat := 2 :: List.replicate 31 0
def e3 : List Nat := 3 :: List.replicate 31 0
theorem e_dg : ∀ d ∈ [e1, e2, e3], Dg d := by
  intro d hd
  simp only [List.mem_cons, List.not_mem_nil, or_false] at hd
  rcases hd with rfl | rfl | rfl <;> exact ⟨rfl, by decide⟩
theorem e_cut : [e1, e2, e3].map (cutL 4) = [e1, e2, e3] := by decide +kernel
theorem e_path : pathF 2 64 0 3 = [(0, 2)] := by decide +kernel
theorem e_seam : smL 1 3 = [(1, 2), (2, 3)] := by decide +kernel
theorem e_in : inD 4 [e1, e2, e3] 2 3 = [nodS 4 e1 e2] := by
  unfold inD
  rw [if_neg (by decide), e_path]
  unfold rgL
  rw [List.map_cons, List.map_nil]
  unfold rgD
  rw [if_neg (by decide), rngD_cut (by decide) (by decide)]
  rfl
theorem e_cs : csD 4 [e1, e2, e3] 1 3 = [e2, e3] := by
  unfold csD
  rw [if_neg (by decide), e_seam]
  rfl

end Go.Proofs.YtbljofojeagdkaaDoor
