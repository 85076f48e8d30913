import Derived.Test.YtckkalmhekfnhabGreatDoorECheck
import Derived.Test.YtckkalmhekfnhabGreatDoorWNew
namespace Go.Proofs.YtckkalmhekfnhabGreatDoor
open Go.RowKit Go.BigFrame
set_option linter.unusedVariables false
set_option linter.unusedSimpArgs false

theorem Wn.pass {w0 w w' : World} {b : Nat} {v : Value} {bs : List Nat} (h : Wn w0 w b v bs) (k : Kept [] w w') : Wn w0 w' b v bs :=
  ⟨h.at_.kept k (by simp) (by simp), h.new, h.hb, h.kept.trans k (by simp)⟩
theorem Wn.notNew {w0 w : World} {b : Nat} {v : Value} {bs : List Nat} (h : Wn w0 w b v bs) : w.heap.size ∉ b :: v.ownBlock.toList := by
  intro hx
  rcases List.mem_cons.1 hx with hx | hx
  · have := h.at_.lt; omega
  · have := h.at_.ownlt (g := w.heap.size) (by simpa [Option.mem_toList] using hx); omega
theorem alloc_at (w : World) (a : Obj) (b : Obj) : ((w.alloc a).alloc b).heap[w.heap.size + 1]? = some b := by
  have h9 := heap_alloc_new (w.alloc a) b
  have e : (w.alloc a).heap.size = w.heap.size + 1 := Array.size_push _
  rw [e] at h9
  exact h9

set_option maxRecDepth 100000 in
set_option maxHeartbeats 1000000 in
theorem layEntry_any {w0 w : World} {b : Nat} {v : Value} {bs : List Nat} (e : En) (kv vv : Value) (h : Wn w0 w b v bs) (he : OkE w0 e kv vv) (hl : bs.length + e.key.length + e.val.length ≤ 1000000000000) :
    Calls Tryz.prog 68 #[.pointer (some ⟨b, 0, none⟩), .agg (enC e kv vv)] w fun r w' => r = .returned (.tuple #[]) ∧ ∃ v', Wn w0 w' b v' (bs ++ enB e) := by
  have HW := hide h
  have HE := hide he
  have hk := he.k
  obtain ⟨a1, n1, c1, rfl, hn1, _⟩ := id he.key
  obtain ⟨a2, n2, c2, rfl, hn2, _⟩ := id he.val
  obtain ⟨k, key, val⟩ := e
  simp only at hn1 hn2 hk hl
  subst hn1
  subst hn2
  clear h he
  unfold enC
  have HG := hide (heap_alloc_new w (.cells #[.int .u8 (k : Int), .slice a1 key.length c1, .slice a2 val.length c2] 44))
  have HWW := hide ((unhide HW).pass ((Kept.refl [] w).alloc (.cells #[.int .u8 (k : Int), .slice a1 key.length c1, .slice a2 val.length c2] 44)))
  have HNN := hide (unhide HW).notNew
  go_enter Tryz.func68, Tryz.ntmps68
  go_wp2_with fail
  obtain ⟨W, hW⟩ : ∃ W, w.alloc (.cells #[.int .u8 (k : Int), .slice a1 key.length c1, .slice a2 val.length c2] 44) = W := ⟨_, rfl⟩
  rw [hW] at HG HWW ⊢
  clear hW
  have HC0 := hide (by rw [cell_of_row _ _ _ _ _ _ (unhide HG)]; rfl : W.cell? ⟨w.heap.size, 0, none⟩ = some (.int .u8 (k : Int)))
  have HC1 := hide (by rw [cell_of_row _ _ _ _ _ _ (unhide HG)]; rfl : W.cell? ⟨w.heap.size, 1, none⟩ = some (.slice a1 key.length c1))
  have HC2 := hide (by rw [cell_of_row _ _ _ _ _ _ (unhide HG)]; rfl : W.cell? ⟨w.heap.size, 2, none⟩ = some (.slice a2 val.length c2))
  refine Calls.mono (wu8_any b v bs k W (unhide HWW).at_ hk (by omega)) ?_
  rintro r w1 ⟨rfl, v1, h1, g1⟩
  have d0 := g1.kept.cell (unhide HC0) (unhide HNN)
  have d1 := g1.kept.cell (unhide HC1) (unhide HNN)
  have HW1 := hide ((unhide HWW).grew h1 g1)
  have HG1 := hide g1
  rw [show bs ++ wide k 1 = bs ++ [k] by simp [wide, Nat.mod_eq_of_lt hk]] at HW1
  clear h1 g1
  have HU1 := hide (uv_len key.length (by omega))
  have HU2 := hide (uv_len val.length (by omega))
  go_wp2_with fail
  refine Calls.mono (wblob_any b v1 _ (bs ++ [k]) key w1 (unhide HW1).at_ (fun w' kk => (unhide HW1).rd (unhide HE).key kk) (by simp only [List.length_append, List.length_cons, List.length_nil]; omega)) ?_
  rintro r w2 ⟨rfl, v2, h2, g2⟩
  have g12 := (unhide HG1).trans g2
  have q0 := g12.kept.cell (unhide HC0) (unhide HNN)
  have q2 := g12.kept.cell (unhide HC2) (unhide HNN)
  have HW2 := hide ((unhide HW1).grew h2 g2)
  clear h2 g2 g12 d0 d1
  by_cases hk1 : k = 1
  · have e1 : ((k : Int) == 1) = true := by rw [hk1]; rfl
    have HB := hide (by simp [enB, hk1] : enB ⟨k, key, val⟩ = k :: (uv key.length ++ key ++ (uv val.length ++ val)))
    clear hk1
    go_wp2_with fail
    refine Calls.mono (wn_blob (unhide HW2) (unhide HE).val (by have := unhide HU1; have := unhide HU2; simp only [List.length_append, List.length_cons, List.length_nil]; omega)) ?_
    rintro r w3 ⟨rfl, v3, h3⟩
    have HW3 := hide h3
    clear h3
    go_wp2
    go_end0
    refine ⟨rfl, v3, ?_⟩
    rw [unhide HB]
    have h9 := unhide HW3
    simpa only [List.append_assoc, List.cons_append, List.nil_append] using h9
  · have e1 : ((k : Int) == 1) = false := by rw [beq_eq_false_iff_ne]; omega
    have HB := hide (by simp [enB, hk1] : enB ⟨k, key, val⟩ = k :: (uv key.length ++ key))
    clear hk1
    go_wp2
    go_end0
    refine ⟨rfl, v2, ?_⟩
    rw [unhide HB]
    have h9 := unhide HW2
    simpa only [List.append_assoc, List.cons_append, List.nil_append] using h9

end Go.Proofs.YtckkalmhekfnhabGreatDoor
