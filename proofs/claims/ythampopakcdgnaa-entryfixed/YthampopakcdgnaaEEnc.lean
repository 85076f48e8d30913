import Derived.Test.YthampopakcdgnaaECheck
import Derived.Test.YthampopakcdgnaaWNew
namespace Go.Proofs.Ythampopakcdgnaa
open Go.RowKit Go.BigFrame
set_option linter.unusedVariables false
set_option linter.unusedSimpArgs false

theorem Wn.pass {w0 w w' : World} {b : Nat} {v : Value} {bs : List Nat} (h : Wn w0 w b v bs) (k : Kept [] w w') : Wn w0 w' b v bs :=
  ⟨h.at_.kept k (by simp) (by simp), h.new, h.hb, h.kept.trans k (by simp)⟩
theorem Wn.notNew {w0 w : World} {b : Nat} {v : Value} {bs : List Nat} (h : Wn w0 w b v bs) : w.heap.size ∉ b :: v.ownBlock.toList := by
  intro hx
  rcases List.mem_cons.1 hx with hx | hx
  · have := h.at_.lt; omega
  · have := h.at_.ownlt (g := w.heap.size) (by simpa [Option.mem_toList] using hx); omega
theorem alloc_at (w : World) (a : Obj) (b : Obj) : ((w.alloc a).alloc b).heap[w.heap.size + 1]? = some b := by
  have h9 := heap_alloc_new (w.alloc a) b
  have e : (w.alloc a).heap.size = w.heap.size + 1 := Array.size_push _
  rw [e] at h9
  exact h9

set_option maxRecDepth 100000 in
set_option maxHeartbeats 1000000 in
theorem layEntry_any {w0 w : World} {b : Nat} {v : Value} {bs : List Nat} (e : En) (kv vv : Value) (h : Wn w0 w b v bs) (he : OkE w0 e kv vv) (hl : bs.length + e.key.length + e.val.length ≤ 1000000000000) :
    Calls Try.prog 18 #[.pointer (some ⟨b, 0, none⟩), .agg (enC e kv vv)] w fun r w' => r = .returned (.tuple #[]) ∧ ∃ v', Wn w0 w' b v' (bs ++ enB e) := by
  have HW := hide h
  have HE := hide he
  have hk := he.k
  obtain ⟨a1, n1, c1, rfl, hn1, _⟩ := id he.key
  obtain ⟨a2, n2, c2, rfl, hn2, _⟩ := id he.val
  obtain ⟨k, key, val⟩ := e
  simp only at hn1 hn2 hk hl
  subst hn1
  subst hn2
  clear h he
  unfold enC
  have HG := hide (heap_alloc_new w (.cells #[.int .u8 (k : Int), .slice a1 key.length c1, .slice a2 val.length c2] 25))
  have HWW := hide ((unhide HW).pass ((Kept.refl [] w).alloc (.cells #[.int .u8 (k : Int), .slice a1 key.length c1, .slice a2 val.length c2] 25)))
  have HNN := hide (unhide HW).notNew
  go_enter Try.func18, Try.ntmps18
  go_wp2_with fail
  obtain ⟨W, hW⟩ : ∃ W, w.alloc (.cells #[.int .u8 (k : Int), .slice a1 key.length c1, .slice a2 val.length c2] 25) = W := ⟨_, rfl⟩
  rw [hW] at HG HWW ⊢
  clear hW
  have HC0 := hide (by rw [cell_of_row _ _ _ _ _ _ (unhide HG)]; rfl : W.cell? ⟨w.heap.size, 0, none⟩ = some (.int .u8 (k : Int)))
  have HC1 := hide (by rw [cell_of_row _ _ _ _ _ _ (unhide HG)]; rfl : W.cell? ⟨w.heap.size, 1, none⟩ = some (.slice a1 key.length c1))
  have HC2 := hide (by rw [cell_of_row _ _ _ _ _ _ (unhide HG)]; rfl : W.cell? ⟨w.heap.size, 2, none⟩ = some (.slice a2 val.length c2))
  refine Calls.mono (wu8_any b v bs k W (unhide HWW).at_ hk (by omega)) ?_
  rintro r w1 ⟨rfl, v1, h1, g1⟩
  have d0 := g1.kept.cell (unhide HC0) (unhide HNN)
  have d1 := g1.kept.cell (unhide HC1) (unhide HNN)
  have HW1 := hide ((unhide HWW).grew h1 g1)
  have HG1 := hide g1
  rw [show bs ++ wide k 1 = bs ++ [k] by simp [wide, Nat.mod_eq_of_lt hk]] at HW1
  clear h1 g1
  have HU1 := hide (uv_len key.length (by omega))
  have HU2 := hide (uv_len val.length (by omega))
  go_wp2_with fail
  refine Calls.mono (wblob_any b v1 _ (bs ++ [k]) key w1 (unhide HW1).at_ (fun w' kk => (unhide HW1).rd (unhide HE).key kk) (by simp only [List.length_append, List.length_cons, List.length_nil]; omega)) ?_
  rintro r w2 ⟨rfl, v2, h2, g2⟩
  have g12 := (unhide HG1).trans g2
  have q0 := g12.kept.cell (unhide HC0) (unhide HNN)
  have q2 := g12.kept.cell (unhide HC2) (unhide HNN)
  have HW2 := hide ((unhide HW1).grew h2 g2)
  clear h2 g2 g12 d0 d1
  by_cases hk1 : k = 1
  · have e1 : ((k : Int) == 1) = true := by rw [hk1]; rfl
    have HB := hide (by simp [enB, hk1] : enB ⟨k, key, val⟩ = k :: (uv key.length ++ key ++ (uv val.length ++ val)))
    clear hk1
    go_wp2_with fail
    refine Calls.mono (wn_blob (unhide HW2) (unhide HE).val (by have := unhide HU1; have := unhide HU2; simp only [List.length_append, List.length_cons, List.length_nil]; omega)) ?_
    rintro r w3 ⟨rfl, v3, h3⟩
    have HW3 := hide h3
    clear h3
    go_wp2
    go_end0
    refine ⟨rfl, v3, ?_⟩
    rw [unhide HB]
    have h9 := unhide HW3
    simpa only [List.append_assoc, List.cons_append, List.nil_append] using h9
  · have e1 : ((k : Int) == 1) = false := by rw [beq_eq_false_iff_ne]; omega
    have HB := hide (by simp [enB, hk1] : enB ⟨k, key, val⟩ = k :: (uv key.length ++ key))
    clear hk1
    go_wp2
    go_end0
    refine ⟨rfl, v2, ?_⟩
    rw [unhide HB]
    have h9 := unhide HW2
    simpa only [List.append_assoc, List.cons_append, List.nil_append] using h9

set_option maxRecDepth 100000 in
set_option maxHeartbeats 1000000 in
theorem eencode_any (e : En) (kv vv : Value) (w : World) (h : OkE w e kv vv) :
    Calls Try.prog 11 #[.agg (enC e kv vv)] w fun r w' => ∃ v', r = .returned (.tuple #[v', .int .i64 (chkE e)]) ∧ NewB w w' v' (if chkE e = 0 then enB e else []) ∧ Kept [] w w' := by
  have H := hide h
  have HLE := hide (by intro h0; unfold chkE at h0; split at h0; omega; omega : chkE e = 0 → e.key.length ≤ 64 ∧ e.val.length ≤ 256)
  obtain ⟨E, hE⟩ : ∃ E, chkE e = E := ⟨_, rfl⟩
  rw [hE] at HLE ⊢
  have HE := hide hE
  clear hE
  obtain ⟨B, hB⟩ : ∃ B, (if E = 0 then enB e else []) = B := ⟨_, rfl⟩
  rw [hB]
  have HB := hide hB
  clear hB
  have HK0 := hide ((Kept.refl [] w).alloc (.cells (enC e kv vv) 25))
  have HG0 := hide (heap_alloc_new w (.cells (enC e kv vv) 25))
  have HSZ := hide (by unfold enC; kernel_rfl : (Try.prog.info? 25).map (·.size) = some (enC e kv vv).size)
  generalize hA : enC e kv vv = A at *
  have HA := hide hA
  clear hA h
  go_enter Try.func11, Try.ntmps11
  go_wp2_with (refine wpList_load_row rfl 25 _ rfl w.heap.size rfl _ A (0, 0) _ (unhide HG0) Try.underlying25 rfl (unhide HSZ) ?_)
  have hc := check_any e kv vv (w.alloc (.cells A 25)) ((unhide H).old (unhide HK0))
  rw [unhide HA, unhide HE] at hc
  refine Calls.mono hc ?_
  clear hc
  rintro r w1 ⟨rfl, k1⟩
  have HG1 := hide (k1.heap (unhide HG0) (by simp))
  have HK1 := hide ((unhide HK0).trans k1 (by simp))
  clear k1
  by_cases h0 : E = 0
  · have hb0 : ((E : Int) != 0) = false := by rw [h0]; rfl
    have hle := unhide HLE h0
    have HB2 := hide (by rw [← unhide HB, if_pos h0] : B = enB e)
    have H0 := hide h0
    clear h0
    have HW0 := hide (Wn.start (Kept.refl [] w1))
    have HG2 := hide (((Kept.refl [] w1).alloc (.cells #[.slice none 0 0] 53)).heap (unhide HG1) (by simp))
    go_wp2_with (refine wpList_load_row rfl 25 _ rfl w.heap.size rfl _ A (0, 0) _ (unhide HG2) Try.underlying25 rfl (unhide HSZ) ?_)
    have hc := layEntry_any e kv vv (unhide HW0) ((unhide H).old (unhide HK1)) (by simp only [List.length_nil]; omega)
    rw [unhide HA] at hc
    refine Calls.mono hc ?_
    clear hc
    rintro r w2 ⟨rfl, v2, h2⟩
    rw [List.nil_append, ← unhide HB2] at h2
    have HW2 := hide h2
    have HBL := hide (by rw [unhide HB2]; unfold enB; have := uv_len e.key.length (by omega); have := uv_len e.val.length (by omega); split <;> simp only [List.length_append, List.length_cons, List.length_nil] <;> omega : B.length ≤ 1000)
    clear h2
    go_wp2_with fail
    refine Calls.mono (wn_bytes (unhide HW2) (by have := unhide HBL; omega)) ?_
    rintro r w3 ⟨v3, rfl, h3, k3⟩
    have H3 := hide h3
    have HK3 := hide ((unhide HK1).trans k3 (by simp))
    clear h3 k3
    go_wp2
    go_ret2
    exact ⟨_, by rw [unhide H0]; rfl, (unhide H3).weak (unhide HK1).size, unhide HK3⟩
  · have hb0 : ((E : Int) != 0) = true := by rw [bne_iff_ne]; omega
    have HB2 := hide (by rw [← unhide HB, if_neg h0] : B = [])
    clear h0
    go_wp2
    go_ret2
    exact ⟨_, rfl, by rw [unhide HB2]; exact NewB.nil _ _, unhide HK1⟩
end Go.Proofs.Ythampopakcdgnaa
