import Derived.Test.YtckkalmhekfnhabGreatDoorEBat
namespace Go.Proofs.YtckkalmhekfnhabGreatDoor
open Go.RowKit Go.BigFrame
set_option linter.unusedVariables false
set_option linter.unusedSimpArgs false

theorem leastE_zero {a b : Nat} (h : leastE a b = 0) : a = 0 ∧ b = 0 := by
  unfold leastE at h
  split at h
  · rename_i h1; rcases h1 with h1 | h1
    · exact ⟨h1, h⟩
    · omega
  · rename_i h1; omega
theorem foldl_zero (es : List En) : ∀ z, es.foldl (fun a e => leastE a (chkE e)) z = 0 → z = 0 ∧ ∀ e ∈ es, chkE e = 0 := by
  induction es with
  | nil => intro z h; exact ⟨h, by simp⟩
  | cons x xs ih =>
    intro z h
    obtain ⟨h1, h2⟩ := ih _ h
    obtain ⟨h3, h4⟩ := leastE_zero h1
    refine ⟨h3, fun e he => ?_⟩
    rcases List.mem_cons.1 he with rfl | he
    · exact h4
    · exact h2 e he
theorem chkB_zero {f : Nat} {es : List En} (h : chkB f es = 0) : es.length ≤ 64 ∧ 0 < es.length ∧ f + es.length ≤ 18446744073709551615 ∧ ∀ e ∈ es, chkE e = 0 := by
  obtain ⟨h1, h2⟩ := foldl_zero es _ h
  unfold cntE at h1
  split at h1
  · omega
  · split at h1
    · omega
    · rename_i h3 h4; exact ⟨by omega, by omega, by omega, h2⟩
theorem chkE_zero {e : En} (h : chkE e = 0) : e.key.length ≤ 64 ∧ e.val.length ≤ 256 ∧ (e.k = 1 ∨ e.k = 2) ∧ (e.k = 2 → e.val = []) := by
  unfold chkE at h
  split at h
  · omega
  · split at h
    · omega
    · rename_i h1 h2
      refine ⟨by omega, by omega, by omega, fun h3 => List.eq_nil_of_length_eq_zero (by omega)⟩
theorem enB_len {e : En} (h : chkE e = 0) : (enB e).length ≤ 400 := by
  obtain ⟨h1, h2, _⟩ := chkE_zero h
  have := uv_len e.key.length (by omega)
  have := uv_len e.val.length (by omega)
  unfold enB
  split <;> simp only [List.length_append, List.length_cons, List.length_nil] <;> omega
theorem entB_snoc (es : List En) (i : Nat) (h : i < es.length) : entB (es.take (i + 1)) = entB (es.take i) ++ enB es[i] := by
  unfold entB
  rw [List.take_succ_eq_append_getElem h, List.map_append, List.flatten_append]; simp
theorem entB_len (es : List En) (h : ∀ e ∈ es, chkE e = 0) : (entB es).length ≤ 400 * es.length := by
  induction es with
  | nil => simp [entB]
  | cons x xs ih =>
    have h1 := enB_len (h x (by simp))
    have h2 := ih (fun e he => h e (by simp [he]))
    have e : entB (x :: xs) = enB x ++ entB xs := by simp [entB]
    rw [e, List.length_append, List.length_cons]; omega

set_option maxRecDepth 100000 in
set_option maxHeartbeats 2000000 in
theorem encodeBatch_any (f : Nat) (v : Value) (es : List En) (w : World) (hf : f < 18446744073709551616) (h : RdN w v es) :
    Calls Tryz.prog 35 #[.agg #[.int .u64 f, v]] w fun r w' => ∃ v', r = .returned (.tuple #[v', .int .i64 (chkB f es)]) ∧ NewB w w' v' (if chkB f es = 0 then batB f es else []) ∧ Kept [] w w' := by
  have H := hide h
  have HLE := hide (fun h0 : chkB f es = 0 => chkB_zero h0)
  obtain ⟨E, hE⟩ : ∃ E, chkB f es = E := ⟨_, rfl⟩
  rw [hE] at HLE ⊢
  have HE := hide hE
  clear hE
  obtain ⟨B, hB⟩ : ∃ B, (if E = 0 then batB f es else []) = B := ⟨_, rfl⟩
  rw [hB]
  have HB := hide hB
  clear hB
  obtain ⟨ao, len, cap, kv, vv, rfl, h1, h2, h3, h4, h5⟩ := h
  have H4 := hide h4
  have H5 := hide h5
  clear h4 h5
  subst h1
  have HK0 := hide ((Kept.refl [] w).alloc (.cells #[.int .u64 (f : Int), .slice ao es.length cap] 37))
  have HG0 := hide (heap_alloc_new w (.cells #[.int .u64 (f : Int), .slice ao es.length cap] 37))
  go_enter Tryz.func35, Tryz.ntmps35
  go_wp2_with fail
  have hc := checkBatch_any f (.slice ao es.length cap) es _ hf ((unhide H).old (unhide HK0))
  rw [unhide HE] at hc
  refine Calls.mono hc ?_
  clear hc
  rintro r w1 ⟨rfl, k1⟩
  have HG1 := hide (k1.heap (unhide HG0) (by simp))
  have HK1 := hide ((unhide HK0).trans k1 (by simp))
  clear k1
  by_cases h0 : E = 0
  · have hb0 : ((E : Int) != 0) = false := by rw [h0]; rfl
    obtain ⟨hl1, hl2, hl3, hl4⟩ := unhide HLE h0
    have HL4 := hide hl4
    have HB2 := hide (by rw [← unhide HB, if_pos h0] : B = batB f es)
    have H0 := hide h0
    clear h0 hl4
    have HW0 := hide (Wn.start (Kept.refl [] w1))
    have q0 : ∀ ob, (w1.alloc ob).cell? ⟨w.heap.size, 0, none⟩ = some (.int .u64 (f : Int)) := fun ob => ((Kept.refl [] w1).alloc ob).cell (by rw [cell_of_row _ _ _ _ _ _ (unhide HG1)]; rfl) (by simp)
    go_wp2_with fail
    refine Calls.mono (wn_uvar f (unhide HW0) hf (by simp)) ?_
    rintro r w2 ⟨rfl, v2, h2'⟩
    rw [List.nil_append] at h2'
    have q1 := h2'.kept.cell (by rw [cell_of_row _ _ _ _ _ _ (unhide HG1)]; rfl : w1.cell? ⟨w.heap.size, 1, none⟩ = some (.slice ao es.length cap)) (by simp)
    have HW2 := hide h2'
    clear h2' HW0 q0
    have HU1 := hide (uv_len f hf)
    have HU2 := hide (uv_len es.length (by omega))
    go_wp2_with fail
    refine Calls.mono (wn_uvar es.length (unhide HW2) (by omega) (by have := unhide HU1; omega)) ?_
    rintro r w3 ⟨rfl, v3, h3'⟩
    have q2 := h3'.kept.cell (by rw [cell_of_row _ _ _ _ _ _ (unhide HG1)]; rfl : w1.cell? ⟨w.heap.size, 1, none⟩ = some (.slice ao es.length cap)) (by simp)
    have HW3 := hide h3'
    clear h3' HW2 q1
    go_wp2_with fail
    go_loopw [24] (fun t12 wr => ∃ (i : Nat) (vw : Value), i ≤ es.length ∧ t12 = .int .i64 i ∧ Hid (Wn w1 wr w1.heap.size vw (uv f ++ uv es.length ++ entB (es.take i)))) (fun t _ => es.length - (intOf t).toNat)
    case atStart => exact ⟨0, v3, Nat.zero_le _, rfl, by simpa [entB] using HW3⟩
    case round =>
      obtain ⟨i, vw, hi, rfl, HW⟩ := hrel
      have HLI := hide (by have h9 := entB_len (es.take i) (fun e he => unhide HL4 e (List.mem_of_mem_take he)); rw [List.length_take] at h9; omega : (entB (es.take i)).length ≤ 25600)
      by_cases hlt : i < es.length
      · have hlt' : (i : Int) < es.length := by omega
        obtain ⟨b, off, rfl, hcc⟩ := unhide H5 (by omega)
        have hr := hcc i hlt
        have kw := (unhide HK1).trans (unhide HW).kept (by simp)
        have p0 := kw.cell (hr 0 _ rfl) (by simp)
        have p1 := kw.cell (hr 1 _ rfl) (by simp)
        have p2 := kw.cell (hr 2 _ rfl) (by simp)
        rw [Nat.add_zero] at p0
        have HO := hide ((unhide H4 i hlt).old (unhide HK1))
        have HSN := hide (entB_snoc es i hlt)
        have HCE := hide (chkE_zero (unhide HL4 es[i] (List.getElem_mem hlt)))
        clear hcc hr kw
        generalize kv i = kvi at p1 HO
        generalize vv i = vvi at p2 HO
        generalize es[i] = e at p0 HO HSN HCE
        obtain ⟨a8, m8, c8, rfl, _⟩ := id (unhide HO).key
        obtain ⟨a9, m9, c9, rfl, _⟩ := id (unhide HO).val
        go_wp2_with fail
        refine Calls.mono (layEntry_any e _ _ ((unhide HW).pass ((Kept.refl [] wr).alloc _)) (unhide HO) (by have := unhide HLI; have := unhide HU1; have := unhide HU2; have := unhide HCE; simp only [List.length_append]; omega)) ?_
        rintro r w4 ⟨rfl, v4, h4'⟩
        rw [List.append_assoc, ← unhide HSN] at h4'
        have HW4 := hide h4'
        clear h4'
        go_wp2
        refine ⟨⟨i + 1, v4, by omega, by go_num, HW4⟩, ?_⟩
        simp [intOf]; omega
      · have hlt' : ¬ (i : Int) < es.length := by omega
        have hie : i = es.length := by omega
        subst hie
        rw [List.take_length] at HW HLI
        go_wp2_with fail
        refine Calls.mono (wn_bytes (unhide HW) (by have := unhide HLI; have := unhide HU1; have := unhide HU2; simp only [List.length_append]; omega)) ?_
        rintro r w6 ⟨v6, rfl, h6, k6⟩
        have H6 := hide h6
        have HK6 := hide ((unhide HK1).trans k6 (by simp))
        clear h6 k6
        go_wp2
        go_ret2
        refine ⟨_, by rw [unhide H0]; rfl, ?_, unhide HK6⟩
        rw [unhide HB2]
        have h9 := (unhide H6).weak (unhide HK1).size
        rw [List.append_assoc] at h9
        exact h9
  · have hb0 : ((E : Int) != 0) = true := by rw [bne_iff_ne]; omega
    have HB2 := hide (by rw [← unhide HB, if_neg h0] : B = [])
    clear h0
    go_wp2
    go_ret2
    exact ⟨_, rfl, by rw [unhide HB2]; exact NewB.nil _ _, unhide HK1⟩
end Go.Proofs.YtckkalmhekfnhabGreatDoor
