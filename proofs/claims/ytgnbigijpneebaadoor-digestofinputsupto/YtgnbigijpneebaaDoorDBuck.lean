import Derived.Test.YtgnbigijpneebaaDoorDIn
namespace Go.Proofs.YtgnbigijpneebaaDoor
open Go.RowKit Go.BigFrame
set_option linter.unusedVariables false
set_option linter.unusedSimpArgs false

set_option maxRecDepth 100000 in
set_option maxHeartbeats 1000000 in
theorem bucketInput_any (v : Value) (ps : List (List Nat × List Nat)) (w : World) (h : RdK w v ps) (hl : (pairB ps).length ≤ 1000000000000) :
    Calls Tryd.prog 35 #[v] w fun e w' => ∃ v', e = .returned v' ∧ NewB w w' v' (buckB ps) ∧ Kept [] w w' := by
  obtain ⟨ao, len, cap, vs, us, rfl, h1, h3, h4, h5, h6⟩ := h
  have H5 := hide h5
  have H6 := hide h6
  clear h5 h6
  subst h1
  go_enter Tryd.func35, Tryd.ntmps35
  have HW0 := hide (Wn.start (Kept.refl [] w))
  go_wp2_with fail
  refine Calls.mono (wn_u8 3 (unhide HW0) (by decide) (by simp)) ?_
  rintro e w1 ⟨rfl, v1, h1⟩
  have HW1 := hide h1
  clear h1 HW0
  go_wp2_with fail
  refine Calls.mono (wn_uvar ps.length (unhide HW1) (by omega) (by simp [wide_len])) ?_
  rintro e w2 ⟨rfl, v2, h2⟩
  rw [show [] ++ wide 3 1 ++ uv ps.length = 3 :: uv ps.length by simp [wide]] at h2
  have HW2 := hide h2
  clear h2 HW1
  have HUV := hide (uv_len ps.length (by omega))
  go_wp2_with fail
  go_loopw [13] (fun t13 wr => ∃ (i : Nat) (v : Value), i ≤ ps.length ∧ t13 = .int .i64 i ∧ Hid (Wn w wr w.heap.size v (3 :: uv ps.length ++ pairB (ps.take i)))) (fun t _ => ps.length - (intOf t).toNat)
  case atStart => exact ⟨0, v2, Nat.zero_le _, rfl, by simpa [pairB] using HW2⟩
  case round =>
    obtain ⟨i, vw, hi, rfl, HW⟩ := hrel
    by_cases hlt : i < ps.length
    · have hlt' : (i : Int) < ps.length := by omega
      obtain ⟨b, off, rfl, hcc⟩ := unhide H6 (by omega)
      have q1 := (unhide HW).kept.cell (hcc i hlt).1 (by simp)
      have q2 := (unhide HW).kept.cell (hcc i hlt).2 (by simp)
      have HA := hide (unhide H5 i hlt)
      have hget : ps.getD i ([], []) = ps[i] := by rw [List.getD_eq_getElem?_getD, List.getElem?_eq_getElem hlt]; rfl
      rw [hget] at HA
      have HSN := hide (pairB_snoc ps i hlt)
      have HLE := hide (pairB_le ps (i + 1))
      clear hcc hget
      generalize vs.getD i undef = vi at q1 HA
      generalize us.getD i undef = ui at q2 HA
      generalize ps[i] = pi at HA HSN
      obtain ⟨pk, pv⟩ := pi
      simp only at HA HSN
      rw [unhide HSN] at HLE
      have HLE2 := hide (by have h9 := unhide HLE; simp only [List.length_append] at h9; omega : (pairB (ps.take i)).length + (uv pk.length).length + pk.length + (uv pv.length).length + pv.length ≤ 1000000000000)
      have HU2 := hide (uv_pos pk.length)
      obtain ⟨a8, m8, c8, rfl, hm8, _⟩ := id (unhide HA).1
      obtain ⟨a9, m9, c9, rfl, hm9, _⟩ := id (unhide HA).2
      subst hm8
      subst hm9
      go_wp2_with fail
      have HWW := hide (⟨(unhide HW).at_.alloc (.cells #[.slice a8 pk.length c8, .slice a9 pv.length c9] 86), (unhide HW).new, (unhide HW).hb, (unhide HW).kept.alloc _⟩ : Wn w (wr.alloc (.cells #[.slice a8 pk.length c8, .slice a9 pv.length c9] 86)) w.heap.size vw (3 :: uv ps.length ++ pairB (ps.take i)))
      have HCW := hide (heap_alloc_new wr (.cells #[.slice a8 pk.length c8, .slice a9 pv.length c9] 86))
      obtain ⟨W, hW⟩ : ∃ W, wr.alloc (.cells #[.slice a8 pk.length c8, .slice a9 pv.length c9] 86) = W := ⟨_, rfl⟩
      rw [hW] at HWW HCW ⊢
      clear hW
      have d1 : W.cell? ⟨wr.heap.size, 1, none⟩ = some (.slice a9 pv.length c9) := by rw [cell_of_row _ _ _ _ _ _ (unhide HCW)]; rfl
      refine Calls.mono (wblob_any _ vw _ _ pk W (unhide HWW).at_ (fun w' k => (unhide HWW).rd (unhide HA).1 k) (by have := unhide HLE2; have := unhide HUV; simp only [List.length_append, List.length_cons]; omega)) ?_
      rintro e w3 ⟨rfl, v3, h3, g3⟩
      have hn3 : wr.heap.size ∉ w.heap.size :: vw.ownBlock.toList := by
        intro hx
        rcases List.mem_cons.1 hx with hx | hx
        · have := (unhide HW).at_.lt; omega
        · have := (unhide HW).at_.ownlt (g := wr.heap.size) (by simpa [Option.mem_toList] using hx); omega
      have d2 := g3.kept.cell d1 hn3
      have HW3 := hide ((unhide HWW).grew h3 g3)
      clear h3 g3 hn3 d1
      go_wp2_with fail
      refine Calls.mono (wn_blob (unhide HW3) (unhide HA).2 (by have := unhide HLE2; have := unhide HUV; simp only [List.length_append, List.length_cons]; omega)) ?_
      rintro e w4 ⟨rfl, v4, h4⟩
      have HW4 := hide h4
      clear h4
      go_wp2
      refine ⟨⟨i + 1, v4, by omega, by go_num, ?_⟩, ?_⟩
      · rw [unhide HSN]
        simpa only [List.append_assoc] using HW4
      simp [intOf]; omega
    · have hlt' : ¬ (i : Int) < ps.length := by omega
      have hie : i = ps.length := by omega
      subst hie
      rw [List.take_length] at HW
      go_wp2_with fail
      refine Calls.mono (wn_bytes (unhide HW) (by have := unhide HUV; simp only [List.length_append, List.length_cons]; omega)) ?_
      rintro e w6 ⟨v6, rfl, h6, k6⟩
      have H6' := hide h6
      have HK6 := hide k6
      clear h6 k6
      go_wp2
      go_ret
      exact ⟨_, rfl, unhide H6', unhide HK6⟩
end Go.Proofs.YtgnbigijpneebaaDoor
