import Derived.Test.YtejchncdimcdbaaGreatDoorDk6
namespace Go.Proofs.YtejchncdimcdbaaGreatDoor
open Go.RowKit Go.BigFrame
set_option linter.unusedVariables false
set_option linter.unusedSimpArgs false

theorem own1_lt (fs : List DFile) (s : ByteArray) : own1 fs s < 100 := by unfold own1; (repeat' split) <;> omega
theorem own1_zero {fs : List DFile} {s : ByteArray} (h : own1 fs s = 0) : look fs s.data.toList = none := by
  unfold own1 at h
  split at h
  · split at h
    · cases h
    · rename_i h2
      simpa using h2
  · cases h
theorem dkB_g {d m : Nat} {u fv : Value} {fs : List DFile} {a : DFile} (h : a ∈ fs) : a.g ∈ dkB d m u fv fs := by
  simp only [dkB, List.mem_cons, List.mem_append, List.mem_flatMap]
  exact .inr (.inr (.inr ⟨a, h, .inl rfl⟩))
theorem DkAt.lt {w : World} {d sec m N : Nat} {u fv : Value} {cr op : Int} {off : Bool} {ft : Int → Option Int} {fs : List DFile} (h : DkAt w d sec m N u fv cr op off ft fs) : ∀ x ∈ dkB d m u fv fs, x < w.heap.size := by
  intro x hx
  simp only [dkB, List.mem_cons, List.mem_append, List.mem_flatMap] at hx
  rcases hx with rfl | rfl | (hx | hx) | ⟨f, hf, hx⟩
  · exact lt_of_block h.row
  · obtain ⟨n, D, ho, _⟩ := h.map
    exact ho.lt
  · exact h.un.lt x hx
  · obtain ⟨n, D, ho⟩ := fmap_block h.ft hx
    exact ho.lt
  · rcases hx with rfl | hx
    · exact lt_of_block (h.files f hf).1
    · obtain ⟨cs, hc⟩ := owns_cells (h.files f hf).2.1 hx
      exact lt_of_block hc
def crF (fs : List DFile) (s : ByteArray) (E G : Nat) : List DFile := if own1 fs s = 0 ∧ E ≠ 7 then fs ++ [⟨G, s, .slice none 0 0, [], 0, false⟩] else fs
set_option maxRecDepth 100000 in
set_option maxHeartbeats 1000000 in
theorem create_off (d sec m N : Nat) (s : ByteArray) (w : World) (u fv : Value) (cr op : Int) (ft : Int → Option Int) (fs : List DFile) (h : DkAt w d sec m N u fv cr op true ft fs) :
    Calls Tryz.prog 88 #[.pointer (some ⟨d, 0, none⟩), .string s] w fun e w' => e = .returned (.int .i64 12) ∧ w' = w := by
  have HD := hide h
  clear h
  go_enter Tryz.func88, Tryz.ntmps88
  go_wp2_with fail
  refine Calls.mono (power_any d w sec m u fv cr op true (unhide HD).row) ?_
  rintro e w1 ⟨rfl, rfl⟩
  simp only [if_true]
  go_wp2_with fail
  go_ret
  exact ⟨rfl, rfl⟩
set_option maxRecDepth 100000 in
set_option maxHeartbeats 1000000 in
theorem create_any (d sec m N : Nat) (s : ByteArray) (w : World) (u fv : Value) (cr op : Int) (ft : Int → Option Int) (fs : List DFile) (h : DkAt w d sec m N u fv cr op false ft fs) (hs : s.size ≤ 140737488355328) (ho : 0 ≤ op ∧ op ≤ 1000000000000) (hN : N ≤ 1000000000) (hfs : fs.length ≤ 1000000000) :
    Calls Tryz.prog 88 #[.pointer (some ⟨d, 0, none⟩), .string s] w fun e w' => ∃ (E G : Nat) (u' : Value), e = .returned (.int .i64 E) ∧ E = opE ft cr op (own1 fs s) ∧
      DkAt w' d sec m (N + 1) u' fv cr (op + 1) (decide (op + 1 = cr)) ft (crF fs s E G) ∧ Kept (dkB d m u fv fs) w w' ∧ ∀ x ∈ dkB d m u' fv (crF fs s E G), x ∈ dkB d m u fv fs ∨ w.heap.size ≤ x := by
  have HD := hide h
  clear h
  obtain ⟨E0, hE0⟩ : ∃ E, own1 fs s = E := ⟨_, rfl⟩
  have HE0 := hide hE0
  have hlt : E0 < 100 := by rw [← hE0]; exact own1_lt fs s
  clear hE0
  obtain ⟨E, hE⟩ : ∃ E, opE ft cr op E0 = E := ⟨_, rfl⟩
  have HE := hide hE
  clear hE
  go_enter Tryz.func88, Tryz.ntmps88
  go_wp2_with fail
  refine Calls.mono (power_any d w sec m u fv cr op false (unhide HD).row) ?_
  rintro e w1 ⟨rfl, rfl⟩
  simp only [Bool.false_eq_true, if_false]
  go_wp2_with fail
  refine Calls.mono (createError_any d s _ sec m N u fv cr op false fs (unhide HD).row (unhide HD).map hs) ?_
  rintro e w2 ⟨rfl, rfl⟩
  rw [unhide HE0]
  go_wp2_with fail
  refine Calls.mono (operation_any d E0 _ sec (.map (some m)) N u fv cr op false ft (unhide HD).row (unhide HD).ft ho hlt) ?_
  rintro e w3 ⟨rfl, hr3, hk3⟩
  rw [unhide HE]
  have HR3 := hide hr3
  have HK3 := hide hk3
  clear hr3 hk3
  have HD3 := hide ((unhide HD).turned (unhide HK3) (unhide HR3))
  by_cases hc : E0 = 0 ∧ E ≠ 7
  · obtain ⟨rfl, hE7⟩ := hc
    have hb : ((E : Int) != 7) = true := by simp; omega
    have HEC := hide (by unfold crF; rw [if_pos ⟨unhide HE0, hE7⟩] : crF fs s E w3.heap.size = fs ++ [⟨w3.heap.size, s, .slice none 0 0, [], 0, false⟩])
    clear hE7
    go_wp2_with fail
    have HD4 := hide ((unhide HD3).kept ((Kept.refl [] w3).alloc (.cells #[.string s, .slice none 0 0, .int .i64 0, .bool false] 106 (0, 0))) (by simp))
    refine Calls.mono (add_any d sec m N ⟨w3.heap.size, s, .slice none 0 0, [], 0, false⟩ _ u fv cr (op + 1) _ ft fs (unhide HD4) ⟨heap_alloc_new _ _, World.ownsRow_nil _ _ _ _, by simp, by simp⟩ hN hfs hs (own1_zero (unhide HE0)) ?_) ?_
    · intro a ha
      have := (unhide HD3).lt a.g (dkB_g ha)
      exact ⟨by dsimp only; omega, by simp [blk]⟩
    rintro e w5 ⟨u', rfl, hD5, hK5, hu5⟩
    have HD5 := hide hD5
    have HK5 := hide hK5
    have HU5 := hide hu5
    clear hD5 hK5 hu5
    go_wp2_with fail
    go_ret
    have hs3 := (unhide HK3).size
    refine ⟨E, w3.heap.size, u', rfl, by rw [unhide HE0]; exact (unhide HE).symm, ?_, ?_, ?_⟩
    · rw [unhide HEC]
      simpa using unhide HD5
    · have k1 : Kept (dkB d m u fv fs) w2 (w3.alloc (.cells #[.string s, .slice none 0 0, .int .i64 0, .bool false] 106 (0, 0))) := ((unhide HK3).mono (by intro x hx; simp at hx; simp [dkB, hx])).alloc _
      exact k1.trans (unhide HK5) (by intro x hx; left; simp only [List.mem_cons] at hx; rcases hx with h | h | h <;> simp [dkB, h])
    · rw [unhide HEC]
      intro x hx
      simp only [dkB, List.mem_cons, List.mem_append, List.mem_flatMap, List.flatMap_append, List.flatMap_cons, List.flatMap_nil, List.append_nil] at hx ⊢
      rcases hx with h | h | (h | h) | h | h
      · exact .inl (.inl h)
      · exact .inl (.inr (.inl h))
      · rcases unhide HU5 x h with h1 | h1
        · exact .inl (.inr (.inr (.inl (.inl h1))))
        · right
          simp at h1
          omega
      · exact .inl (.inr (.inr (.inl (.inr h))))
      · exact .inl (.inr (.inr (.inr h)))
      · simp [blk] at h
        right
        omega
  · have HEC := hide (by unfold crF; rw [unhide HE0, if_neg hc] : crF fs s E 0 = fs)
    have hfin : ∃ (E' G : Nat) (u' : Value), (E : Int) = E' ∧ E' = opE ft cr op (own1 fs s) ∧
      DkAt w3 d sec m (N + 1) u' fv cr (op + 1) (decide (op + 1 = cr)) ft (crF fs s E' G) ∧ Kept (dkB d m u fv fs) w2 w3 ∧ ∀ x ∈ dkB d m u' fv (crF fs s E' G), x ∈ dkB d m u fv fs ∨ w2.heap.size ≤ x := by
      refine ⟨E, 0, u, rfl, by rw [unhide HE0]; exact (unhide HE).symm, ?_, (unhide HK3).mono (by intro x hx; simp at hx; simp [dkB, hx]), ?_⟩
      · rw [unhide HEC]
        simpa using (unhide HD3).more (Nat.le_succ N)
      · rw [unhide HEC]
        exact fun x hx => .inl hx
    have HFIN := hide hfin
    clear hfin
    by_cases h0 : E0 = 0
    · subst h0
      have h7 : E = 7 := by simpa using hc
      have hb : ((E : Int) != 7) = false := by simp; omega
      clear hc
      go_wp2_with fail
      go_ret
      obtain ⟨E', G, u', r0, r⟩ := unhide HFIN
      exact ⟨E', G, u', by rw [← r0, h7]; rfl, r⟩
    · have hb : ((E0 : Int) == 0) = false := by simp; omega
      clear hc
      go_wp2_with fail
      go_ret
      obtain ⟨E', G, u', r0, r⟩ := unhide HFIN
      exact ⟨E', G, u', by rw [← r0]; rfl, r⟩
end Go.Proofs.YtejchncdimcdbaaGreatDoor
