import Derived.Test.YtckkalmhekfnhabGreatDoorRowz
namespace Go.Proofs.YtckkalmhekfnhabGreatDoor
open Go.RowKit
set_option linter.unusedVariables false
set_option linter.unusedSimpArgs false

theorem byteD {p : List Nat} (h : ∀ x ∈ p, x < 256) (k : Nat) : p.getD k 0 < 256 := by
  rw [List.getD_eq_getElem?_getD]
  by_cases hk : k < p.length
  · rw [List.getElem?_eq_getElem hk]; exact h _ (List.getElem_mem _)
  · rw [List.getElem?_eq_none (by omega)]; simp
theorem take_snoc {p : List Nat} {k : Nat} (h : k < p.length) : p.take (k + 1) = p.take k ++ [p.getD k 0] := by
  rw [List.take_succ_eq_append_getElem h, List.getD_eq_getElem?_getD, List.getElem?_eq_getElem h]; rfl

set_option maxRecDepth 100000 in
set_option maxHeartbeats 1000000 in
theorem ttwin_any (v : Value) (p : List Nat) (w : World) (h : Rd w v p) (hl : p.length ≤ 140737488351232) :
    Calls Tryz.prog 25 #[v] w fun e w' => ∃ ao cap, e = .returned (.slice ao p.length cap) ∧ w'.ownsRow w.heap.size 5 1 (.slice ao p.length cap) p.length (p.map u8) ∧ Kept [] w w' := by
  have H := hide h
  obtain ⟨ao, len, cap, rfl, rfl, h2, ⟨h3, h3'⟩, h4, h5, h6⟩ := h
  have H6 := hide h6
  have H5 := hide h5
  clear h4 h5 h6
  go_enter Tryz.func25, Tryz.ntmps25
  go_wp2
  go_loopw [3, 4] (fun t3 t4 wr => ∃ (k : Nat) (ao1 : Option Addr) (cap1 : Nat), k ≤ p.length ∧ t3 = .slice ao1 k cap1 ∧ t4 = .int .i64 k ∧ Hid (wr.ownsRow w.heap.size 5 1 (.slice ao1 k cap1) k ((p.take k).map u8)) ∧ Hid (Kept [] w wr)) (fun _ t _ => p.length - (intOf t).toNat)
  case atStart => exact ⟨0, none, 0, Nat.zero_le _, rfl, rfl, World.ownsRow_nil _ _ _ _, Kept.refl _ _⟩
  case round =>
    obtain ⟨k, ao1, cap1, hk, rfl, rfl, HO, HK⟩ := hrel
    by_cases hlt : k < p.length
    · have hlt' : (k : Int) < p.length := by omega
      obtain ⟨b, o, rfl, hcell⟩ := unhide H6 (by omega)
      have ck := (unhide HK).cell (hcell k hlt) (by simp)
      have hb := byteD (unhide H5) k
      have HS := hide (take_snoc hlt)
      have hkl : (p.take k).length = k := by simp; omega
      clear hcell
      generalize p.getD k 0 = z at ck hb HS
      have hrs : Rd (wr.alloc (.cells #[.int .u8 (z : Int)] 5)) (.slice (some ⟨wr.heap.size, 0, none⟩) 1 1) [z] := rd_lit (heap_alloc_new wr _) rfl (by simp; omega) 1 rfl (by omega)
      have HRs := hide hrs
      have HO' := hide (by rw [hkl]; exact unhide HO : wr.ownsRow w.heap.size 5 1 (.slice ao1 k cap1) (p.take k).length ((p.take k).map Go.Proofs.YtckkalmhekfnhabGreatDoor.u8))
      have hsz := (unhide HK).size
      have Hkl := hide hkl
      clear hrs hkl
      go_wp2_with (at_builtin; go_must (refine wpList_appendAll rfl (.tmp 11) (.tmp 16) rfl rfl _ w.heap.size (.slice ao1 k cap1) (p.take k) [z] _ 1 1 (by exact (unhide HO').alloc _) (by exact unhide HRs) (by rw [unhide Hkl]; simp; omega) (by simp; omega) rfl rfl ?_; intro ao2 cap2 w2 HO2 HG2 HA2; rw [unhide Hkl] at HO2 HA2 ⊢; simp only [List.length_cons, List.length_nil, Nat.zero_add] at HO2 HG2 HA2))
      have hk2 := ((unhide HK).alloc (.cells #[.int .u8 (z : Int)] 5)).grown (unhide HG2) (by intro j hj; right; exact ((unhide HO).lt j hj).1)
      have HK2 := hide hk2
      clear hk2
      go_wp2
      go_roundw
      case rel => exact ⟨k + 1, ao2, cap2, by omega, by simp, by go_num, hide (by have h5 := unhide HO2; rw [unhide HS]; simpa [unhide Hkl] using h5), HK2⟩
      case measure => simp [intOf]; omega
    · have hlt' : ¬ (k : Int) < p.length := by omega
      have hkn : k = p.length := by omega
      subst hkn
      go_wp2
      go_ret
      exact ⟨ao1, cap1, rfl, by have h5 := unhide HO; rwa [List.take_length] at h5, unhide HK⟩

end Go.Proofs.YtckkalmhekfnhabGreatDoor
