import Derived.Test.YtckkalmhekfnhabGreatDoorESameB
import Derived.Test.YtckkalmhekfnhabGreatDoorTSame
import Derived.Test.YtckkalmhekfnhabGreatDoorTTwin
import Derived.Test.YtckkalmhekfnhabGreatDoorEBat2
namespace Go.Proofs.YtckkalmhekfnhabGreatDoor
open Go.RowKit Go.BigFrame
set_option linter.unusedVariables false
set_option linter.unusedSimpArgs false

theorem row3 {w : World} {b : Nat} {v0 v1 v2 : Value} {t : TypeId} (h : w.heap[b]? = some (.cells #[v0, v1, v2] t (0, 0))) :
    (w.cell? ⟨b, 0, none⟩ = some v0 ∧ w.cell? ⟨b, 1, none⟩ = some v1 ∧ w.cell? ⟨b, 2, none⟩ = some v2) ∧ (w.frozen? ⟨b, 0, none⟩ = false ∧ w.frozen? ⟨b, 1, none⟩ = false ∧ w.frozen? ⟨b, 2, none⟩ = false) := by
  refine ⟨⟨?_, ?_, ?_⟩, ?_, ?_, ?_⟩ <;> first | (rw [cell_of_row _ _ _ _ _ _ h]; rfl) | exact frozen_of_row _ _ _ _ _ h
theorem Rd.short {w : World} {ao : Option Addr} {n c : Nat} {p : List Nat} (h : Rd w (.slice ao n c) p) {k : Nat} (hk : k ≤ p.length) : Rd w (.slice ao k c) (p.take k) := by
  obtain ⟨_, _, _, hE, h1, h2, ⟨h3, h3'⟩, h4, h5, h6⟩ := h
  cases hE
  refine ⟨_, _, _, rfl, by simp; omega, by omega, ⟨h3, by omega⟩, h4, fun x hx => h5 x (List.mem_of_mem_take hx), fun hp => ?_⟩
  obtain ⟨b, off, e, hc⟩ := h6 (by omega)
  refine ⟨b, off, e, fun i hi => ?_⟩
  rw [hc i (by omega), List.getD_eq_getElem?_getD, List.getD_eq_getElem?_getD, List.getElem?_take, if_pos hi]

theorem Rd.shortM {w : World} {ao : Option Addr} {n c : Nat} {p : List Nat} (h : Rd w (.slice ao n c) p) (k : Nat) : Rd w (.slice ao (min k p.length) c) (p.take k) := by
  have h9 := h.short (k := min k p.length) (by omega)
  rwa [show p.take (min k p.length) = p.take k by rw [List.take_eq_take_iff]; omega] at h9

set_option maxRecDepth 100000 in
set_option maxHeartbeats 1000000 in
theorem short_any (a1 : Option Addr) (c1 : Nat) (p : List Nat) (k : Nat) (w : World) (h : Rd w (.slice a1 p.length c1) p) (hk : k ≤ 256) :
    Calls Tryz.prog 85 #[.slice a1 p.length c1, .int .i64 k] w fun e w' => e = .returned (.slice a1 (min k p.length) c1) ∧ w' = w := by
  obtain ⟨_, _, _, hE, hn1, hc1, ⟨hc2, hlen⟩, _⟩ := id h
  cases hE
  clear h
  by_cases hl : k < p.length
  · have hl' : (k : Int) < p.length := by omega
    have h0 : (0 : Int) ≤ k := by omega
    have h1 : (k : Int) ≤ c1 := by omega
    rw [Nat.min_eq_left (by omega)]
    go_enter Tryz.func85, Tryz.ntmps85
    go_wp2
    go_ret
    exact ⟨rfl, rfl⟩
  · have hl' : ¬ (k : Int) < p.length := by omega
    rw [Nat.min_eq_right (by omega)]
    go_enter Tryz.func85, Tryz.ntmps85
    go_wp2
    go_ret
    exact ⟨rfl, rfl⟩

theorem short64 (a1 : Option Addr) (c1 : Nat) (p : List Nat) (w : World) (h : Rd w (.slice a1 p.length c1) p) :
    Calls Tryz.prog 85 #[.slice a1 p.length c1, .int .i64 64] w fun e w' => e = .returned (.slice a1 (min 64 p.length) c1) ∧ w' = w := short_any a1 c1 p 64 w h (by omega)
theorem short256 (a1 : Option Addr) (c1 : Nat) (p : List Nat) (w : World) (h : Rd w (.slice a1 p.length c1) p) :
    Calls Tryz.prog 85 #[.slice a1 p.length c1, .int .i64 256] w fun e w' => e = .returned (.slice a1 (min 256 p.length) c1) ∧ w' = w := short_any a1 c1 p 256 w h (by omega)

def fitE (e : En) : En := if e.k % 2 = 0 then ⟨2, e.key.take 64, []⟩ else ⟨1, e.key.take 64, e.val.take 256⟩
theorem fitE_ok (e : En) : chkE (fitE e) = 0 := by
  unfold fitE chkE
  split
  · rw [if_neg (by simp; omega), if_neg (by simp)]
  · rw [if_neg (by simp; omega), if_neg (by simp)]

set_option maxRecDepth 100000 in
set_option maxHeartbeats 1000000 in
theorem fits_any (e : En) (kv vv : Value) (w : World) (h : OkE w e kv vv) :
    Calls Tryz.prog 48 #[.agg (enC e kv vv)] w fun r w' => ∃ kv' vv', r = .returned (.agg (enC (fitE e) kv' vv')) ∧ (∀ w0, OkE w0 e kv vv → OkE w0 (fitE e) kv' vv') ∧ Kept [] w w' := by
  obtain ⟨k, key, val⟩ := e
  have HK := hide h.key
  have HV := hide h.val
  have hk := h.k
  obtain ⟨a8, m8, c8, rfl, hm8, _⟩ := id h.key
  obtain ⟨a9, m9, c9, rfl, hm9, _⟩ := id h.val
  clear h
  simp only at HK HV hk hm8 hm9 ⊢
  subst hm8
  subst hm9
  unfold enC
  simp only
  have hkm : IntKind.u8.wrap ((k : Int) % 2) = ((k % 2 : Nat) : Int) := by simp [IntKind.wrap, IntKind.signed, IntKind.bits]; omega
  have HA := hide (heap_alloc2_old w (.cells #[.int .u8 (k : Int), .slice a8 key.length c8, .slice a9 val.length c9] 44) (.cells #[.int .u8 0, .slice none 0 0, .slice none 0 0] 44))
  have HZ := hide (heap_alloc2_new w (.cells #[.int .u8 (k : Int), .slice a8 key.length c8, .slice a9 val.length c9] 44) (.cells #[.int .u8 0, .slice none 0 0, .slice none 0 0] 44))
  have HKW := hide (((Kept.refl [] w).alloc (.cells #[.int .u8 (k : Int), .slice a8 key.length c8, .slice a9 val.length c9] 44)).alloc (.cells #[.int .u8 0, .slice none 0 0, .slice none 0 0] 44))
  have HSK := hide ((unhide HK).shortM 64)
  have HSV := hide ((unhide HV).shortM 256)
  have HFE := hide (show fitE ⟨k, key, val⟩ = if k % 2 = 0 then ⟨2, key.take 64, []⟩ else ⟨1, key.take 64, val.take 256⟩ from rfl)
  obtain ⟨F, hF⟩ : ∃ F, fitE ⟨k, key, val⟩ = F := ⟨_, rfl⟩
  rw [hF] at HFE ⊢
  clear hF
  go_enter Tryz.func48, Tryz.ntmps48
  by_cases h2 : k % 2 = 0
  · have h2' : ((k : Int) % 2 == 0) = true := by rw [beq_iff_eq]; omega
    have HF := hide (by rw [unhide HFE, if_pos h2] : F = ⟨2, key.take 64, []⟩)
    clear h2
    go_wp2_with fail
    obtain ⟨W, hW⟩ : ∃ W, (w.alloc (.cells #[.int .u8 (k : Int), .slice a8 key.length c8, .slice a9 val.length c9] 44)).alloc (.cells #[.int .u8 0, .slice none 0 0, .slice none 0 0] 44) = W := ⟨_, rfl⟩
    rw [hW] at HA HZ HKW ⊢
    clear hW
    refine Calls.mono (short_any a8 c8 key 64 W ((unhide HK).old (unhide HKW) (by simp)) (by omega)) ?_
    rintro r w1 ⟨rfl, rfl⟩
    go_wp2_with (refine wpList_store_row rfl 44 _ _ rfl (w.heap.size + 1) #[.int .u8 2, .slice a8 (min 64 key.length) c8, .slice none 0 0] rfl rfl _ #[.int .u8 0, .slice none 0 0, .slice none 0 0] (unhide HZ) Tryz.size_entry rfl (row3_one rfl rfl rfl) ?_)
    have kr := (unhide HKW).setRowE (g := w.heap.size + 1) (Or.inr (by omega)) #[.int .u8 2, .slice a8 (min 64 key.length) c8, .slice none 0 0]
    have ho : ∀ w0, OkE w0 ⟨k, key, val⟩ (.slice a8 key.length c8) (.slice a9 val.length c9) → OkE w0 F (.slice a8 (min 64 key.length) c8) (.slice none 0 0) := fun w0 h0 => by rw [unhide HF]; exact ⟨by show (2 : Nat) < 256; omega, h0.key.shortM 64, Rd.nil _⟩
    refine bodyPost_ret (v := .agg #[.int .u8 2, .slice a8 (min 64 key.length) c8, .slice none 0 0]) ?_ rfl ⟨.slice a8 (min 64 key.length) c8, .slice none 0 0, by rw [unhide HF]; rfl, ho, kr⟩
    exact results_cell_row rfl _ _ (w.heap.size + 1) _ #[.int .u8 2, .slice a8 (min 64 key.length) c8, .slice none 0 0] (0, 0) _ rfl (setRow_heap _ _ _ _ _ _ (unhide HZ)) Tryz.underlying44 rfl Tryz.size_entry
  · have h2' : ((k : Int) % 2 == 0) = false := by rw [beq_eq_false_iff_ne]; omega
    have HF := hide (by rw [unhide HFE, if_neg h2] : F = ⟨1, key.take 64, val.take 256⟩)
    clear h2
    go_wp2_with fail
    obtain ⟨W, hW⟩ : ∃ W, (w.alloc (.cells #[.int .u8 (k : Int), .slice a8 key.length c8, .slice a9 val.length c9] 44)).alloc (.cells #[.int .u8 0, .slice none 0 0, .slice none 0 0] 44) = W := ⟨_, rfl⟩
    rw [hW] at HA HZ HKW ⊢
    clear hW
    have x1 := cell_of_row _ _ 1 _ _ _ (unhide HA)
    have x2 := cell_of_row _ _ 2 _ _ _ (unhide HA)
    obtain ⟨⟨z0, z1, z2⟩, y0, y1, y2⟩ := row3 (unhide HZ)
    have HWK := hide ((unhide HK).old (unhide HKW).drew (by simp))
    have HWV := hide ((unhide HV).old (unhide HKW).drew (by simp))
    have hne : ¬ w.heap.size + 1 = w.heap.size := by omega
    go_region_held3 (fun w' => w'.cell? ⟨w.heap.size, 1, none⟩ = some (.slice a8 key.length c8) ∧ w'.cell? ⟨w.heap.size, 2, none⟩ = some (.slice a9 val.length c9)) (go_keep) (first
      | (go_at_call 85; with_reducible refine (short64 a8 c8 key W.drew (unhide HWK)).mono ?_; rintro r w1 ⟨rfl, rfl⟩)
      | (go_at_call 85; with_reducible refine (short256 a9 c9 val W.drew (unhide HWV)).mono ?_; rintro r w1 ⟨rfl, rfl⟩))
    all_goals
      go_wp2
      have kr := eput3_kept (unhide HKW).drew (w.heap.size + 1) (Or.inr (by omega)) (.int .u8 1) (.slice a8 (min 64 key.length) c8) (.slice a9 (min 256 val.length) c9)
      have ho : ∀ w0, OkE w0 ⟨k, key, val⟩ (.slice a8 key.length c8) (.slice a9 val.length c9) → OkE w0 F (.slice a8 (min 64 key.length) c8) (.slice a9 (min 256 val.length) c9) := fun w0 h0 => by rw [unhide HF]; exact ⟨by show (1 : Nat) < 256; omega, h0.key.shortM 64, h0.val.shortM 256⟩
      refine bodyPost_ret (v := .agg #[.int .u8 1, .slice a8 (min 64 key.length) c8, .slice a9 (min 256 val.length) c9]) ?_ rfl ⟨.slice a8 (min 64 key.length) c8, .slice a9 (min 256 val.length) c9, by rw [unhide HF]; rfl, ho, kr⟩
      exact results_cell_row rfl _ _ (w.heap.size + 1) _ #[.int .u8 1, .slice a8 (min 64 key.length) c8, .slice a9 (min 256 val.length) c9] (0, 0) _ rfl (by exact eput3_heap (show W.drew.heap[w.heap.size + 1]? = _ from unhide HZ) _ _ _) Tryz.underlying44 rfl Tryz.size_entry
end Go.Proofs.YtckkalmhekfnhabGreatDoor
