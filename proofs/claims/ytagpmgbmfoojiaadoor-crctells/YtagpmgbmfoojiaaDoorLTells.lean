import Derived.Test.YtagpmgbmfoojiaaDoorCAw
namespace Go.Proofs.YtagpmgbmfoojiaaDoor
open Go.RowKit
set_option linter.unusedVariables false
set_option linter.unusedSimpArgs false

theorem take_of_getD {p q : List Nat} (n : Nat) (hl : p.length = q.length) (h : ∀ j, j < n → p.getD j 0 = q.getD j 0) : p.take n = q.take n := by
  apply List.ext_getElem
  · simp [hl]
  · intro i h1 h2
    rw [List.length_take] at h1 h2
    have h1 := Nat.lt_min.1 h1
    have h2 := Nat.lt_min.1 h2
    have := h i h1.1
    simp only [List.getD_eq_getElem?_getD, List.getElem?_eq_getElem h1.2, List.getElem?_eq_getElem h2.2, Option.getD_some] at this
    simpa using this
theorem drop_of_getD {p q : List Nat} (n : Nat) (hl : p.length = q.length) (h : ∀ j, n ≤ j → p.getD j 0 = q.getD j 0) : p.drop n = q.drop n := by
  apply List.ext_getElem
  · simp [hl]
  · intro i h1 h2
    simp at h1 h2
    have := h (n + i) (by omega)
    simp only [List.getD_eq_getElem?_getD, List.getElem?_eq_getElem (show n + i < p.length by omega), List.getElem?_eq_getElem (show n + i < q.length by omega), Option.getD_some] at this
    simpa using this
/-- What the turned text may be. -/
def Turned4 (p : List Nat) (a : Nat) (qs : List Nat) : Prop := qs.length = p.length ∧ (∀ x ∈ qs, x < 256) ∧ ∀ j, (j < a ∨ a + 4 ≤ j) → qs.getD j 0 = p.getD j 0
theorem Turned4.set {p qs : List Nat} {a : Nat} (h : Turned4 p a qs) (j v : Nat) (h1 : a ≤ j) (h2 : j < a + 4) (hv : v < 256) : Turned4 p a (qs.set j v) := by
  refine ⟨by simpa using h.1, ?_, ?_⟩
  · intro x hx
    rcases List.mem_or_eq_of_mem_set hx with h3 | h3
    · exact h.2.1 x h3
    · omega
  · intro i hi
    rw [getD_set_other _ _ _ _ (by omega)]; exact h.2.2 i hi
theorem Turned4.tells {p qs : List Nat} {a : Nat} (h : Turned4 p a qs) (hp : ∀ x ∈ p, x < 256) : upd 0 p = upd 0 qs → p = qs := fun e =>
  reg_tells _ p qs a (by decide) h.1.symm hp h.2.1 (take_of_getD a h.1.symm fun j hj => (h.2.2 j (by omega)).symm) (drop_of_getD (a + 4) h.1.symm fun j hj => (h.2.2 j (by omega)).symm) (upd_inj e)
theorem set_u8 (qs : List Nat) (k v : Nat) : (qs.map u8).toArray.setIfInBounds k (u8 v) = ((qs.set k v).map u8).toArray := by rw [List.map_set]; simp
theorem u8_xor_lt {a b : Nat} (ha : a < 256) (hb : b < 256) : a ^^^ b < 256 := Nat.xor_lt_two_pow (n := 8) ha hb

set_option maxRecDepth 100000 in
set_option maxHeartbeats 2000000 in
theorem crcTells_walk (v : Value) (p : List Nat) (at_ : Int) (c : Nat) (w : World) (h : Rd w v p) (hl : p.length ≤ 140737488355328) (hat : -9223372036854775808 ≤ at_ ∧ at_ ≤ 9223372036854775807) (hc : c < 4294967296) (hT : Tab w) :
    Calls Tryd.prog 7 #[v, .int .i64 at_, .int .u32 c] w fun e w' => e = .returned (.bool true) ∧ Below w.heap.size w w' := by
  have H := hide h
  have HT := hide hT
  clear h hT
  go_enter Tryd.func7, Tryd.ntmps7
  go_wp2_with fail
  refine (cawake_any w (unhide HT)).mono ?_
  rintro e w1 ⟨rfl, k1⟩
  have HK1 := hide k1
  clear k1
  go_wp2_with fail
  refine (twin_any v p w1 ((unhide H).old (unhide HK1) (by simp))).mono ?_
  rintro e w2 ⟨rfl, k2, h2⟩
  have HK2 := hide ((unhide HK1).trans k2 (by simp))
  have H2 := hide h2
  have Hg := hide ((unhide HK1).size : w.heap.size ≤ w1.heap.size)
  obtain ⟨g, hg⟩ : ∃ g, w1.heap.size = g := ⟨_, rfl⟩
  rw [hg] at H2 Hg ⊢
  clear k2 h2 HK1 hg
  go_wp2
  go_loopw [8] (fun t8 wr => ∃ (k : Nat) (qs : List Nat), k ≤ 4 ∧ t8 = .int .i64 k ∧ Hid (Turned4 p at_.toNat qs) ∧ Hid (wr.heap[g]? = some (.cells (qs.map u8).toArray 5 (0, 0))) ∧ Hid (Kept [] w wr)) (fun t _ => 4 - (intOf t).toNat)
  case atStart => exact ⟨0, p, by omega, rfl, hide ⟨rfl, (unhide H).byte, fun _ _ => rfl⟩, H2, HK2⟩
  case round =>
    obtain ⟨k, qs, hk, rfl, HQ, HR, HK⟩ := hrel
    by_cases hlt : k < 4
    · have hlt' : (k : Int) < 4 := by omega
      by_cases ha0 : 0 ≤ at_
      · obtain ⟨a, rfl⟩ : ∃ a : Nat, at_ = a := ⟨at_.toNat, by omega⟩
        by_cases hin : a + k < p.length
        · have hin' : (a : Int) + k < p.length := by omega
          have hge : (a : Int) ≤ (a : Int) + k := by omega
          have fg : wr.frozen? ⟨g, a + k, none⟩ = false := frozen_of_row _ _ _ _ _ (unhide HR)
          have cg : wr.cell? ⟨g, a + k, none⟩ = some (Go.Proofs.YtagpmgbmfoojiaaDoor.u8 (qs.getD (a + k) 0)) := by
            rw [cell_of_row _ _ _ _ _ _ (unhide HR)]; simp [List.getD_eq_getElem?_getD, List.getElem?_eq_getElem (show a + k < qs.length by rw [(unhide HQ).1]; exact hin)]
          have hqb := getD_byte (unhide HQ).2.1 (a + k)
          generalize qs.getD (a + k) 0 = y at cg hqb
          go_wp2
          go_region
          have hbx : bits .xor .u8 (y : Int) ((c : Int) / 2 ^ (8 * k) % 256) = ((y ^^^ c / 2 ^ (8 * k) % 256 : Nat) : Int) := by
            have h1 : (c : Int) / 2 ^ (8 * k) % 256 = ((c / 2 ^ (8 * k) % 256 : Nat) : Int) := by simp
            rw [h1]; exact u8_xor_nat y _ hqb (Nat.mod_lt _ (by decide))
          rw [hbx]
          have hzb : y ^^^ c / 2 ^ (8 * k) % 256 < 256 := u8_xor_lt hqb (Nat.mod_lt _ (by decide))
          generalize y ^^^ c / 2 ^ (8 * k) % 256 = z at hzb
          have HN := hide (by
            have h1 := heap_setCell_same wr g (a + k) _ 5 (Go.Proofs.YtagpmgbmfoojiaaDoor.u8 z) (unhide HR)
            rw [set_u8] at h1; exact h1 : (wr.setCell ⟨g, a + k, none⟩ (Go.Proofs.YtagpmgbmfoojiaaDoor.u8 z)).drew.heap[g]? = some (.cells ((qs.set (a + k) z).map Go.Proofs.YtagpmgbmfoojiaaDoor.u8).toArray 5 (0, 0)))
          have HKN := hide (((unhide HK).setCell (p := ⟨g, a + k, none⟩) (Or.inr (unhide Hg)) (Go.Proofs.YtagpmgbmfoojiaaDoor.u8 z)).drew)
          have HQN := hide ((unhide HQ).set (a + k) z (by simp) (by simp; omega) hzb)
          go_wp2
          go_roundw
          case rel => exact ⟨k + 1, _, by omega, by go_num, HQN, HN, HKN⟩
          case measure => simp [intOf]; omega
        · by_cases hov : a + k ≤ 9223372036854775807
          · have hin' : ¬ (a : Int) + k < p.length := by omega
            have hge : (a : Int) ≤ (a : Int) + k := by omega
            go_wp2
            go_roundw
            case rel => exact ⟨k + 1, qs, by omega, by go_num, HQ, HR, HK⟩
            case measure => simp [intOf]; omega
          · have hj : IntKind.i64.wrap ((a : Int) + k) = (a : Int) + k - 18446744073709551616 := by rw [IntKind.wrap_i64]; omega
            have hge : ¬ (a : Int) ≤ (a : Int) + k - 18446744073709551616 := by omega
            go_wp2
            go_roundw
            case rel => exact ⟨k + 1, qs, by omega, by go_num, HQ, HR, HK⟩
            case measure => simp [intOf]; omega
      · have ha0' : ¬ (0 : Int) ≤ at_ := ha0
        go_wp2
        go_roundw
        case rel => exact ⟨k + 1, qs, by omega, by go_num, HQ, HR, HK⟩
        case measure => simp [intOf]; omega
    · have hlt' : ¬ (k : Int) < 4 := by omega
      have HQR := hide (by
        have h1 := rd_fresh (unhide HR) (unhide HQ).2.1 (by rw [(unhide HQ).1]; exact hl)
        rw [(unhide HQ).1] at h1; exact h1 : Rd wr (.slice (some ⟨g, 0, none⟩) p.length p.length) qs)
      have HPR := hide ((unhide H).old (unhide HK) (by simp))
      go_wp2_with fail
      refine (same_any _ _ p qs wr (unhide HPR) (unhide HQR)).mono ?_
      rintro e w5 ⟨rfl, n5, hw5⟩
      have HK5 := hide (by rw [hw5]; exact (unhide HK).drewN n5 : Kept [] w w5)
      have HQ5 := hide (by rw [hw5]; exact (unhide HQR).kept ((Kept.refl [] wr).drewN n5) (by simp) : Rd w5 (.slice (some ⟨g, 0, none⟩) p.length p.length) qs)
      clear hw5
      go_wp2_with fail
      refine (sum_any _ p w5 ((unhide H).old (unhide HK5) (by simp))).mono ?_
      rintro e w6 ⟨rfl, rfl⟩
      go_wp2_with fail
      refine (sum_any _ qs w6 (unhide HQ5)).mono ?_
      rintro e w7 ⟨rfl, rfl⟩
      by_cases hpq : p = qs
      · subst hpq
        go_wp2
        go_ret
        exact ⟨by simp, (unhide HK5).below (Nat.le_refl _) (by simp)⟩
      · have hne : upd 0 p ≠ upd 0 qs := fun e => hpq ((unhide HQ).tells (unhide H).byte e)
        have hne' : ((upd 0 p : Int) == (upd 0 qs : Int)) = false := by simp; omega
        go_wp2
        go_ret
        exact ⟨by simp [hpq], (unhide HK5).below (Nat.le_refl _) (by simp)⟩
end Go.Proofs.YtagpmgbmfoojiaaDoor
