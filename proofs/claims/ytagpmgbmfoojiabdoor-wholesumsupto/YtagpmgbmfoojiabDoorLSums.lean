import Derived.Test.YtagpmgbmfoojiabDoorLTells
namespace Go.Proofs.YtagpmgbmfoojiabDoor
open Go.RowKit
set_option linter.unusedVariables false
set_option linter.unusedSimpArgs false

theorem take_snoc {p : List Nat} {k : Nat} (h : k < p.length) : p.take (k + 1) = p.take k ++ [p.getD k 0] := by
  rw [List.take_succ_eq_append_getElem h, List.getD_eq_getElem?_getD, List.getElem?_eq_getElem h]; rfl

set_option maxRecDepth 100000 in
set_option maxHeartbeats 1000000 in
theorem ttwin_any (v : Value) (p : List Nat) (w : World) (h : Rd w v p) (hl : p.length ≤ 1048576) :
    Calls Tryd.prog 17 #[v] w fun e w' => ∃ ao cap, e = .returned (.slice ao p.length cap) ∧ w'.ownsRow w.heap.size 5 1 (.slice ao p.length cap) p.length (p.map u8) ∧ Kept [] w w' := by
  have H := hide h
  obtain ⟨ao, len, cap, rfl, rfl, h2, ⟨h3, h3'⟩, h4, h5, h6⟩ := h
  have H6 := hide h6
  have H5 := hide h5
  clear h4 h5 h6
  go_enter Tryd.func17, Tryd.ntmps17
  go_wp2
  go_loopw [3, 4] (fun t3 t4 wr => ∃ (k : Nat) (ao1 : Option Addr) (cap1 : Nat), k ≤ p.length ∧ t3 = .slice ao1 k cap1 ∧ t4 = .int .i64 k ∧ Hid (wr.ownsRow w.heap.size 5 1 (.slice ao1 k cap1) k ((p.take k).map u8)) ∧ Hid (Kept [] w wr)) (fun _ t _ => p.length - (intOf t).toNat)
  case atStart => exact ⟨0, none, 0, Nat.zero_le _, rfl, rfl, World.ownsRow_nil _ _ _ _, Kept.refl _ _⟩
  case round =>
    obtain ⟨k, ao1, cap1, hk, rfl, rfl, HO, HK⟩ := hrel
    by_cases hlt : k < p.length
    · have hlt' : (k : Int) < p.length := by omega
      obtain ⟨b, o, rfl, hcell⟩ := unhide H6 (by omega)
      have ck := (unhide HK).cell (hcell k hlt) (by simp)
      have hb := getD_byte (unhide H5) k
      have HS := hide (take_snoc hlt)
      have hkl : (p.take k).length = k := by simp; omega
      clear hcell
      generalize p.getD k 0 = z at ck hb HS
      have hrs : Rd (wr.alloc (.cells #[.int .u8 (z : Int)] 5)) (.slice (some ⟨wr.heap.size, 0, none⟩) 1 1) [z] := rd_lit (heap_alloc_new wr _) rfl (by simp; omega) 1 rfl (by omega)
      have HRs := hide hrs
      have HO' := hide (by rw [hkl]; exact unhide HO : wr.ownsRow w.heap.size 5 1 (.slice ao1 k cap1) (p.take k).length ((p.take k).map Go.Proofs.YtagpmgbmfoojiabDoor.u8))
      have hsz := (unhide HK).size
      have Hkl := hide hkl
      clear hrs hkl
      go_wp2_with (at_builtin; go_must (refine wpList_appendAll rfl (.tmp 11) (.tmp 16) rfl rfl _ w.heap.size (.slice ao1 k cap1) (p.take k) [z] _ 1 1 (by exact (unhide HO').alloc _) (by exact unhide HRs) (by rw [unhide Hkl]; simp; omega) (by simp; omega) rfl rfl ?_; intro ao2 cap2 w2 HO2 HG2 HA2; rw [unhide Hkl] at HO2 HA2 ⊢; simp only [List.length_cons, List.length_nil, Nat.zero_add] at HO2 HG2 HA2))
      have hk2 := ((unhide HK).alloc (.cells #[.int .u8 (z : Int)] 5)).grown (unhide HG2) (by intro j hj; right; exact ((unhide HO).lt j hj).1)
      have HK2 := hide hk2
      clear hk2
      go_wp2
      go_roundw
      case rel => exact ⟨k + 1, ao2, cap2, by omega, by simp, by go_num, hide (by have h5 := unhide HO2; rw [unhide HS]; simpa [unhide Hkl] using h5), HK2⟩
      case measure => simp [intOf]; omega
    · have hlt' : ¬ (k : Int) < p.length := by omega
      have hkn : k = p.length := by omega
      subst hkn
      go_wp2
      go_ret
      exact ⟨ao1, cap1, rfl, by have h5 := unhide HO; rwa [List.take_length] at h5, unhide HK⟩

/-- A row that is owned, one cell written. -/
theorem owns_set {w : World} {base g n cap : Nat} {xs : List Value} (h : w.ownsRow base 5 1 (.slice (some ⟨g, 0, none⟩) n cap) n xs) (j : Nat) (u : Value) : (w.setCell ⟨g, j, none⟩ u).ownsRow base 5 1 (.slice (some ⟨g, 0, none⟩) n cap) n (xs.set j u) := (h.stored j u).1

set_option maxRecDepth 100000 in
set_option maxHeartbeats 2000000 in
theorem wholeSums_walk (v : Value) (p : List Nat) (u : Value) (q : List Nat) (at_ turn : Nat) (w : World) (h : Rd w v p) (hl : p.length ≤ 1048576) (g : Rd w u q) (hl2 : q.length ≤ 1048576) (hat : at_ < 65536) (ht : turn < 256) (hT : Tab w) :
    Calls Tryd.prog 5 #[v, u, .int .u16 at_, .int .u8 turn] w fun e w' => e = .returned (.bool true) ∧ Below w.heap.size w w' := by
  have H := hide h
  have G := hide g
  have HT := hide hT
  have hup := upd_lt (c := 0) (by decide) h.byte
  have huq := upd_lt (c := 0) (by decide) g.byte
  have HA := hide (upd_append 0 p q)
  have HJ := hide (upd_join (upd 0 p) q)
  obtain ⟨bo, len', cap', rfl, rfl, g2, ⟨g3, g3'⟩, g4, g5, g6⟩ := g
  obtain ⟨ao, len, cap, rfl, rfl, h2, ⟨h3, h3'⟩, h4, h5, h6⟩ := h
  have hn : -9223372036854775808 ≤ (q.length : Int) ∧ (q.length : Int) ≤ 9223372036854775807 := by omega
  clear hT h4 h5 h6 g4 g5 g6
  have kc := fun (w : World) (C : Array Value) (n c : Nat) => Lib.run_convert_bytes_const (P := Tryd.prog) w 26 5 C n c Tryd.underlying26 Tryd.underlying5
  go_enter Tryd.func5, Tryd.ntmps5
  go_wp2_with fail
  refine (sum_any _ [49, 50, 51, 52, 53, 54, 55, 56, 57] _ (rd_mark (heap_alloc_new _ _) rfl (by decide) 9 rfl (by decide))).mono ?_
  rintro e w1 ⟨rfl, h1⟩
  have HK1 := hide (by rw [h1]; exact (Kept.refl [] w).alloc _ : Kept [] w w1)
  clear h1
  rw [upd_nine]
  go_wp2_with fail
  refine (ttwin_any _ p w1 ((unhide H).old (unhide HK1) (by simp)) hl).mono ?_
  rintro e w2 ⟨ao2, cap2, rfl, o2, k2⟩
  have HO2 := hide o2
  have HK2 := hide ((unhide HK1).trans k2 (by simp))
  have Hs2 := hide k2.size
  clear o2 k2
  go_wp2_with (at_builtin; go_must (refine wpList_appendAll rfl (.tmp 16) (.tmp 17) rfl rfl _ w1.heap.size (.slice ao2 p.length cap2) p q bo q.length cap' (by exact unhide HO2) (by exact (unhide G).old (unhide HK2) (by simp)) (by omega) (unhide Hs2) rfl rfl ?_; intro ao3 cap3 w3 HO3 HG3 HA3))
  have HK3 := hide ((unhide HK2).grown (unhide HG3) (by intro j hj; right; exact Nat.le_trans (unhide HK1).size ((unhide HO2).lt j hj).1))
  have HR3 := hide (rd_owns (unhide HO3) (by intro x hx; simp at hx; rcases hx with hx | hx; exact (unhide H).byte x hx; exact (unhide G).byte x hx) (by simp; omega))
  clear HO3 HG3 HA3 HO2
  refine (sum_any _ (p ++ q) w3 (unhide HR3)).mono ?_
  rintro e w4 ⟨rfl, rfl⟩
  rw [unhide HA]
  go_wp2_with fail
  refine (sum_any _ p w4 ((unhide H).old (unhide HK3) (by simp))).mono ?_
  rintro e w5 ⟨rfl, rfl⟩
  go_wp2_with fail
  refine (update_any _ _ q w5 hup ((unhide G).old (unhide HK3) (by simp))).mono ?_
  rintro e w6 ⟨rfl, rfl⟩
  go_wp2_with fail
  refine (sum_any _ p w6 ((unhide H).old (unhide HK3) (by simp))).mono ?_
  rintro e w7 ⟨rfl, rfl⟩
  go_wp2_with fail
  refine (sum_any _ q w7 ((unhide G).old (unhide HK3) (by simp))).mono ?_
  rintro e w8 ⟨rfl, rfl⟩
  go_wp2_with fail
  refine (cjoin_any _ _ _ w8 hup huq hn ((unhide HT).kept (unhide HK3))).mono ?_
  rintro e w9 ⟨rfl, k9⟩
  have HK9 := hide ((unhide HK3).trans k9 (by simp))
  clear k9
  rw [Int.toNat_natCast, ← unhide HJ]
  by_cases h0 : p.length = 0
  · have h0' : ((p.length : Int) == 0) = true := by rw [h0]; rfl
    go_wp2
    go_ret
    exact ⟨rfl, (unhide HK9).below (Nat.le_refl _) (by simp)⟩
  · have h0' : ((p.length : Int) == 0) = false := by rw [beq_eq_false_iff_ne]; omega
    by_cases ht0 : turn = 0
    · subst ht0
      go_wp2
      go_ret
      exact ⟨rfl, (unhide HK9).below (Nat.le_refl _) (by simp)⟩
    · have ht0' : ((turn : Int) == 0) = false := by simp; omega
      go_wp2_with fail
      refine (ttwin_any _ p w9 ((unhide H).old (unhide HK9) (by simp)) hl).mono ?_
      rintro e w10 ⟨ao3, cap3, rfl, o3, k10⟩
      rcases o3.2 with ⟨hh, h00⟩ | ⟨gx, capx, curx, hh, _⟩
      · exact absurd h00 h0
      · cases hh
        have HO := hide o3
        have HK10 := hide ((unhide HK9).trans k10 (by simp))
        have Hgx := hide (Nat.le_trans (unhide HK9).size (o3.lt gx rfl).1)
        have hil : at_ % p.length < p.length := Nat.mod_lt _ (by omega)
        have hmod : (at_ : Int) % (p.length : Int) = ((at_ % p.length : Nat) : Int) := by simp
        have ci := o3.cells (g := gx) rfl (at_ % p.length) (u8 (p.getD (at_ % p.length) 0)) (by rw [List.getElem?_map, List.getD_eq_getElem?_getD, List.getElem?_eq_getElem hil]; rfl)
        rw [Addr.add_mid, Nat.zero_add] at ci
        have hyb := getD_byte (unhide H).byte (at_ % p.length)
        obtain ⟨i, hie⟩ : ∃ i, at_ % p.length = i := ⟨_, rfl⟩
        rw [hie] at hil hmod ci hyb
        have hil' : (i : Int) < p.length := by omega
        have hp1 : (1 : Int) ≤ p.length := by omega
        have fi : w10.frozen? ⟨gx, i, none⟩ = false := by
          rcases o3.2 with ⟨hh, _⟩ | ⟨g', cap', cur', hh, _, hg', _⟩
          · cases hh
          · cases hh; exact frozen_of_row _ _ _ _ _ hg'
        obtain ⟨y, hy⟩ : ∃ y, p.getD i 0 = y := ⟨_, rfl⟩
        rw [hy] at ci hyb
        have hbx : bits .xor .u8 (y : Int) (turn : Int) = ((y ^^^ turn : Nat) : Int) := u8_xor_nat y turn hyb ht
        have hzb := u8_xor_lt hyb ht
        have hzy : y ^^^ turn ≠ y := fun e => ht0 (by have := xself y turn; rw [e, Nat.xor_self] at this; exact this.symm)
        have HT4 := hide (Turned4.set (p := p) (qs := p) (a := i) ⟨rfl, (unhide H).byte, fun _ _ => rfl⟩ i (y ^^^ turn) (Nat.le_refl _) (by omega) hzb)
        have HNE := hide (fun e => hzy (by
          have h1 := getD_set_same p i (y ^^^ turn) hil
          rw [← e, hy] at h1; exact h1.symm) : p ≠ p.set i (y ^^^ turn))
        have HON := hide (by
          have h1 := owns_set o3 i (u8 (y ^^^ turn))
          rw [← List.map_set] at h1; exact h1 : (w10.setCell ⟨gx, i, none⟩ (u8 (y ^^^ turn))).ownsRow w9.heap.size 5 1 (.slice (some ⟨gx, 0, none⟩) p.length cap3) p.length ((p.set i (y ^^^ turn)).map u8))
        have HKN := hide ((unhide HK10).setCell (p := ⟨gx, i, none⟩) (Or.inr (unhide Hgx)) (u8 (y ^^^ turn)))
        clear o3 k10 hie hy hzy
        have hne : upd 0 (p.set i (y ^^^ turn)) ≠ upd 0 p := fun e => unhide HNE ((unhide HT4).tells (unhide H).byte e.symm)
        have HP4 := hide (unhide HT4).2.1
        have hl4 : (p.set i (y ^^^ turn)).length = p.length := by simp
        generalize y ^^^ turn = z at hbx hzb HON HKN hne HP4 hl4
        clear HT4 HNE
        have HRX := hide (by
          have h1 := rd_owns (bs := p.set i z) (by rw [hl4]; exact unhide HON) (unhide HP4) (by rw [hl4]; omega)
          exact h1 : Rd (w10.setCell ⟨gx, i, none⟩ (u8 z)) (.slice (some ⟨gx, 0, none⟩) p.length cap3) (p.set i z))
        go_wp2_with fail
        refine (sum_any _ (p.set i z) _ (unhide HRX)).mono ?_
        rintro e w11 ⟨rfl, hw11⟩
        have HK11 := hide (by rw [hw11]; exact unhide HKN : Kept [] w w11)
        clear hw11
        go_wp2_with fail
        refine (sum_any _ p _ ((unhide H).old (unhide HK11) (by simp))).mono ?_
        rintro e w12 ⟨rfl, rfl⟩
        have hne' : ((upd 0 (p.set i z) : Int) != (upd 0 p : Int)) = true := by rw [bne_iff_ne]; omega
        go_wp2
        go_ret
        exact ⟨rfl, (unhide HK11).below (Nat.le_refl _) (by simp)⟩
end Go.Proofs.YtagpmgbmfoojiabDoor
