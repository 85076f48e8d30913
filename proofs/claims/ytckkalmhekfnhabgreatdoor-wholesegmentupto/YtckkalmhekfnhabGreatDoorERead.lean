import Derived.Test.YtckkalmhekfnhabGreatDoorESame
import Derived.Defers
import Derived.Recover
namespace Go.Proofs.YtckkalmhekfnhabGreatDoor
open Go.RowKit Go.BigFrame
set_option linter.unusedVariables false
set_option linter.unusedSimpArgs false

theorem Kept.setRowE {L : List Nat} {a w : World} (h : Kept L a w) {g : Nat} (hg : g ∈ L ∨ a.heap.size ≤ g) (cs : Array Value) : Kept L a (w.setRow g cs) :=
  h.trans (M := [g]) ⟨rfl, rfl, rfl, by simp [World.setRow], fun k _ hn => setRow_other w g k _ (by simpa using hn)⟩ (by simpa using hg)
theorem row3_one {a b c : Value} (ha : a.oneCell' = true) (hb : b.oneCell' = true) (hc : c.oneCell' = true) : (#[a, b, c] : Array Value).all (·.oneCell') = true := by simp [ha, hb, hc]
/-- What a decoder throws. -/
def gave (f : Nat) : List PanicEntry := [{ v := .iface 199 (.agg #[.int .i64 (f : Int)]), recovered := false }]

set_option maxRecDepth 100000 in
set_option maxHeartbeats 1000000 in
theorem demand_ok (w : World) : Calls Tryz.prog 116 #[.int .i64 0] w fun r w' => r = .returned (.tuple #[]) ∧ w' = w := by
  go_enter Tryz.func116, Tryz.ntmps116
  go_wp2
  go_end0
  exact ⟨rfl, rfl⟩

set_option maxRecDepth 100000 in
set_option maxHeartbeats 1000000 in
theorem demand_bad (f : Nat) (w : World) (hf : f ≠ 0) : Calls Tryz.prog 116 #[.int .i64 f] w fun r w' => r = .panicked (gave f) ∧ w' = w := by
  have hb : ((f : Int) != 0) = true := by rw [bne_iff_ne]; omega
  go_enter Tryz.func116, Tryz.ntmps116
  go_wp2
  exact ⟨rfl, rfl, rfl⟩

/-- An entry off a reader: what is told, the place behind it, the fault (thrown where it is not 0). -/
def takeE (p : List Nat) (i : Nat) : En × Nat × Nat :=
  if (rNum p i 0 1).1 % 256 = 1 ∨ (rNum p i 0 1).1 % 256 = 2 then
    if (rNum p i 0 1).1 % 256 = 1 then
      (⟨1, (rBlob p (rNum p i 0 1).2.1 (rNum p i 0 1).2.2 64).1, (rBlob p (rBlob p (rNum p i 0 1).2.1 (rNum p i 0 1).2.2 64).2.1 (rBlob p (rNum p i 0 1).2.1 (rNum p i 0 1).2.2 64).2.2 256).1⟩,
        (rBlob p (rBlob p (rNum p i 0 1).2.1 (rNum p i 0 1).2.2 64).2.1 (rBlob p (rNum p i 0 1).2.1 (rNum p i 0 1).2.2 64).2.2 256).2)
    else (⟨2, (rBlob p (rNum p i 0 1).2.1 (rNum p i 0 1).2.2 64).1, []⟩, (rBlob p (rNum p i 0 1).2.1 (rNum p i 0 1).2.2 64).2)
  else (⟨0, [], []⟩, (rNum p i 0 1).2.1, 3)
def TookE (w w' : World) (b : Nat) (gv : Value) (p : List Nat) (x : En × Nat × Nat) (r : Ending) : Prop :=
  (x.2.2 = 0 → ∃ kv vv, r = .returned (.agg (enC x.1 kv vv)) ∧ OkE w' x.1 kv vv ∧ ReAt w' b gv p x.2.1 0 ∧ ∀ y, y ∈ blk kv ∨ y ∈ blk vv → w.heap.size ≤ y) ∧ (x.2.2 ≠ 0 → r = .panicked (gave x.2.2)) ∧ Kept [b] w w'

set_option maxRecDepth 100000 in
set_option maxHeartbeats 2000000 in
theorem takeEntry_any (b : Nat) (gv : Value) (p : List Nat) (i : Nat) (w : World) (h : ReAt w b gv p i 0) (hgv : ∀ x ∈ blk gv, x < w.heap.size) :
    Calls Tryz.prog 142 #[.pointer (some ⟨b, 0, none⟩)] w fun r w' => TookE w w' b gv p (takeE p i) r := by
  have H := hide h
  have hlt := h.lt
  obtain ⟨T, hT⟩ : ∃ T, takeE p i = T := ⟨_, rfl⟩
  rw [hT]
  have HT := hide hT
  unfold takeE at HT
  clear hT h
  have HZ := hide (heap_alloc_new w (.cells #[.int .u8 0, .slice none 0 0, .slice none 0 0] 44))
  have HK0 := hide ((Kept.refl [b] w).alloc (.cells #[.int .u8 0, .slice none 0 0, .slice none 0 0] 44))
  have HR0 := hide ((unhide H).kept ((Kept.refl [] w).alloc (.cells #[.int .u8 0, .slice none 0 0, .slice none 0 0] 44)) (by simp) (by simp))
  go_enter Tryz.func142, Tryz.ntmps142
  go_wp2_with fail
  refine Calls.mono (ru8_any b gv p i 0 _ (unhide HR0)) ?_
  rintro r w1 ⟨rfl, r1, k1⟩
  have hne0 : w.heap.size ≠ b := by omega
  have HZ1 := hide (k1.heap (unhide HZ) (by simpa using hne0))
  have HK1 := hide ((unhide HK0).trans k1 (by simp))
  obtain ⟨x, hx⟩ : ∃ x, rNum p i 0 1 = x := ⟨_, rfl⟩
  rw [hx] at HT r1 ⊢
  clear hx
  obtain ⟨x, i1, e1⟩ := x
  simp only at HT r1 ⊢
  have HR1 := hide r1
  clear r1 k1
  obtain ⟨k, hk⟩ : ∃ k, x % 256 = k := ⟨_, rfl⟩
  have hkl : k < 256 := by rw [← hk]; exact Nat.mod_lt _ (by decide)
  rw [hk] at HT ⊢
  clear hk
  have hs1 := (unhide HK1).size
  have hs1' : w.heap.size < w1.heap.size := by have := (unhide HK1).size; have h9 := lt_of_block (unhide HZ1); exact h9
  have HG1 := hide (heap_alloc_new w1 (.cells #[.int .u8 (k : Int), .slice none 0 0, .slice none 0 0] 44))
  go_wp2_with fail
  refine Calls.mono (isKind_any k _) ?_
  rintro r w2 ⟨rfl, rfl⟩
  have HK1a := hide ((unhide HK1).alloc (.cells #[.int .u8 (k : Int), .slice none 0 0, .slice none 0 0] 44))
  have HRW := hide ((unhide HR1).kept ((Kept.refl [] w1).alloc (.cells #[.int .u8 (k : Int), .slice none 0 0, .slice none 0 0] 44)) (by simp) (by simp))
  by_cases hk12 : ¬ (k = 1 ∨ k = 2)
  · rw [decide_eq_false hk12]
    have HT2 := hide (by rw [← unhide HT, if_neg hk12] : T = (⟨0, [], []⟩, i1, 3))
    clear hk12
    go_wp2_with fail
    refine Calls.mono (demand_bad 3 _ (by decide)) ?_
    rintro r w3 ⟨rfl, rfl⟩
    exact ⟨rfl, fun h => absurd h (by rw [unhide HT2]; simp), fun _ => by rw [unhide HT2], unhide HK1a⟩
  replace hk12 := Decidable.not_not.1 hk12
  rw [decide_eq_true hk12]
  have HT1 := hide (by have h9 := unhide HT; rw [if_pos hk12] at h9; exact h9)
  have HK12 := hide hk12
  clear hk12 HT
  go_wp2_with fail
  refine Calls.mono (rblob_any b gv p i1 e1 64 _ (unhide HRW) (by decide)) ?_
  rintro r w3 ⟨kv, rfl, rd3, r3, k3, n3⟩
  obtain ⟨y, hy⟩ : ∃ y, rBlob p i1 e1 64 = y := ⟨_, rfl⟩
  rw [hy] at HT1 rd3 r3
  clear hy
  obtain ⟨key, i2, e2⟩ := y
  simp only at HT1 rd3 r3
  have hneg : w1.heap.size ≠ b := by omega
  have HG3 := hide (k3.heap (unhide HG1) (by simpa using hneg))
  have HZ3 := hide (k3.heap ((Kept.refl [] w1).alloc (.cells #[.int .u8 (k : Int), .slice none 0 0, .slice none 0 0] 44) |>.heap (unhide HZ1) (by simp)) (by simpa using hne0))
  have HK3 := hide ((unhide HK1a).trans k3 (by simp))
  have HN3 := hide (show ∀ x ∈ blk kv, w1.heap.size + 1 ≤ x from fun x hx => by have h9 := n3 x hx; rw [show (w1.alloc (.cells #[.int .u8 (k : Int), .slice none 0 0, .slice none 0 0] 44)).heap.size = w1.heap.size + 1 from Array.size_push _] at h9; exact h9)
  obtain ⟨a3, m3, c3, hu3, _⟩ := id rd3
  subst hu3
  have HD3 := hide rd3
  have HR3 := hide r3
  clear rd3 r3 k3 n3
  have s0 := cell_of_row _ _ 0 _ _ _ (unhide HG3)
  have s1 := cell_of_row _ _ 1 _ _ _ (unhide HG3)
  have f1 := frozen_of_row _ _ 1 _ _ (unhide HG3)
  have HG4 := hide (by have h9 := heap_setCell_same _ w1.heap.size 1 _ 44 (.slice a3 m3 c3) (unhide HG3); exact h9 : (w3.setCell ⟨w1.heap.size, 1, none⟩ (.slice a3 m3 c3)).heap[w1.heap.size]? = some (.cells #[.int .u8 (k : Int), .slice a3 m3 c3, .slice none 0 0] 44 (0, 0)))
  have kst := (Kept.refl [w1.heap.size] w3).setCell (p := ⟨w1.heap.size, 1, none⟩) (Or.inl (by simp)) (.slice a3 m3 c3)
  have HZ4 := hide (kst.heap (unhide HZ3) (by simp; omega))
  have HK4 := hide ((unhide HK3).setCell (p := ⟨w1.heap.size, 1, none⟩) (Or.inr (by show w.heap.size ≤ w1.heap.size; omega)) (.slice a3 m3 c3))
  have HR4 := hide ((unhide HR3).kept kst (by simp; omega) (fun x hx => by simp; have h9 := hgv x hx; omega))
  have HD4 := hide ((unhide HD3).kept kst (fun x hx => by simp; have h9 := unhide HN3 x hx; omega))
  clear kst
  have t0 := cell_of_row _ _ 0 _ _ _ (unhide HG4)
  by_cases hk1 : k = 1
  · have hb1 : ((k : Int) == 1) = true := by rw [hk1]; rfl
    have HT2 := hide (by have h9 := unhide HT1; rw [if_pos hk1] at h9; exact h9.symm)
    have HKK := hide hk1
    clear hk1 HT1
    go_wp2_with fail
    obtain ⟨W4, hW4⟩ : ∃ W, w3.setCell ⟨w1.heap.size, 1, none⟩ (.slice a3 m3 c3) = W := ⟨_, rfl⟩
    rw [hW4] at HG4 HZ4 HK4 HR4 HD4 t0 ⊢
    clear hW4 s0 s1 f1 HG3 HR3 HD3
    refine Calls.mono (rblob_any b gv p i2 e2 256 W4 (unhide HR4) (by decide)) ?_
    rintro r w5 ⟨vv, rfl, rd5, r5, k5, n5⟩
    obtain ⟨y, hy⟩ : ∃ y, rBlob p i2 e2 256 = y := ⟨_, rfl⟩
    rw [hy] at HT2 rd5 r5
    clear hy
    obtain ⟨val, iF, eF⟩ := y
    simp only at HT2 rd5 r5
    have HG5 := hide (k5.heap (unhide HG4) (by simpa using hneg))
    have HZ5 := hide (k5.heap (unhide HZ4) (by simpa using hne0))
    have HK5 := hide ((unhide HK4).trans k5 (by simp))
    have hsz4 : w1.heap.size < W4.heap.size := lt_of_block (unhide HG4)
    have HN5 := hide (show ∀ x ∈ blk vv, w1.heap.size + 1 ≤ x from fun x hx => by have h9 := n5 x hx; omega)
    have HD5 := hide ((unhide HD4).kept k5 (fun x hx => by simp; have h9 := unhide HN3 x hx; omega))
    obtain ⟨a5, m5, c5, hu5, _⟩ := id rd5
    subst hu5
    have HV5 := hide rd5
    have HR5 := hide r5
    clear rd5 r5 k5 n5
    have s2 := cell_of_row _ _ 2 _ _ _ (unhide HG5)
    have f2 := frozen_of_row _ _ 2 _ _ (unhide HG5)
    have kst := (Kept.refl [w1.heap.size] w5).setCell (p := ⟨w1.heap.size, 2, none⟩) (Or.inl (by simp)) (.slice a5 m5 c5)
    have HGF := hide (by have h9 := heap_setCell_same _ w1.heap.size 2 _ 44 (.slice a5 m5 c5) (unhide HG5); exact h9 : (w5.setCell ⟨w1.heap.size, 2, none⟩ (.slice a5 m5 c5)).heap[w1.heap.size]? = some (.cells #[.int .u8 (k : Int), .slice a3 m3 c3, .slice a5 m5 c5] 44 (0, 0)))
    have HZF := hide (kst.heap (unhide HZ5) (by simp; omega))
    have HKF := hide ((unhide HK5).setCell (p := ⟨w1.heap.size, 2, none⟩) (Or.inr (by show w.heap.size ≤ w1.heap.size; omega)) (.slice a5 m5 c5))
    have HRF := hide ((unhide HR5).kept kst (by simp; omega) (fun x hx => by simp; have h9 := hgv x hx; omega))
    have HDF := hide ((unhide HD5).kept kst (fun x hx => by simp; have h9 := unhide HN3 x hx; omega))
    have HVF := hide ((unhide HV5).kept kst (fun x hx => by simp; have h9 := unhide HN5 x hx; omega))
    clear kst
    go_wp2_with fail
    obtain ⟨WF, hWF⟩ : ∃ W, w5.setCell ⟨w1.heap.size, 2, none⟩ (.slice a5 m5 c5) = W := ⟨_, rfl⟩
    rw [hWF] at HGF HZF HKF HRF HDF HVF ⊢
    clear hWF s2 f2
    have krow := (Kept.refl [w.heap.size] WF).setRowE (g := w.heap.size) (Or.inl (by simp)) #[.int .u8 (k : Int), .slice a3 m3 c3, .slice a5 m5 c5]
    have HRR := hide ((unhide HRF).kept krow (by simp; omega) (fun x hx => by simp; have h9 := hgv x hx; omega))
    have HOKF := hide (⟨by show (1 : Nat) < 256; omega, (unhide HDF).kept krow (fun x hx => by simp; have h9 := unhide HN3 x hx; omega), (unhide HVF).kept krow (fun x hx => by simp; have h9 := unhide HN5 x hx; omega)⟩ : OkE (WF.setRow w.heap.size #[.int .u8 (k : Int), .slice a3 m3 c3, .slice a5 m5 c5]) ⟨1, key, val⟩ (.slice a3 m3 c3) (.slice a5 m5 c5))
    have HNEW := hide (show ∀ y, y ∈ blk (.slice a3 m3 c3) ∨ y ∈ blk (.slice a5 m5 c5) → w.heap.size ≤ y from fun y hy => by rcases hy with h | h; have h9 := unhide HN3 y h; omega; have h9 := unhide HN5 y h; omega)
    clear krow
    go_wp2_with fail
    refine Calls.mono (rerr_any b gv p iF eF WF (unhide HRF)) ?_
    rintro r w5 ⟨rfl, rfl⟩
    by_cases hE : eF = 0
    · subst hE
      go_wp2_with fail
      refine Calls.mono (demand_ok _) ?_
      rintro r w6 ⟨rfl, rfl⟩
      go_wp2_with (first
        | (refine wpList_load_row rfl 44 _ rfl w1.heap.size rfl _ #[.int .u8 (k : Int), .slice a3 m3 c3, .slice a5 m5 c5] (0, 0) _ (unhide HGF) Tryz.underlying44 rfl Tryz.size_entry ?_)
        | (refine wpList_store_row rfl 44 _ _ rfl w.heap.size #[.int .u8 (k : Int), .slice a3 m3 c3, .slice a5 m5 c5] rfl rfl _ #[.int .u8 0, .slice none 0 0, .slice none 0 0] (unhide HZF) Tryz.size_entry rfl (row3_one rfl rfl rfl) ?_))
      refine bodyPost_ret (v := .agg #[.int .u8 (k : Int), .slice a3 m3 c3, .slice a5 m5 c5]) ?_ rfl ⟨fun _ => ⟨.slice a3 m3 c3, .slice a5 m5 c5, by rw [unhide HT2, unhide HKK]; rfl, ?_, ?_, ?_⟩, fun h => absurd (by rw [unhide HT2]) h, (unhide HKF).setRowE (Or.inr (Nat.le_refl _)) _⟩
      · exact results_cell_row rfl _ _ w.heap.size _ #[.int .u8 (k : Int), .slice a3 m3 c3, .slice a5 m5 c5] (0, 0) _ rfl (setRow_heap _ _ _ _ _ _ (unhide HZF)) Tryz.underlying44 rfl Tryz.size_entry
      · rw [unhide HT2]; exact unhide HOKF
      · rw [unhide HT2]; exact unhide HRR
      · exact unhide HNEW
    · have HT3 := hide (by rw [unhide HT2]; exact hE : T.2.2 ≠ 0)
      have HE := hide hE
      go_wp2_with fail
      refine Calls.mono (demand_bad eF _ hE) ?_
      rintro r w6 ⟨rfl, rfl⟩
      exact ⟨rfl, fun h => absurd h (unhide HT3), fun _ => by rw [unhide HT2], unhide HKF⟩
  · have hb1 : ((k : Int) == 1) = false := by rw [beq_eq_false_iff_ne]; omega
    have hk2 : k = 2 := by have h9 := unhide HK12; omega
    have HT2 := hide (by have h9 := unhide HT1; rw [if_neg hk1] at h9; exact h9.symm)
    have HKK := hide hk2
    clear hk1 hk2 HT1
    go_wp2_with fail
    obtain ⟨WF, hWF⟩ : ∃ W, w3.setCell ⟨w1.heap.size, 1, none⟩ (.slice a3 m3 c3) = W := ⟨_, rfl⟩
    rw [hWF] at HG4 HZ4 HK4 HR4 HD4 t0 ⊢
    clear hWF s0 s1 f1 HG3 HR3 HD3
    have HGF := HG4
    have HZF := HZ4
    have HKF := HK4
    have HRF := HR4
    have krow := (Kept.refl [w.heap.size] WF).setRowE (g := w.heap.size) (Or.inl (by simp)) #[.int .u8 (k : Int), .slice a3 m3 c3, .slice none 0 0]
    have HRR := hide ((unhide HRF).kept krow (by simp; omega) (fun x hx => by simp; have h9 := hgv x hx; omega))
    have HOKF := hide (⟨by show (2 : Nat) < 256; omega, (unhide HD4).kept krow (fun x hx => by simp; have h9 := unhide HN3 x hx; omega), Rd.nil _⟩ : OkE (WF.setRow w.heap.size #[.int .u8 (k : Int), .slice a3 m3 c3, .slice none 0 0]) ⟨2, key, []⟩ (.slice a3 m3 c3) (.slice none 0 0))
    have HNEW := hide (show ∀ y, y ∈ blk (.slice a3 m3 c3) ∨ y ∈ blk (.slice none 0 0) → w.heap.size ≤ y from fun y hy => by rcases hy with h | h; have h9 := unhide HN3 y h; omega; simp [blk] at h)
    clear krow
    go_wp2_with fail
    refine Calls.mono (rerr_any b gv p i2 e2 WF (unhide HRF)) ?_
    rintro r w5 ⟨rfl, rfl⟩
    by_cases hE : e2 = 0
    · subst hE
      go_wp2_with fail
      refine Calls.mono (demand_ok _) ?_
      rintro r w6 ⟨rfl, rfl⟩
      go_wp2_with (first
        | (refine wpList_load_row rfl 44 _ rfl w1.heap.size rfl _ #[.int .u8 (k : Int), .slice a3 m3 c3, .slice none 0 0] (0, 0) _ (unhide HGF) Tryz.underlying44 rfl Tryz.size_entry ?_)
        | (refine wpList_store_row rfl 44 _ _ rfl w.heap.size #[.int .u8 (k : Int), .slice a3 m3 c3, .slice none 0 0] rfl rfl _ #[.int .u8 0, .slice none 0 0, .slice none 0 0] (unhide HZF) Tryz.size_entry rfl (row3_one rfl rfl rfl) ?_))
      refine bodyPost_ret (v := .agg #[.int .u8 (k : Int), .slice a3 m3 c3, .slice none 0 0]) ?_ rfl ⟨fun _ => ⟨.slice a3 m3 c3, .slice none 0 0, by rw [unhide HT2, unhide HKK]; rfl, ?_, ?_, ?_⟩, fun h => absurd (by rw [unhide HT2]) h, (unhide HKF).setRowE (Or.inr (Nat.le_refl _)) _⟩
      · exact results_cell_row rfl _ _ w.heap.size _ #[.int .u8 (k : Int), .slice a3 m3 c3, .slice none 0 0] (0, 0) _ rfl (setRow_heap _ _ _ _ _ _ (unhide HZF)) Tryz.underlying44 rfl Tryz.size_entry
      · rw [unhide HT2]; exact unhide HOKF
      · rw [unhide HT2]; exact unhide HRR
      · exact unhide HNEW
    · have HT3 := hide (by rw [unhide HT2]; exact hE : T.2.2 ≠ 0)
      have HE := hide hE
      go_wp2_with fail
      refine Calls.mono (demand_bad e2 _ hE) ?_
      rintro r w6 ⟨rfl, rfl⟩
      exact ⟨rfl, fun h => absurd h (unhide HT3), fun _ => by rw [unhide HT2], unhide HKF⟩
end Go.Proofs.YtckkalmhekfnhabGreatDoor
