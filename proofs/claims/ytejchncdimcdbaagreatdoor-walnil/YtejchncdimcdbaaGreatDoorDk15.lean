import Derived.Test.YtejchncdimcdbaaGreatDoorDk14
namespace Go.Proofs.YtejchncdimcdbaaGreatDoor
open Go.RowKit Go.BigFrame
set_option linter.unusedVariables false
set_option linter.unusedSimpArgs false

theorem owns_le {w : World} {base e n cap m : Nat} {v : Value} {xs : List Value} {ao : Option Addr} (h : w.ownsRow base e 1 v n xs) (hv : v = .slice ao m cap) : n ≤ cap := by
  rcases h.2 with ⟨h1, h2⟩ | ⟨g, c, cur, h1, _, _, h4, _⟩
  · omega
  · rw [hv] at h1
    injection h1 with _ _ h1
    omega

theorem owns_cut {w : World} {base : Nat} {a : Option Addr} {m c : Nat} {bs : List Nat} (h : w.ownsRow base 5 1 (.slice a m c) bs.length (bs.map u8)) (n : Nat) (hn : n ≤ bs.length) : w.ownsRow base 5 1 (.slice a n c) (bs.take n).length ((bs.take n).map u8) := by
  have hl : (bs.take n).length = n := by rw [List.length_take]; omega
  refine ⟨by simp, ?_⟩
  rcases h.2 with ⟨h9, h0⟩ | ⟨g, cap, cur, h1, h2, h3, h4, h5, h6, h7⟩
  · cases h9
    exact .inl ⟨by rw [show n = 0 by omega], by omega⟩
  · cases h1
    refine .inr ⟨g, c, cur, by rw [hl], h2, h3, by omega, h5, h6, ?_⟩
    rw [Nat.mul_one] at h7 ⊢
    rw [List.map_take, ← h7, List.take_take, hl, Nat.min_eq_left (by omega)]

set_option maxRecDepth 100000 in
set_option maxHeartbeats 1000000 in
theorem settle_plain (f : DFile) (w : World) (kn : ByteArray) (kb : Int) (tn : Bool) (sec : Nat) (hf : FileAt w f) (hlen : f.bs.length ≤ 140737488350000) (n : Nat) (hn : n = f.sy + (wtn kb ((f.bs.length : Int) - f.sy)).toNat) (ht : tn = true → ¬ n < f.bs.length) :
    Calls Tryz.prog 77 #[.pointer (some ⟨f.g, 0, none⟩), .agg #[.string kn, .int .i64 kb, .bool tn], .int .i64 sec] w fun e w' => ∃ v', e = .returned (.tuple #[]) ∧ FileAt w' { f with v := v', bs := f.bs.take n, sy := n } ∧ Kept [f.g] w w' ∧ blk v' = blk f.v := by
  have k0 := (Kept.refl [] w).alloc (.cells #[.string kn, .int .i64 kb, .bool tn] 157 (0, 0))
  have hkr := heap_alloc_new w (.cells #[.string kn, .int .i64 kb, .bool tn] 157 (0, 0))
  replace hf := hf.kept k0 (by simp) (by simp)
  have HKR := hide hkr
  have HK0 := hide k0
  clear k0 hkr
  have HF := hide hf
  have c1 := cell_of_row _ _ 1 _ _ _ hf.1
  have c2 := cell_of_row _ _ 2 _ _ _ hf.1
  simp at c1 c2
  have hz1 := frozen_of_row _ _ 1 _ _ hf.1
  have hz2 := frozen_of_row _ _ 2 _ _ hf.1
  obtain ⟨ao, cap, hv⟩ := owns_shape hf.2.1
  rw [hv] at c1
  have hsy := hf.2.2.2
  have hcap := owns_le hf.2.1 hv
  clear hf
  obtain ⟨k, hk⟩ : ∃ k : Nat, wtn kb ((f.bs.length : Int) - f.sy) = k := ⟨(wtn kb ((f.bs.length : Int) - f.sy)).toNat, by unfold wtn; omega⟩
  have hkn : f.sy + k ≤ f.bs.length := by unfold wtn at hk; omega
  have hwt := fun x : World => within_any kb ((f.bs.length : Int) - f.sy) x
  simp only [hk] at hwt
  have HWT := hide hwt
  have HKK := hide hk
  clear hwt hk
  go_enter Tryz.func77, Tryz.ntmps77
  go_wp2_with fail
  obtain ⟨W0, hW0⟩ : ∃ W, w.alloc (.cells #[.string kn, .int .i64 kb, .bool tn] 157 (0, 0)) = W := ⟨_, rfl⟩
  rw [hW0] at HK0 HKR HF c1 c2 hz1 hz2 ⊢
  clear hW0
  have e1 := cell_of_row _ _ 1 _ _ _ (unhide HKR)
  have e2 := cell_of_row _ _ 2 _ _ _ (unhide HKR)
  simp at e1 e2
  refine wp_quiet_tail 16 (by kernel_rfl) (by kernel_rfl) ?_
  simp only [List.take_succ_cons, List.take_zero, List.drop_succ_cons, List.drop_zero]
  repeat (go_big_quiet_step (exact Calls.mono (unhide HWT _) (fun e x h => ⟨h.1, _, h.2⟩)))
  refine wpQuiet_nil ?_
  rintro _ ⟨n1, rfl⟩
  go_wp2_with fail
  have HK1 := hide ((((Kept.refl [f.g] W0).drewN n1)).setCell (p := ⟨f.g, 2, none⟩) (.inl (by simp)) (.int .i64 ((f.sy : Int) + k)))
  have HG1 := hide (heap_setCell_same (W0.drewN n1) _ 2 _ _ (.int .i64 ((f.sy : Int) + k)) (unhide HF).1)
  have HGW := hide (cells_ne (unhide HKR) (unhide HF).1 (by decide))
  obtain ⟨W1, hW1⟩ : ∃ W, (W0.drewN n1).setCell ⟨f.g, 2, none⟩ (.int .i64 ((f.sy : Int) + k)) = W := ⟨_, rfl⟩
  rw [hW1] at HK1 HG1 ⊢
  clear hW1 c1 c2 e1 e2 hz1 hz2
  have HKR1 := hide ((unhide HK1).heap (unhide HKR) (by simpa using unhide HGW))
  have c1 := cell_of_row _ _ 1 _ _ _ (unhide HG1)
  have c2 := cell_of_row _ _ 2 _ _ _ (unhide HG1)
  simp at c1 c2
  rw [hv] at c1
  have hz1 := frozen_of_row _ _ 1 _ _ (unhide HG1)
  have hcl : (f.sy : Int) + k ≤ (cap : Int) := by omega
  have hnn : ¬ (f.sy : Int) + k < 0 := by omega
  refine wp_quiet_tail 12 (by kernel_rfl) (by kernel_rfl) ?_
  simp only [List.take_succ_cons, List.take_zero, List.drop_succ_cons, List.drop_zero]
  repeat (go_big_quiet_step (fail))
  refine wpQuiet_nil ?_
  rintro _ ⟨n2, rfl⟩
  have hgw := unhide HGW
  have hwg := fun e => unhide HGW (Eq.symm e)
  have e2 := cell_of_row _ _ 2 _ _ _ (unhide HKR1)
  simp at e2
  have hz2 := frozen_of_row _ _ 2 _ _ (unhide HG1)
  have hnk : n = f.sy + k := by rw [hn, unhide HKK]; simp
  subst hnk
  clear hn
  have HFIN := hide (by
    have hfile := unhide HF
    have hr2 := heap_setCell_same _ _ 2 _ _ (.int .i64 ((f.sy : Int) + k)) (heap_setCell_same (W1.drewN n2) _ 1 _ _ (.slice ao (f.sy + k) cap) (unhide HG1))
    have k2 := (((unhide HK1).drewN n2).setCell (p := ⟨f.g, 1, none⟩) (.inl (by simp)) (.slice ao (f.sy + k) cap)).setCell (p := ⟨f.g, 2, none⟩) (.inl (by simp)) (.int .i64 ((f.sy : Int) + k))
    have ho := owns_cut (by rw [← hv]; exact hfile.2.1) (f.sy + k) hkn
    refine ⟨.slice ao (f.sy + k) cap, ⟨?_, k2.owns ho ?_, fun x hx => hfile.2.2.1 x (List.mem_of_mem_take hx), ?_⟩, ((unhide HK0).mono (by simp)).trans k2 (fun x hx => .inl hx), ?_⟩
    · have : ((f.sy + k : Nat) : Int) = (f.sy : Int) + k := by omega
      rw [this]
      exact hr2
    · intro x hx
      have hx2 : x ∈ blk f.v := by
        rw [hv]
        cases ao with
        | none => cases hx
        | some a => exact own_blk (v := .slice (some a) f.bs.length cap) hx
      obtain ⟨cs, hc⟩ := owns_cells hfile.2.1 hx2
      simpa using cells_ne hc hfile.1 (by decide)
    · show f.sy + k ≤ (f.bs.take (f.sy + k)).length
      rw [List.length_take]
      omega
    · rw [hv]
      cases ao <;> rfl : ∃ v', FileAt (((W1.drewN n2).setCell ⟨f.g, 1, none⟩ (.slice ao (f.sy + k) cap)).setCell ⟨f.g, 2, none⟩ (.int .i64 ((f.sy : Int) + k))) { f with v := v', bs := f.bs.take (f.sy + k), sy := f.sy + k } ∧ Kept [f.g] w (((W1.drewN n2).setCell ⟨f.g, 1, none⟩ (.slice ao (f.sy + k) cap)).setCell ⟨f.g, 2, none⟩ (.int .i64 ((f.sy : Int) + k))) ∧ blk v' = blk f.v)
  cases tn
  · go_wp2_with fail
    obtain ⟨v', r⟩ := unhide HFIN
    rw [hv] at r
    exact bodyPost_end (v := .tuple #[]) (results_none rfl _ _ _) rfl ⟨rfl, v', r⟩
  · have hl2 : ¬ (f.sy : Int) + k < f.bs.length := by have := ht rfl; omega
    clear ht
    go_wp2_with fail
    obtain ⟨v', r⟩ := unhide HFIN
    rw [hv] at r
    exact bodyPost_end (v := .tuple #[]) (results_none rfl _ _ _) rfl ⟨rfl, v', r⟩
end Go.Proofs.YtejchncdimcdbaaGreatDoor
