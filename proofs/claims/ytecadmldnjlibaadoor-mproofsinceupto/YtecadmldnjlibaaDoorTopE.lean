import Derived.Test.YtecadmldnjlibaaDoorTopD
import Derived.Test.YtecadmldnjlibaaDoorTopC
import Derived.Test.YtecadmldnjlibaaDoorRowz
import Derived.Deep.RegionHeld3
import Derived.Test.YtecadmldnjlibaaDoorQTail
import Derived.Test.YtecadmldnjlibaaDoorQKeep
import Derived.Test.YtecadmldnjlibaaDoorBase
import Derived.Test.YtecadmldnjlibaaDoorCards
import Derived.Test.YtecadmldnjlibaaDoorTie
import Derived.ProofKit
import Derived.OpenShut
import Derived.Deep.Slices
import Derived.SizedLaws
import Derived.Test.YtecadmldnjlibaaDoorDForm
namespace Go.Proofs.YtecadmldnjlibaaDoor
open Go.RowKit Go.BigFrame
set_option linter.unusedVariables false
set_option linter.unusedSimpArgs false

theorem RdD.fromT {w : World} {b off n c m c' off' : Nat} {ds : List (List Nat)} (h : RdD w (.slice (some ⟨b, off, none⟩) n c) ds) (hm : m ≤ n) (hc' : n - m ≤ c' ∧ c' ≤ 9223372036854775807) (ho : m < n → off' = off + m * 32) : RdD w (.slice (some ⟨b, off', none⟩) (n - m) c') (ds.drop m) := by
  obtain ⟨_, _, _, e, h1, h2, h3, h4, h5⟩ := h
  cases e
  refine ⟨_, n - m, c', rfl, by simp [h1], hc'.1, hc'.2, fun d hd => h4 d (List.mem_of_mem_drop hd), fun hp => ?_⟩
  obtain ⟨b', o', e, hc⟩ := h5 (by omega)
  cases e
  have ho2 := ho (by omega)
  subst ho2
  refine ⟨_, _, rfl, fun i hi => ?_⟩
  have h9 := hc (m + i) (by omega)
  rw [show off + (m + i) * 32 = off + m * 32 + i * 32 by omega] at h9
  rw [List.getD_eq_getElem?_getD, List.getElem?_drop, ← List.getD_eq_getElem?_getD]
  exact h9

set_option maxRecDepth 100000 in
set_option maxHeartbeats 400000 in
theorem below_any (k : Nat) (w : World) (h2 : 2 ≤ k) (hk : k < 4611686018427387904) :
    Calls Tryd.prog 39 #[.int .u64 k] w fun e w' => e = .returned (.int .u64 (belT k)) ∧ w' = w := by
  have hs : IntKind.u64.wrap ((k : Int) - 1) = ((k - 1 : Nat) : Int) := by rw [wrU]; omega
  have HB := hide (fun j (h : 2 ^ j ≤ k - 1) (h' : k - 1 < 2 ^ (j + 1)) => (by unfold belT; rw [(Nat.log2_eq_iff (by omega)).2 ⟨h, h'⟩] : belT k = 2 ^ j))
  obtain ⟨k1, hk1⟩ : ∃ k1, k - 1 = k1 := ⟨_, rfl⟩
  rw [hk1] at hs HB
  have h1 : 1 ≤ k1 := by omega
  have h3 : k1 < 4611686018427387904 := by omega
  obtain ⟨B, hBe⟩ : ∃ B, belT k = B := ⟨_, rfl⟩
  rw [hBe] at HB ⊢
  clear hBe hk1
  go_enter Tryd.func39, Tryd.ntmps39
  go_wp2_with fail
  go_loopw [3] (fun t3 wr => ∃ (m : Nat), t3 = .int .u64 (m : Int) ∧ 1 ≤ m ∧ m ≤ k1 ∧ Hid (∃ j, m = 2 ^ j) ∧ wr = w) (fun t _ => k1 - (intOf t).toNat)
  case atStart => exact ⟨1, rfl, by omega, by omega, hide ⟨0, rfl⟩, rfl⟩
  case round =>
    obtain ⟨m, rfl, hm1, hm2, HJ, rfl⟩ := hrel
    by_cases hle : 2 * m ≤ k1
    · have hle' : (m : Int) ≤ (k1 : Int) / 2 := by omega
      have hmul : IntKind.u64.wrap ((m : Int) * 2) = ((2 * m : Nat) : Int) := by rw [wrU]; omega
      have HJ2 := hide (by obtain ⟨j, hj⟩ := unhide HJ; exact ⟨j + 1, by rw [Nat.pow_succ]; omega⟩ : ∃ j, 2 * m = 2 ^ j)
      go_wp2_with (first | simp only [hs] | simp only [hmul])
      refine ⟨⟨2 * m, rfl, by omega, by omega, HJ2, by trivial⟩, ?_⟩
      simp [intOf]
      omega
    · have hle' : ¬ (m : Int) ≤ (k1 : Int) / 2 := by omega
      have HE := hide (by obtain ⟨j, hj⟩ := unhide HJ; rw [hj]; exact unhide HB j (by omega) (by rw [Nat.pow_succ]; omega) : B = m)
      go_wp2_with (simp only [hs])
      go_ret
      exact ⟨by rw [unhide HE]; rfl, rfl⟩

set_option maxRecDepth 100000 in
set_option maxHeartbeats 400000 in
theorem logR_nil (k : Nat) (hk : 1 ≤ k ∧ k ≤ 32) (v : Value) (w : World) (hv : RdD w v []) :
    Calls Tryd.prog 18 #[.int .i64 k, v] w fun e w' => e = .returned (.agg (brow (noT k))) ∧ Kept [] w w' := by
  obtain ⟨ao, len, cap, rfl, h1, h2, h3, h4, h5⟩ := hv
  simp at h1
  subst h1
  have HZ := hide (heap_alloc_new w (.cells (zb 32) 41))
  have HK := hide ((Kept.refl [] w).alloc (.cells (zb 32) 41))
  have e : noT (k : Int) = cutL k (hash []) := by unfold noT sumD; rw [if_pos (by simp [widthB]; omega), Int.toNat_natCast]
  have HNO := hide (refNoLog_any k (w.alloc (.cells (zb 32) 41)) (by omega))
  rw [← e] at HNO
  have hdl := (noT_dg (k : Int)).1
  generalize noT (k : Int) = D at HNO hdl ⊢
  clear h4 h5 e
  go_enter Tryd.func18, Tryd.ntmps18
  go_wp2_with fail
  rw [zb32]
  refine (unhide HNO).mono ?_
  rintro e w5 ⟨rfl, k5⟩
  have HZ5 := hide (k5.heap (unhide HZ) (by simp))
  have HK5 := hide (((unhide HK).trans k5 (by simp)).setRow (g := w.heap.size) (Or.inr (Nat.le_refl _)) (brow D))
  clear k5
  go_wp2_with (refine wpList_store_row rfl 41 _ _ rfl w.heap.size (brow D) rfl rfl _ (zb 32) (unhide HZ5) (by rw [brow_size, hdl]; exact Tryd.size_dig) (by rw [zb_size, brow_size, hdl]) (brow_one _) ?_)
  refine bodyPost_ret (v := .agg (brow D)) ?_ rfl ⟨rfl, unhide HK5⟩
  exact results_cell_row rfl _ _ w.heap.size _ (brow D) (0, 0) _ rfl (setRow_heap _ _ _ _ _ _ (unhide HZ5)) Tryd.underlying41 rfl (by rw [brow_size, hdl]; exact Tryd.size_dig)

set_option maxRecDepth 100000 in
set_option maxHeartbeats 400000 in
theorem logR_one (k : Nat) (v : Value) (d : List Nat) (w : World) (hv : RdD w v [d]) :
    Calls Tryd.prog 18 #[.int .i64 k, v] w fun e w' => e = .returned (.agg (brow d)) ∧ Kept [] w w' := by
  obtain ⟨ao, len, cap, rfl, h1, h2, h3, h4, h5⟩ := hv
  simp at h1
  subst h1
  obtain ⟨b, o, rfl, hcell⟩ := h5 (by omega)
  have hdl := (h4 d (by simp)).1
  have k0 := (Kept.refl [] w).alloc (.cells (zb 32) 41)
  have HRG := hide (fun j u hj => k0.cell (by have := hcell 0 (by omega) j u hj; simpa using this) (by simp) : (w.alloc (.cells (zb 32) 41)).rangeAt b o (d.map u8))
  have HZ := hide (heap_alloc_new w (.cells (zb 32) 41))
  have HK := hide (k0.setRow (g := w.heap.size) (Or.inr (Nat.le_refl _)) (brow d))
  clear h4 h5 hcell k0
  go_enter Tryd.func18, Tryd.ntmps18
  go_wp2_with (first
    | (rw [zb32]; refine wpList_load_mid rfl 41 (.tmp 15) rfl b o rfl (d.map Go.Proofs.YtecadmldnjlibaaDoor.u8) _ (unhide HRG) Tryd.underlying41 rfl (by rw [List.length_map, hdl]; exact Tryd.size_dig) ?_)
    | (refine wpList_store_row rfl 41 _ _ rfl w.heap.size (brow d) rfl rfl _ (zb 32) (unhide HZ) (by rw [brow_size, hdl]; exact Tryd.size_dig) (by rw [zb_size, brow_size, hdl]) (brow_one _) ?_))
  refine bodyPost_ret (v := .agg (brow d)) ?_ rfl ⟨rfl, unhide HK⟩
  exact results_cell_row rfl _ _ w.heap.size _ (brow d) (0, 0) _ rfl (setRow_heap _ _ _ _ _ _ (unhide HZ)) Tryd.underlying41 rfl (by rw [brow_size, hdl]; exact Tryd.size_dig)

set_option maxRecDepth 100000 in
set_option maxHeartbeats 1000000 in
theorem logR_any (k : Nat) (hk : 1 ≤ k ∧ k ≤ 32) : ∀ (f : Nat) (v : Value) (ls : List (List Nat)) (w : World), ls.length ≤ f → ls.length < 4611686018427387904 → RdD w v ls →
    Calls Tryd.prog 18 #[.int .i64 k, v] w fun e w' => e = .returned (.agg (brow (logT k (noT k) ls))) ∧ Kept [] w w' := by
  intro f
  induction f with
  | zero =>
    intro v ls w h1 _ hv
    have : ls = [] := List.eq_nil_of_length_eq_zero (by omega)
    subst this
    exact logR_nil k hk v w hv
  | succ f ih =>
    intro v ls w hf hl hv
    by_cases h0 : ls.length = 0
    · have : ls = [] := List.eq_nil_of_length_eq_zero h0
      subst this
      exact logR_nil k hk v w hv
    · by_cases h1 : ls.length = 1
      · obtain ⟨x, rfl⟩ : ∃ x, ls = [x] := by
          cases ls with
          | nil => simp at h1
          | cons x r => cases r with
            | nil => exact ⟨x, rfl⟩
            | cons y r => simp at h1
        exact logR_one k v x w hv
      · have hn2 : 2 ≤ ls.length := by omega
        have hbl := belT_lt hn2
        have HDg := hide (fun l => log_dg k (noT k) l (noT_dg k))
        have hdm : ∀ d ∈ ls, Dg d := fun d hd => hv.dg hd
        have HV := hide hv
        obtain ⟨ao, len, cap, rfl, e1, h2, h3, h4, h5⟩ := hv
        obtain ⟨b, o, rfl, _⟩ := h5 (by omega)
        have HCUT := hide (logT_cut (k : Int) (noT k) ls hn2)
        have HBE := hide (fun W => below_any ls.length W hn2 hl)
        have d1 := log_dg (k : Int) (noT k) (ls.take (belT ls.length)) (noT_dg k) (fun d hd => hdm d (List.mem_of_mem_take hd))
        have d2 := log_dg (k : Int) (noT k) (ls.drop (belT ls.length)) (noT_dg k) (fun d hd => hdm d (List.mem_of_mem_drop hd))
        have HR1 := hide (fun W (kk : Kept [] w W) => ih (.slice (some ⟨b, o, none⟩) (belT ls.length) cap) (ls.take (belT ls.length)) W (by rw [List.length_take]; omega) (by rw [List.length_take]; omega) ((RdD.upto (unhide HV) (belT ls.length) (by omega)).old kk))
        have HR2 := hide (fun W (kk : Kept [] w W) => ih (.slice (some ⟨b, o + belT ls.length * 32, none⟩) (ls.length - belT ls.length) (cap - belT ls.length)) (ls.drop (belT ls.length)) W (by rw [List.length_drop]; omega) (by rw [List.length_drop]; omega) ((by have h9 := RdD.fromT (m := belT ls.length) (off' := o + belT ls.length * 32) (c' := cap - belT ls.length) (unhide HV) (by omega) (by omega) (fun _ => rfl); rw [← e1] at h9; exact h9 : RdD w _ _).old kk))
        have HND := hide (fun W => refNode_any k _ _ W hk d1 d2)
        have hD := (nodS_dg (k : Int) (logT k (noT k) (ls.take (belT ls.length))) (logT k (noT k) (ls.drop (belT ls.length)))).1
        have HE := hide (unhide HCUT : logT (k : Int) (noT k) ls = nodS k (logT k (noT k) (ls.take (belT ls.length))) (logT k (noT k) (ls.drop (belT ls.length))))
        rw [unhide HE]
        generalize nodS (k : Int) (logT k (noT k) (ls.take (belT ls.length))) (logT k (noT k) (ls.drop (belT ls.length))) = D at HND hD ⊢
        generalize logT (k : Int) (noT k) (ls.take (belT ls.length)) = D1 at HR1 HND d1
        generalize logT (k : Int) (noT k) (ls.drop (belT ls.length)) = D2 at HR2 HND d2
        generalize belT ls.length = m at HR1 HR2 HBE hbl
        subst e1
        obtain ⟨n, hn⟩ : ∃ n, ls.length = n := ⟨_, rfl⟩
        rw [hn] at HR2 HBE hbl h2 hl hn2 h0 h1 ⊢
        have hwn : IntKind.u64.wrap (n : Int) = (n : Int) := by rw [wrU]; omega
        have k0 := (Kept.refl [] w).alloc (.cells (zb 32) 41)
        have HZ := hide (heap_alloc_new w (.cells (zb 32) 41))
        have HK := hide k0
        have hSZ := hide (by rw [brow_size, hD]; exact Tryd.size_dig : (Tryd.prog.info? 41).map (·.size) = some (brow D).size)
        have q0 : ¬ (n : Int) = 0 := by omega
        have q1 : ¬ (n : Int) = 1 := by omega
        have q2 : ¬ (m : Int) < 0 := by omega
        have q3 : ¬ (cap : Int) < m := by omega
        have q4 : ¬ (n : Int) < m := by omega
        have q5 : ¬ cap = m := by omega
        have q6 : ¬ (cap : Int) = m := by omega
        have q7 : ¬ m = cap := by omega
        clear h4 h5 HV HDg hdm HCUT HE ih k0 h0 h1 hf
        go_enter Tryd.func18, Tryd.ntmps18
        go_wp2_with (simp only [hwn])
        rw [zb32]
        refine (unhide HBE _).mono ?_
        rintro e w1 ⟨rfl, rfl⟩
        go_wp2_with fail
        obtain ⟨X, hX⟩ : ∃ X, w.alloc (.cells (zb 32) 41) = X := ⟨_, rfl⟩
        rw [hX] at HZ HK ⊢
        clear hX
        refine wp_lo13 (by kernel_rfl) (by kernel_rfl) (by kernel_rfl) (by kernel_rfl) (by kernel_rfl) (by kernel_rfl) (by kernel_rfl) (by kernel_rfl) (by kernel_rfl) (by kernel_rfl) (by kernel_rfl) (by kernel_rfl) (by kernel_rfl) (by kernel_rfl) (by kernel_rfl) (by kernel_rfl) (by kernel_rfl) (by kernel_rfl) (by kernel_rfl) (by kernel_rfl) (by kernel_rfl) (by kernel_rfl) (by kernel_rfl) (by kernel_rfl) (by kernel_rfl) rfl rfl rfl rfl
          (.int .i64 (k : Int)) (.int .i64 (k : Int)) (.slice (some ⟨b, o, none⟩) n cap) (.int .u64 (m : Int)) (.slice (some ⟨b, o, none⟩) m cap) (.int .i64 (k : Int)) (.slice (some ⟨b, o, none⟩) n cap) (.int .u64 (m : Int)) (.slice (some ⟨b, o + m * 32, none⟩) (n - m) (cap - m)) _ _ _ _ _ _ _ _ _
          (fun w' => Kept [w.heap.size] X w')
          (fun w' => Kept [] X w')
          (fun u w' => u = .agg (brow D1) ∧ Kept [] X w')
          (fun u y w' => u = .agg (brow D1) ∧ y = .agg (brow D2) ∧ Kept [] X w')
          (fun u y x w' => u = .agg (brow D1) ∧ y = .agg (brow D2) ∧ x = .agg (brow D) ∧ Kept [] X w')
          (fun u y x q w' => w'.heap[w.heap.size]? = some (.cells (brow D) 41 (0, 0)) ∧ Kept [w.heap.size] X w')
          (by simp only [Act.put, List.setIfInBounds_toArray, List.set_cons_zero, List.set_cons_succ]; rfl) (by exact Or.inl ⟨by rfl, fun W' hW' => by go_simp⟩)
          (by simp only [Act.put, List.setIfInBounds_toArray, List.set_cons_zero, List.set_cons_succ]; rfl) (by exact Or.inl ⟨by rfl, fun W' hW' => by go_simp⟩)
          (by simp only [Act.put, List.setIfInBounds_toArray, List.set_cons_zero, List.set_cons_succ]; rfl) (by exact Or.inl ⟨by rfl, fun W' hW' => by go_simp⟩)
          (by simp only [Act.put, List.setIfInBounds_toArray, List.set_cons_zero, List.set_cons_succ]; rfl) (by exact Or.inl ⟨by rfl, fun W' hW' => by go_simp⟩)
          (by simp only [Act.put, List.setIfInBounds_toArray, List.set_cons_zero, List.set_cons_succ]; rfl) (by exact Or.inl ⟨by rfl, fun W' hW' => by go_simp⟩)
          (by simp only [Act.put, List.setIfInBounds_toArray, List.set_cons_zero, List.set_cons_succ]; rfl) (by exact Or.inl ⟨by rfl, fun W' hW' => by go_simp⟩)
          (by simp only [Act.put, List.setIfInBounds_toArray, List.set_cons_zero, List.set_cons_succ]; rfl) (by exact Or.inl ⟨by rfl, fun W' hW' => by go_simp⟩)
          (by simp only [Act.put, List.setIfInBounds_toArray, List.set_cons_zero, List.set_cons_succ]; rfl) (by exact Or.inl ⟨by rfl, fun W' hW' => by go_simp⟩)
          (by simp only [Act.put, List.setIfInBounds_toArray, List.set_cons_zero, List.set_cons_succ]; rfl) (by exact Or.inl ⟨by rfl, fun W' hW' => by go_simp⟩)
          (Kept.refl [] X).drew
          ⟨fun w' h => h.mono (by simp), fun u w' h => h.2.mono (by simp), fun u y w' h => h.2.2.mono (by simp), fun u y x w' h => h.2.2.2.mono (by simp), fun u y x q w' h => h.2⟩
          (by intro w' i K hK; exact wp_callN rfl Tryd.call18 [.int .i64 (k : Int), .slice (some ⟨b, o, none⟩) m cap] rfl (unhide HR1 w' ((unhide HK).trans i (by simp))) (fun e w2 h => ⟨_, h.1, hK _ _ ⟨rfl, i.trans h.2 (by simp)⟩⟩))
          (by rintro u w' ⟨rfl, i⟩ K hK; exact wp_callN rfl Tryd.call18 [.int .i64 (k : Int), .slice (some ⟨b, o + m * 32, none⟩) (n - m) (cap - m)] rfl (unhide HR2 w' ((unhide HK).trans i (by simp))) (fun e w2 h => ⟨_, h.1, hK _ _ ⟨rfl, rfl, i.trans h.2 (by simp)⟩⟩))
          (by
            intro u y w' hh K hK
            simp only [Act.put, List.setIfInBounds_toArray, List.set_cons_zero, List.set_cons_succ] at hK ⊢
            obtain ⟨rfl, rfl, i⟩ := hh
            exact wp_callN rfl Tryd.call30 [.int .i64 (k : Int), .agg (brow D1), .agg (brow D2)] rfl (unhide HND w') (fun e w2 h => ⟨_, h.1, hK _ _ ⟨rfl, rfl, rfl, i.trans h.2 (by simp)⟩⟩))
          (by
            intro u y x w' hh K hK
            simp only [Act.put, List.setIfInBounds_toArray, List.set_cons_zero, List.set_cons_succ] at hK ⊢
            obtain ⟨rfl, rfl, rfl, i⟩ := hh
            exact wp_store_row 41 _ _ rfl w.heap.size (brow D) rfl rfl _ (zb 32) (i.heap (unhide HZ) (by simp)) (unhide hSZ) (by rw [zb_size, brow_size, hD]) (brow_one _) (hK undef _ ⟨setRow_heap _ _ _ _ _ _ (i.heap (unhide HZ) (by simp)), (i.mono (by simp)).setRow (Or.inl (by simp)) _⟩))
          ?_
        rintro u y x1 q Y ⟨hrow, kY⟩
        simp only [Act.put, List.setIfInBounds_toArray, List.set_cons_zero, List.set_cons_succ]
        have HRY := hide hrow
        have HKY := hide ((unhide HK).trans kY (by simp))
        clear hrow kY
        go_wp2_with fail
        refine bodyPost_ret (v := .agg (brow D)) ?_ rfl ⟨rfl, unhide HKY⟩
        exact results_cell_row rfl _ _ w.heap.size _ (brow D) (0, 0) _ rfl (unhide HRY) Tryd.underlying41 rfl (unhide hSZ)

set_option maxRecDepth 100000 in
set_option maxHeartbeats 400000 in
theorem docRange_bad (k : Nat) (v : Value) (ls : List (List Nat)) (lo hi : Nat) (w : World) (hv : RdD w v ls) (hbad : hi < lo ∨ ls.length < hi) (hl : ls.length < 4611686018427387904) :
    Calls Tryd.prog 33 #[.int .i64 k, v, .int .u64 lo, .int .u64 hi] w fun e w' => e = .returned (.tuple #[.agg (zb 32), .int .i64 4]) ∧ Kept [] w w' := by
  obtain ⟨ao, len, cap, rfl, rfl, h2, h3, h4, h5⟩ := hv
  have HZ := hide (heap_alloc_new w (.cells (zb 32) 41))
  have HK := hide (((Kept.refl [] w).alloc (.cells (zb 32) 41)).setRow (g := w.heap.size) (Or.inr (Nat.le_refl _)) (zb 32))
  have hwn : IntKind.u64.wrap (ls.length : Int) = (ls.length : Int) := by rw [wrU]; omega
  clear h4 h5
  by_cases h1 : hi < lo
  · have h1' : (hi : Int) < lo := by omega
    go_enter Tryd.func33, Tryd.ntmps33
    go_wp2_with (first | simp only [hwn] | (rw [zb32]; refine wpList_store_row rfl 41 _ _ rfl w.heap.size (zb 32) rfl rfl _ (zb 32) (unhide HZ) (by rw [zb_size]; exact Tryd.size_dig) rfl (brow_one _) ?_))
    refine bodyPost_ret (v := .tuple #[.agg (zb 32), .int .i64 4]) ?_ rfl ⟨rfl, unhide HK⟩
    exact results_cell_tmp rfl _ _ w.heap.size _ (zb 32) (0, 0) _ rfl (setRow_heap _ _ _ _ _ _ (unhide HZ)) Tryd.underlying41 rfl (by rw [zb_size]; exact Tryd.size_dig) _ rfl
  · have h1' : ¬ (hi : Int) < lo := by omega
    have h2' : (ls.length : Int) < hi := by omega
    go_enter Tryd.func33, Tryd.ntmps33
    go_wp2_with (first | simp only [hwn] | (rw [zb32]; refine wpList_store_row rfl 41 _ _ rfl w.heap.size (zb 32) rfl rfl _ (zb 32) (unhide HZ) (by rw [zb_size]; exact Tryd.size_dig) rfl (brow_one _) ?_))
    refine bodyPost_ret (v := .tuple #[.agg (zb 32), .int .i64 4]) ?_ rfl ⟨rfl, unhide HK⟩
    exact results_cell_tmp rfl _ _ w.heap.size _ (zb 32) (0, 0) _ rfl (setRow_heap _ _ _ _ _ _ (unhide HZ)) Tryd.underlying41 rfl (by rw [zb_size]; exact Tryd.size_dig) _ rfl

/-- A piece of a list of digests: where it begins counts only if it is not empty. -/
theorem RdD.piece {w : World} {ao : Option Addr} {n c lo hi c' : Nat} {ds : List (List Nat)} (h : RdD w (.slice ao n c) ds) (h1 : lo ≤ hi) (h2 : hi ≤ n) (hc' : hi - lo ≤ c' ∧ c' ≤ 9223372036854775807) (ao' : Option Addr) (ho : lo < hi → ∀ b off, ao = some ⟨b, off, none⟩ → ao' = some ⟨b, off + lo * 32, none⟩) : RdD w (.slice ao' (hi - lo) c') ((ds.drop lo).take (hi - lo)) := by
  obtain ⟨_, _, _, e, e1, e2, e3, h4, h5⟩ := h
  cases e
  refine ⟨_, hi - lo, c', rfl, by rw [List.length_take, List.length_drop]; omega, hc'.1, hc'.2, fun d hd => h4 d (List.mem_of_mem_drop (List.mem_of_mem_take hd)), fun hp => ?_⟩
  obtain ⟨b', o', e, hc⟩ := h5 (by omega)
  refine ⟨b', o' + lo * 32, ho (by omega) b' o' e, fun i hi => ?_⟩
  have h9 := hc (lo + i) (by omega)
  rw [show o' + (lo + i) * 32 = o' + lo * 32 + i * 32 by omega] at h9
  rw [List.getD_eq_getElem?_getD, List.getElem?_take_of_lt hi, List.getElem?_drop, ← List.getD_eq_getElem?_getD]
  exact h9

set_option maxRecDepth 100000 in
set_option maxHeartbeats 400000 in
theorem docRange_any (k : Nat) (hk : 1 ≤ k ∧ k ≤ 32) (v : Value) (ls : List (List Nat)) (lo hi : Nat) (w : World) (hv : RdD w v ls) (h1 : lo ≤ hi) (h2 : hi ≤ ls.length) (hl : ls.length < 4611686018427387904) :
    Calls Tryd.prog 33 #[.int .i64 k, v, .int .u64 lo, .int .u64 hi] w fun e w' => e = .returned (.tuple #[.agg (brow (rngD k (noT k) ls lo hi)), .int .i64 0]) ∧ Kept [] w w' := by
  have HV := hide hv
  have hdl := (log_dg (k : Int) (noT k) ((ls.drop lo).take (hi - lo)) (noT_dg k) (fun d hd => hv.dg (List.mem_of_mem_drop (List.mem_of_mem_take hd)))).1
  obtain ⟨ao, len, cap, rfl, rfl, e2, e3, h4, h5⟩ := hv
  have HZ := hide (heap_alloc_new w (.cells (zb 32) 41))
  have k0 := (Kept.refl [] w).alloc (.cells (zb 32) 41)
  have HK := hide k0
  have hwn : IntKind.u64.wrap (ls.length : Int) = (ls.length : Int) := by rw [wrU]; omega
  have q1 : ¬ (hi : Int) < lo := by omega
  have q2 : ¬ (ls.length : Int) < hi := by omega
  have q3 : ¬ (cap : Int) < hi := by omega
  have q4 : ¬ (lo : Int) < 0 := by omega
  have q5 : ¬ (hi : Int) < 0 := by omega
  have HLG := hide (fun (ao' : Option Addr) (ho : lo < hi → ∀ b off, ao = some ⟨b, off, none⟩ → ao' = some ⟨b, off + lo * 32, none⟩) => logR_any k hk (hi - lo) (.slice ao' (hi - lo) (cap - lo)) ((ls.drop lo).take (hi - lo)) (w.alloc (.cells (zb 32) 41)) (by rw [List.length_take]; omega) (by rw [List.length_take]; omega) ((RdD.piece (c' := cap - lo) (unhide HV) h1 h2 (by omega) ao' ho).old k0))
  have hlog : logT (k : Int) (noT k) ((ls.drop lo).take (hi - lo)) = rngD k (noT k) ls lo hi := rfl
  rw [hlog] at HLG hdl
  generalize rngD (k : Int) (noT k) ls lo hi = D at HLG hdl ⊢
  clear h4 h5 hlog HV k0
  generalize ls.length = n at *
  by_cases hcl : cap = lo
  · have HLG2 := hide (unhide HLG ao (fun h => by omega))
    rw [show cap - lo = 0 by omega] at HLG2
    have hcl' : (cap : Int) = lo := by omega
    go_enter Tryd.func33, Tryd.ntmps33
    go_wp2_with (simp only [hwn])
    rw [zb32]
    refine (unhide HLG2).mono ?_
    rintro e w5 ⟨rfl, k5⟩
    have HZ5 := hide (k5.heap (unhide HZ) (by simp))
    have HK5 := hide (((unhide HK).trans k5 (by simp)).setRow (g := w.heap.size) (Or.inr (Nat.le_refl _)) (brow D))
    clear k5
    go_wp2_with (refine wpList_store_row rfl 41 _ _ rfl w.heap.size (brow D) rfl rfl _ (zb 32) (unhide HZ5) (by rw [brow_size, hdl]; exact Tryd.size_dig) (by rw [zb_size, brow_size, hdl]) (brow_one _) ?_)
    refine bodyPost_ret (v := .tuple #[.agg (brow D), .int .i64 0]) ?_ rfl ⟨rfl, unhide HK5⟩
    exact results_cell_tmp rfl _ _ w.heap.size _ (brow D) (0, 0) _ rfl (setRow_heap _ _ _ _ _ _ (unhide HZ5)) Tryd.underlying41 rfl (by rw [brow_size, hdl]; exact Tryd.size_dig) _ rfl
  · have HLG2 := hide (unhide HLG (Option.map (fun x => x.add (lo * 32)) ao) (fun _ b off e => by rw [e]; simp [Addr.add_mid]))
    have hcl' : ¬ (cap : Int) = lo := by omega
    have hcl2 : ¬ lo = cap := by omega
    go_enter Tryd.func33, Tryd.ntmps33
    go_wp2_with (simp only [hwn])
    rw [zb32]
    refine (unhide HLG2).mono ?_
    rintro e w5 ⟨rfl, k5⟩
    have HZ5 := hide (k5.heap (unhide HZ) (by simp))
    have HK5 := hide (((unhide HK).trans k5 (by simp)).setRow (g := w.heap.size) (Or.inr (Nat.le_refl _)) (brow D))
    clear k5
    go_wp2_with (refine wpList_store_row rfl 41 _ _ rfl w.heap.size (brow D) rfl rfl _ (zb 32) (unhide HZ5) (by rw [brow_size, hdl]; exact Tryd.size_dig) (by rw [zb_size, brow_size, hdl]) (brow_one _) ?_)
    refine bodyPost_ret (v := .tuple #[.agg (brow D), .int .i64 0]) ?_ rfl ⟨rfl, unhide HK5⟩
    exact results_cell_tmp rfl _ _ w.heap.size _ (brow D) (0, 0) _ rfl (setRow_heap _ _ _ _ _ _ (unhide HZ5)) Tryd.underlying41 rfl (by rw [brow_size, hdl]; exact Tryd.size_dig) _ rfl

/-- What DocRange answers. -/
theorem docRange_all (k : Nat) (hk : 1 ≤ k ∧ k ≤ 32) (v : Value) (ls : List (List Nat)) (lo hi : Nat) (w : World) (hv : RdD w v ls) (hl : ls.length < 4611686018427387904) :
    Calls Tryd.prog 33 #[.int .i64 k, v, .int .u64 lo, .int .u64 hi] w fun e w' => e = .returned (.tuple #[.agg (brow (rgD k ls lo hi)), .int .i64 (rgE ls lo hi)]) ∧ Kept [] w w' := by
  unfold rgD rgE
  by_cases h : hi < lo ∨ ls.length < hi
  · rw [if_pos h, if_pos h]
    exact docRange_bad k v ls lo hi w hv h hl
  · rw [if_neg h, if_neg h]
    exact docRange_any k hk v ls lo hi w hv (by omega) (by omega) hl

set_option maxRecDepth 100000 in
set_option maxHeartbeats 400000 in
theorem docLeaf_all (v : Value) (ls : List (List Nat)) (i : Nat) (w : World) (hv : RdD w v ls) (hl : ls.length < 4611686018427387904) :
    Calls Tryd.prog 32 #[v, .int .u64 i] w fun e w' => e = .returned (.tuple #[.agg (brow (lfD ls i)), .int .i64 (lfE ls i)]) ∧ Kept [] w w' := by
  have HV := hide hv
  obtain ⟨ao, len, cap, rfl, rfl, e2, e3, h4, h5⟩ := hv
  have HZ := hide (heap_alloc_new w (.cells (zb 32) 41))
  have k0 := (Kept.refl [] w).alloc (.cells (zb 32) 41)
  have HK := hide k0
  have hwn : IntKind.u64.wrap (ls.length : Int) = (ls.length : Int) := by rw [wrU]; omega
  by_cases h : ls.length ≤ i
  · have e1 : lfD ls i = List.replicate 32 0 := if_pos h
    have e2 : lfE ls i = 4 := if_pos h
    rw [e1, e2]
    have h' : (ls.length : Int) ≤ i := by omega
    clear e1 e2 h h4 h5 k0
    show Calls Tryd.prog 32 #[.slice ao ls.length cap, .int .u64 i] w fun e w' => e = .returned (.tuple #[.agg (zb 32), .int .i64 4]) ∧ Kept [] w w'
    go_enter Tryd.func32, Tryd.ntmps32
    go_wp2_with (first | simp only [hwn] | (rw [zb32]; refine wpList_store_row rfl 41 _ _ rfl w.heap.size (zb 32) rfl rfl _ (zb 32) (unhide HZ) (by rw [zb_size]; exact Tryd.size_dig) rfl (brow_one _) ?_))
    refine bodyPost_ret (v := .tuple #[.agg (zb 32), .int .i64 4]) ?_ rfl ⟨rfl, (unhide HK).setRow (g := w.heap.size) (Or.inr (Nat.le_refl _)) (zb 32)⟩
    exact results_cell_tmp rfl _ _ w.heap.size _ (zb 32) (0, 0) _ rfl (setRow_heap _ _ _ _ _ _ (unhide HZ)) Tryd.underlying41 rfl (by rw [zb_size]; exact Tryd.size_dig) _ rfl
  · have e2 : lfE ls i = 0 := if_neg h
    have e1 : lfD ls i = ls.getD i [] := if_neg h
    rw [e1, e2]
    have h' : ¬ (ls.length : Int) ≤ i := by omega
    obtain ⟨b, o, rfl, hcell⟩ := h5 (by omega)
    have hdl := (h4 (ls.getD i []) (by rw [List.getD_eq_getElem?_getD, List.getElem?_eq_getElem (by omega)]; exact List.getElem_mem _)).1
    have HRG := hide (fun j u hj => k0.cell (hcell i (by omega) j u hj) (by simp) : (w.alloc (.cells (zb 32) 41)).rangeAt b (o + i * 32) ((ls.getD i []).map Go.Proofs.YtecadmldnjlibaaDoor.u8))
    generalize ls.getD i [] = d at HRG hdl ⊢
    clear e1 e2 h h4 h5 k0 hcell
    go_enter Tryd.func32, Tryd.ntmps32
    go_wp2_with (first
      | (simp only [hwn])
      | (rw [zb32]; refine wpList_load_mid rfl 41 _ rfl b (o + i * 32) rfl (d.map Go.Proofs.YtecadmldnjlibaaDoor.u8) _ (unhide HRG) Tryd.underlying41 rfl (by rw [List.length_map, hdl]; exact Tryd.size_dig) ?_)
      | (refine wpList_store_row rfl 41 _ _ rfl w.heap.size (brow d) rfl rfl _ (zb 32) (unhide HZ) (by rw [brow_size, hdl]; exact Tryd.size_dig) (by rw [zb_size, brow_size, hdl]) (brow_one _) ?_))
    refine bodyPost_ret (v := .tuple #[.agg (brow d), .int .i64 0]) ?_ rfl ⟨rfl, (unhide HK).setRow (g := w.heap.size) (Or.inr (Nat.le_refl _)) (brow d)⟩
    exact results_cell_tmp rfl _ _ w.heap.size _ (brow d) (0, 0) _ rfl (setRow_heap _ _ _ _ _ _ (unhide HZ)) Tryd.underlying41 rfl (by rw [brow_size, hdl]; exact Tryd.size_dig) _ rfl
end Go.Proofs.YtecadmldnjlibaaDoor
namespace Go.Proofs.YtecadmldnjlibaaDoor
open Go.RowKit Go.BigFrame
set_option linter.unusedVariables false
set_option linter.unusedSimpArgs false

def d7 : List Nat := 7 :: List.replicate 31 0
def d9 : List Nat := 9 :: List.replicate 31 0
theorem d7_dg : Dg d7 := ⟨rfl, by decide⟩
theorem d9_dg : Dg d9 := ⟨rfl, by decide⟩
theorem d79_form : [d7, d9].all (formB 1) = true := by decide +kernel
theorem rg79 : rgD 1 [d7, d9] 0 2 = nodS 1 d7 d9 := by
  unfold rgD
  rw [if_neg (by decide)]
  rw [rngD_cut (by decide) (by decide)]
  rfl

set_option maxRecDepth 100000 in
set_option maxHeartbeats 1000000 in
theorem mtawake_any (w : World) (hT : Tabs w) (h6 : Tab6 w) :
    Calls Tryd.prog 8 #[] w fun e w' => e = .returned (.bool true) ∧ Kept [] w w' := by
  have HTB := hide hT
  have H6 := hide h6
  clear hT h6
  go_enter Tryd.func8, Tryd.ntmps8
  go_wp2_with fail
  refine (newT_any 1 w (by decide)).mono ?_
  rintro e w1 ⟨t, rfl, ht, htr, k1⟩
  have HT1 := hide htr
  have HK1 := hide k1
  clear htr k1 ht
  go_wp2_with fail
  have HG := hide (heap_alloc_new w1 (.cells (d7.map Go.Proofs.YtecadmldnjlibaaDoor.u8 ++ d9.map Go.Proofs.YtecadmldnjlibaaDoor.u8).toArray 41))
  have kA := (Kept.refl [] w1).alloc (.cells (d7.map Go.Proofs.YtecadmldnjlibaaDoor.u8 ++ d9.map Go.Proofs.YtecadmldnjlibaaDoor.u8).toArray 41)
  have kB := (unhide HK1).trans kA (by simp)
  refine Calls.mono (appendT_any 1 t (.slice none 0 0) (.slice (some ⟨w1.heap.size, 0, none⟩) 2 2) [] [d7, d9] (w1.alloc (.cells (d7.map Go.Proofs.YtecadmldnjlibaaDoor.u8 ++ d9.map Go.Proofs.YtecadmldnjlibaaDoor.u8).toArray 41)) ((unhide HT1).old kA) (fun _ => rfl) (RdD.two (unhide HG) d7_dg.1 d9_dg.1 d7_dg.2 d9_dg.2) (by decide) ((unhide HTB).kept kB (by simp) (by simp)) ((unhide H6).kept kB)) ?_
  rintro e w2 ⟨ha, _, k2⟩
  obtain ⟨t2, v2, qs, rfl, ht2, htr2, hlv, _⟩ := ha d79_form
  have hlv2 : leavesK qs = [d7, d9] := hlv
  have HT2 := hide htr2
  have HT1b := hide (((unhide HT1).old kA).old k2)
  have HK2 := hide (kB.trans k2 (by simp))
  have HLV := hide hlv2
  clear htr2 k2 ha hlv hlv2 HG kA kB HK1 HT1 ht2
  have HL1 := hide (by rw [unhide HLV]; rfl : ((leavesK qs).length : Int) = 2)
  have HB := hide (by rw [unhide HLV]; decide : (leavesK qs).length < 32768)
  go_wp2_with fail
  refine (sizeT_any t2 1 v2 qs w2 (unhide HT2)).mono ?_
  rintro e _ ⟨rfl, rfl⟩
  rw [unhide HL1]
  go_wp2_with fail
  refine (sizeT_any t 1 (.slice none 0 0) [] _ (unhide HT1b)).mono ?_
  rintro e _ ⟨rfl, rfl⟩
  rw [show ((leavesK []).length : Int) = 0 from rfl]
  go_wp2_with fail
  refine (widthT_any t2 1 v2 qs _ (unhide HT2)).mono ?_
  rintro e _ ⟨rfl, rfl⟩
  go_wp2_with fail
  refine (leafT_all 1 t2 v2 qs 1 _ (unhide HT2) (unhide HB)).mono ?_
  rintro e w3 ⟨rfl, k3⟩
  rw [show lfD (leavesK qs) 1 = d9 from by rw [unhide HLV]; rfl, show lfE (leavesK qs) 1 = 0 from by rw [unhide HLV]; rfl]
  have HT3 := hide ((unhide HT2).old k3)
  have HK3 := hide ((unhide HK2).trans k3 (by simp))
  clear k3 HT2 HT1b HK2
  have HN3 := hide (cell_new w3 d9)
  have HO3 := hide (kept_old w3 d9)
  have h9l : d9.length = 32 := rfl
  go_wp2_with (rw [zb32]; refine wpList_store_row rfl 41 (.tmp 5) _ rfl w3.heap.size (brow d9) rfl rfl _ (zb 32) (heap_alloc_new _ _) (Tryd.szD h9l) rfl (brow_one _) ?_)
  obtain ⟨w4, hw4⟩ : ∃ w4, (w3.alloc (.cells (zb 32) 41)).setRow w3.heap.size (brow d9) = w4 := ⟨_, rfl⟩
  rw [hw4] at HN3 HO3 ⊢
  clear hw4
  have HT4 := hide ((unhide HT3).old (unhide HO3))
  have HK4 := hide ((unhide HK3).trans (unhide HO3) (by simp))
  refine (rootT_all 1 t2 v2 qs 2 _ (unhide HT4) (unhide HB) ((unhide HTB).kept (unhide HK4) (by simp) (by simp)) ((unhide H6).kept (unhide HK4))).mono ?_
  rintro e w5 ⟨rfl, k5⟩
  rw [show rgD 1 (leavesK qs) 0 2 = nodS 1 d7 d9 from by rw [unhide HLV]; exact rg79, show rgE (leavesK qs) 0 2 = 0 from by rw [unhide HLV]; rfl]
  have HR := hide (fun W => refNode_any 1 d7 d9 W (by omega) d7_dg d9_dg)
  have hnl := (nodS_dg 1 d7 d9).1
  have HR2 := hide (fun W => (unhide HR W : Calls Tryd.prog 30 #[.int .i64 1, .agg (brow d7), .agg (brow d9)] W fun e w' => e = .returned (.agg (brow (nodS 1 d7 d9))) ∧ Kept [] W w'))
  generalize nodS 1 d7 d9 = D at HR2 hnl ⊢
  have HN5 := hide (k5.heap (unhide HN3) (by simp))
  have HK5 := hide ((unhide HK4).trans k5 (by simp))
  clear k5 HR HN3 HO3 HT3 HT4 HK4
  have HN6 := hide (cell_new w5 D)
  have HO6 := hide (kept_old w5 D)
  go_wp2_with (rw [zb32]; refine wpList_store_row rfl 41 (.tmp 7) _ rfl w5.heap.size (brow D) rfl rfl _ (zb 32) (heap_alloc_new _ _) (Tryd.szD hnl) (by rw [zb_size, brow_size, hnl]) (brow_one _) ?_)
  obtain ⟨w6, hw6⟩ : ∃ w6, (w5.alloc (.cells (zb 32) 41)).setRow w5.heap.size (brow D) = w6 := ⟨_, rfl⟩
  rw [hw6] at HN6 HO6 ⊢
  clear hw6
  have HM6 := hide ((unhide HO6).heap (unhide HN5) (by simp))
  have HK6 := hide ((unhide HK5).trans (unhide HO6) (by simp))
  clear HN5 HK5 HO6
  have hne : ∀ p : Prop, (∀ w', Kept [] w6 w' → p) = p := fun p => propext ⟨fun h => h w6 (Kept.refl [] w6), fun h _ _ => h⟩
  refine wp_region_keep (by kernel_rfl) (by kernel_rfl) ?_
  iterate 3 (go_big_quiet_step (fail))
  have HCT := hide (fun w' (hw' : Kept [] w6 w') => (unhide HR2 w').mono (fun e w2 (h2 : _ ∧ _) => (⟨h2.1, hw'.trans h2.2 (by simp)⟩ : _ ∧ Kept [] w6 w2)))
  refine wpQuiet_row rfl 41 (.tmp 5) rfl w3.heap.size rfl _ (brow d9) (0, 0) _ (fun w' hw' => hw'.heap (unhide HM6) (by simp)) Tryd.underlying41 rfl (Tryd.szD h9l) ?_
  simp only [Act.put, List.setIfInBounds_toArray, List.set_cons_succ, List.set_cons_zero]
  go_big_quiet_step (fail)
  refine wpQuiet_val rfl (.bool true) (fun w' _ => run_eql 41 (.tmp 61) (.tmp 62) 41 rfl (brow d9) (brow d9) rfl rfl w' true (by kernel_rfl) (by rw [dig_eq w' d9 d9 rfl rfl]; simp)) ?_
  simp only [Act.put, List.setIfInBounds_toArray, List.set_cons_succ, List.set_cons_zero]
  iterate 6 (go_big_quiet_step (fail))
  refine wpQuiet_row rfl 41 (.tmp 7) rfl w5.heap.size rfl _ (brow D) (0, 0) _ (fun w' hw' => hw'.heap (unhide HN6) (by simp)) Tryd.underlying41 rfl (Tryd.szD hnl) ?_
  simp only [Act.put, List.setIfInBounds_toArray, List.set_cons_succ, List.set_cons_zero]
  iterate 2 (go_big_quiet_step (fail))
  go_big_quiet_want
  go_big_quiet_op
  apply Exists.intro
  refine ⟨fun w' hw' => ?_, ?_⟩
  · exact unhide HCT w' hw'
  go_big_quiet_on
  refine wpQuiet_val rfl (.bool true) (fun w' _ => run_eql 41 (.tmp 70) (.tmp 73) 41 rfl (brow D) (brow D) rfl rfl w' true (by kernel_rfl) (by rw [dig_eq w' D D hnl hnl]; simp)) ?_
  simp only [Act.put, List.setIfInBounds_toArray, List.set_cons_succ, List.set_cons_zero]
  repeat (go_big_quiet_step (fail))
  refine wpQuiet_nil ?_
  intro w7 hw7
  have HK7 := hide ((unhide HK6).trans hw7 (by simp))
  clear hw7 hne
  go_wp2_with fail
  go_ret
  exact ⟨rfl, unhide HK7⟩
end Go.Proofs.YtecadmldnjlibaaDoor
namespace Go.Proofs.YtecadmldnjlibaaDoor
open Go.RowKit Go.BigFrame
set_option linter.unusedVariables false
set_option linter.unusedSimpArgs false

set_option maxRecDepth 100000 in
set_option maxHeartbeats 1000000 in
theorem reads_any (k : Nat) (hk : 1 ≤ k ∧ k ≤ 32) (t : Nat) (v lv : Value) (ps : List Pk) (w : World) (hT : TreeAt k w t v ps) (hl : RdD w lv (leavesK ps)) (hb : (leavesK ps).length < 4000) (hTb : Tabs w) (h6 : Tab6 w) :
    Calls Tryd.prog 11 #[.pointer (some ⟨t, 0, none⟩), .int .i64 k, lv] w fun e w' => e = .returned (.bool true) ∧ Kept [] w w' := by
  have HT := hide hT
  have HL := hide hl
  have HTB := hide hTb
  have H6 := hide h6
  have HPK := hide hT.pk
  obtain ⟨ao, len, cap, rfl, h1, h2, h3, h4, h5⟩ := hl
  obtain ⟨n, hn⟩ : ∃ n, (leavesK ps).length = n := ⟨_, rfl⟩
  have hnl : len = n := by rw [← h1, hn]
  subst hnl
  have HN := hide hn
  rw [hn] at hb
  have hwn : IntKind.u64.wrap (len : Int) = (len : Int) := by rw [wrU]; omega
  clear h4 h5 hT hTb h6 h1 hn
  go_enter Tryd.func11, Tryd.ntmps11
  go_wp2_with (simp only [hwn])
  refine (widthT_any t k v ps w (unhide HT)).mono ?_
  rintro e _ ⟨rfl, rfl⟩
  go_wp2_with fail
  refine (sizeT_any t k v ps _ (unhide HT)).mono ?_
  rintro e w0 ⟨rfl, rfl⟩
  rw [unhide HN]
  go_wp2_with fail
  have hn2 : IntKind.u64.wrap ((len : Int) + 2) = (len : Int) + 2 := by rw [wrU]; omega
  go_loopw [8] (fun t8 wr => ∃ (i : Nat), i ≤ len + 2 ∧ t8 = .int .u64 (i : Int) ∧ Hid (Kept [] w0 wr)) (fun t _ => len + 2 - (intOf t).toNat)
  case atStart => exact ⟨0, by omega, rfl, hide (Kept.refl _ _)⟩
  case round =>
    obtain ⟨i, hi, rfl, HKR⟩ := hrel
    by_cases hlt : i < len + 2
    · have hlt' : (i : Int) < (len : Int) + 2 := by omega
      have hadd : IntKind.u64.wrap ((i : Int) + 1) = ((i + 1 : Nat) : Int) := by rw [wrU]; omega
      have hdl := (lfD_dg (unhide HPK) i).1
      have HLF := hide (fun W (kk : Kept [] w0 W) => leafT_all k t v ps i W ((unhide HT).old kk) (by rw [unhide HN]; omega))
      have HDL := hide (fun W (kk : Kept [] w0 W) => docLeaf_all (.slice ao len cap) (leavesK ps) i W ((unhide HL).old kk) (by rw [unhide HN]; omega))
      generalize lfD (leavesK ps) i = D at HLF HDL hdl
      generalize lfE (leavesK ps) i = E at HLF HDL
      have hqd : ∀ W, (Op.equalIn 10000 41 (.agg (brow D)) (.agg (brow D))).run Tryd.prog W = .ok true W := dig_same D hdl
      go_wp2_with (simp only [hn2])
      refine (unhide HLF wr (unhide HKR)).mono ?_
      rintro e w3 ⟨rfl, k3⟩
      have HK3 := hide ((unhide HKR).trans k3 (by simp))
      clear k3
      have HN3 := hide (cell_new w3 D)
      have HO3 := hide (kept_old w3 D)
      go_wp2_with (rw [zb32]; refine wpList_store_row rfl 41 (.tmp 9) _ rfl w3.heap.size (brow D) rfl rfl _ (zb 32) (heap_alloc_new _ _) (Tryd.szD hdl) (by rw [zb_size, brow_size, hdl]) (brow_one _) ?_)
      obtain ⟨w4, hw4⟩ : ∃ w4, (w3.alloc (.cells (zb 32) 41)).setRow w3.heap.size (brow D) = w4 := ⟨_, rfl⟩
      rw [hw4] at HN3 HO3 ⊢
      clear hw4
      have HK4 := hide ((unhide HK3).trans (unhide HO3) (by simp))
      refine (unhide HDL w4 (unhide HK4)).mono ?_
      rintro e w5 ⟨rfl, k5⟩
      have HN5 := hide (k5.heap (unhide HN3) (by simp))
      have HK5 := hide ((unhide HK4).trans k5 (by simp))
      clear k5 HN3 HO3 HK4 HK3
      have HN6 := hide (cell_new w5 D)
      have HO6 := hide (kept_old w5 D)
      have HM6 := hide ((unhide HO6).heap (unhide HN5) (by simp))
      have HK6 := hide ((unhide HK5).trans (unhide HO6) (by simp))
      go_wp2_with (first
        | (rw [zb32]; refine wpList_store_row rfl 41 (.tmp 11) _ rfl w5.heap.size (brow D) rfl rfl _ (zb 32) (heap_alloc_new _ _) (Tryd.szD hdl) (by rw [zb_size, brow_size, hdl]) (brow_one _) ?_)
        | (refine wpList_load_row rfl 41 (.tmp 9) rfl w3.heap.size rfl _ (brow D) (0, 0) _ (unhide HM6) Tryd.underlying41 rfl (Tryd.szD hdl) ?_)
        | (refine wpList_load_row rfl 41 (.tmp 11) rfl w5.heap.size rfl _ (brow D) (0, 0) _ (unhide HN6) Tryd.underlying41 rfl (Tryd.szD hdl) ?_))
      go_wp2_with (simp only [hadd])
      refine ⟨⟨i + 1, by omega, by simp, HK6⟩, ?_⟩
      simp [intOf]
      omega
    · have hlt' : ¬ (i : Int) < (len : Int) + 2 := by omega
      go_wp2_with (simp only [hn2])
      have HG0 := hide (heap_alloc_new wr (.cells #[.int .u64 0, .int .u64 1, .int .u64 ((len : Int) / 2), .int .u64 (IntKind.u64.wrap ((len : Int) - 1)), .int .u64 (len : Int), .int .u64 ((len : Int) + 1), .int .u64 18446744073709551615] 49))
      have HKW := hide ((unhide HKR).alloc (.cells #[.int .u64 0, .int .u64 1, .int .u64 ((len : Int) / 2), .int .u64 (IntKind.u64.wrap ((len : Int) - 1)), .int .u64 (len : Int), .int .u64 ((len : Int) + 1), .int .u64 18446744073709551615] 49))
      obtain ⟨W2, hW2⟩ : ∃ W2, wr.alloc (.cells #[.int .u64 0, .int .u64 1, .int .u64 ((len : Int) / 2), .int .u64 (IntKind.u64.wrap ((len : Int) - 1)), .int .u64 (len : Int), .int .u64 ((len : Int) + 1), .int .u64 18446744073709551615] 49) = W2 := ⟨_, rfl⟩
      rw [hW2] at HG0 HKW ⊢
      have HAT := hide (fun j (hj : j < 7) => (by
        have h9 := cell_of_row _ _ j _ _ _ (unhide HG0)
        rw [h9]
        rcases (by omega : j = 0 ∨ j = 1 ∨ j = 2 ∨ j = 3 ∨ j = 4 ∨ j = 5 ∨ j = 6) with rfl | rfl | rfl | rfl | rfl | rfl | rfl
        · exact ⟨0, rfl, by omega⟩
        · exact ⟨1, rfl, by omega⟩
        · exact ⟨len / 2, by simp, by omega⟩
        · refine ⟨(IntKind.u64.wrap ((len : Int) - 1)).toNat, ?_, ?_⟩
          · rw [wrU, Int.toNat_of_nonneg (by omega)]; rfl
          · rw [wrU]; omega
        · exact ⟨len, rfl, by omega⟩
        · exact ⟨len + 1, by simp, by omega⟩
        · exact ⟨18446744073709551615, rfl, by omega⟩ : ∃ a : Nat, W2.cell? ⟨wr.heap.size, j, none⟩ = some (.int .u64 (a : Int)) ∧ a < 18446744073709551616))
      obtain ⟨g, hg⟩ : ∃ g, wr.heap.size = g := ⟨_, rfl⟩
      rw [hg] at HAT ⊢
      clear hW2 HG0 hg HKR
      go_loopw [71] (fun t71 wq => ∃ (j : Nat), j ≤ 7 ∧ t71 = .int .i64 (j : Int) ∧ Hid (Kept [] W2 wq)) (fun t _ => 7 - (intOf t).toNat)
      case atStart => exact ⟨0, by omega, rfl, hide (Kept.refl _ _)⟩
      case round =>
        obtain ⟨j, hj, rfl, HKQ⟩ := hrel
        by_cases hjl : j < 7
        · have hjl' : (j : Int) < 7 := by omega
          obtain ⟨a, hca, ha⟩ := unhide HAT j hjl
          have hca2 := (unhide HKQ).cell hca (by simp)
          have HKR := hide (unhide HKQ)
          have hdl := (rgD_len (unhide HPK) 0 a).1
          have HLF := hide (fun W (kk : Kept [] W2 W) => rootT_all k t v ps a W ((unhide HT).old ((unhide HKW).trans kk (by simp))) (by rw [unhide HN]; omega) ((unhide HTB).kept ((unhide HKW).trans kk (by simp)) (by simp) (by simp)) ((unhide H6).kept ((unhide HKW).trans kk (by simp))))
          have HDL := hide (fun W (kk : Kept [] W2 W) => docRange_all k hk (.slice ao len cap) (leavesK ps) 0 a W ((unhide HL).old ((unhide HKW).trans kk (by simp))) (by rw [unhide HN]; omega))
          generalize rgD k (leavesK ps) 0 a = D at HLF HDL hdl
          generalize rgE (leavesK ps) 0 a = E at HLF HDL
          have hqd : ∀ W, (Op.equalIn 10000 41 (.agg (brow D)) (.agg (brow D))).run Tryd.prog W = .ok true W := dig_same D hdl
          clear hca
          go_wp2_with fail
          refine (unhide HLF wr (unhide HKR)).mono ?_
          rintro e w3 ⟨rfl, k3⟩
          have HK3 := hide ((unhide HKR).trans k3 (by simp))
          clear k3
          have HN3 := hide (cell_new w3 D)
          have HO3 := hide (kept_old w3 D)
          go_wp2_with (rw [zb32]; refine wpList_store_row rfl 41 (.tmp 15) _ rfl w3.heap.size (brow D) rfl rfl _ (zb 32) (heap_alloc_new _ _) (Tryd.szD hdl) (by rw [zb_size, brow_size, hdl]) (brow_one _) ?_)
          obtain ⟨w4, hw4⟩ : ∃ w4, (w3.alloc (.cells (zb 32) 41)).setRow w3.heap.size (brow D) = w4 := ⟨_, rfl⟩
          rw [hw4] at HN3 HO3 ⊢
          clear hw4
          have HK4 := hide ((unhide HK3).trans (unhide HO3) (by simp))
          refine (unhide HDL w4 (unhide HK4)).mono ?_
          rintro e w5 ⟨rfl, k5⟩
          have HN5 := hide (k5.heap (unhide HN3) (by simp))
          have HK5 := hide ((unhide HK4).trans k5 (by simp))
          clear k5 HN3 HO3 HK4 HK3
          have HN6 := hide (cell_new w5 D)
          have HO6 := hide (kept_old w5 D)
          have HM6 := hide ((unhide HO6).heap (unhide HN5) (by simp))
          have HK6 := hide ((unhide HK5).trans (unhide HO6) (by simp))
          go_wp2_with (first
            | (rw [zb32]; refine wpList_store_row rfl 41 (.tmp 17) _ rfl w5.heap.size (brow D) rfl rfl _ (zb 32) (heap_alloc_new _ _) (Tryd.szD hdl) (by rw [zb_size, brow_size, hdl]) (brow_one _) ?_)
            | (refine wpList_load_row rfl 41 (.tmp 15) rfl w3.heap.size rfl _ (brow D) (0, 0) _ (unhide HM6) Tryd.underlying41 rfl (Tryd.szD hdl) ?_)
            | (refine wpList_load_row rfl 41 (.tmp 17) rfl w5.heap.size rfl _ (brow D) (0, 0) _ (unhide HN6) Tryd.underlying41 rfl (Tryd.szD hdl) ?_))
          go_wp2_with fail
          refine ⟨⟨j + 1, by omega, by simp, ?_⟩, ?_⟩
          · exact HK6
          · simp [intOf]
            omega
        · have hjl' : ¬ (j : Int) < 7 := by omega
          have HKF := hide ((unhide HKW).trans (unhide HKQ) (by simp))
          go_wp2_with fail
          go_ret
          exact ⟨rfl, unhide HKF⟩
end Go.Proofs.YtecadmldnjlibaaDoor
namespace Go.Proofs.YtecadmldnjlibaaDoor
open Go.RowKit Go.BigFrame
set_option linter.unusedVariables false
set_option linter.unusedSimpArgs false

/-- Are the width and all leaves fit? -/
def fitB (z : Int) (ls : List (List Nat)) : Bool := widthB z && ls.all (formB z)

set_option maxRecDepth 100000 in
set_option maxHeartbeats 1000000 in
theorem fit_any (z : Int) (lv : Value) (ls : List (List Nat)) (w : World) (hz : -9223372036854775808 ≤ z ∧ z ≤ 9223372036854775807) (hl : RdD w lv ls) :
    Calls Tryd.prog 14 #[.int .i64 z, lv] w fun e w' => e = .returned (.bool (fitB z ls)) ∧ Kept [] w w' := by
  have HL := hide hl
  obtain ⟨ao, len, cap, rfl, h1, h2, h3, h4, h5⟩ := hl
  subst h1
  clear h4 h5
  obtain ⟨E, hE⟩ : ∃ E, fitB z ls = E := ⟨_, rfl⟩
  rw [hE]
  have HE := hide hE
  clear hE
  go_enter Tryd.func14, Tryd.ntmps14
  go_wp2_with fail
  refine (rwidth_any z w hz).mono ?_
  rintro e w0 ⟨rfl, rfl⟩
  cases hwd : widthB z with
  | false =>
    have HE1 := hide (by rw [← unhide HE]; unfold fitB; rw [hwd]; rfl : E = false)
    go_wp2_with fail
    go_ret
    exact ⟨by rw [unhide HE1]; rfl, Kept.refl _ _⟩
  | true =>
    have HWD := hide hwd
    clear hwd
    go_wp2_with fail
    go_loopw [12] (fun t12 wr => ∃ (i : Nat), i ≤ ls.length ∧ t12 = .int .i64 i ∧ Hid ((ls.take i).all (formB z) = true) ∧ Hid (Kept [] w0 wr)) (fun t _ => ls.length - (intOf t).toNat)
    case atStart => exact ⟨0, Nat.zero_le _, rfl, hide (by simp), hide (Kept.refl _ _)⟩
    case round =>
      obtain ⟨j, hj, rfl, HAJ, HKJ⟩ := hrel
      by_cases hjl : j < ls.length
      · have hjl' : (j : Int) < ls.length := by omega
        obtain ⟨ra, rl, rc, re, r1, r2, r3, r4, r5⟩ := unhide HL
        cases re
        obtain ⟨b, o, rfl, hcell⟩ := r5 (by omega)
        have HD := hide (r4 (ls.getD j []) (by rw [List.getD_eq_getElem?_getD, List.getElem?_eq_getElem hjl]; exact List.getElem_mem hjl))
        have HRG := hide (fun u v hv => (unhide HKJ).cell (hcell j hjl u v hv) (by simp) : wr.rangeAt b (o + j * 32) ((ls.getD j []).map Go.Proofs.YtecadmldnjlibaaDoor.u8))
        have HN := hide (by rw [List.take_succ_eq_append_getElem hjl, List.all_append, unhide HAJ, List.getD_eq_getElem?_getD, List.getElem?_eq_getElem hjl]; simp : (ls.take (j + 1)).all (formB z) = formB z (ls.getD j []))
        have HM := hide (fun (h : formB z (ls.getD j []) = false) => by
          have h9 : ls.all (formB z) = false := by
            rw [List.all_eq_false]
            exact ⟨ls.getD j [], by rw [List.getD_eq_getElem?_getD, List.getElem?_eq_getElem hjl]; exact List.getElem_mem hjl, by rw [h]; decide⟩
          rw [← unhide HE]; unfold fitB; rw [h9, Bool.and_false] : formB z (ls.getD j []) = false → E = false)
        clear hcell r4 r5
        obtain ⟨d, hd⟩ : ∃ d, ls.getD j [] = d := ⟨_, rfl⟩
        rw [hd] at HD HRG HN HM
        clear hd
        have hdl := (unhide HD).1
        have HSZ := hide (by rw [brow_size, hdl]; exact Tryd.size_dig : (Tryd.prog.info? 41).map (·.size) = some (brow d).size)
        have HNW := hide (setRow_heap (wr.alloc (.cells (zb 32) 41)) wr.heap.size (zb 32) (brow d) 41 (0, 0) (heap_alloc_new _ _))
        have HKN := hide (((unhide HKJ).alloc (.cells (zb 32) 41)).setRow (g := wr.heap.size) (Or.inr (unhide HKJ).size) (brow d))
        go_wp2_with (first
          | (refine wpList_load_mid rfl 41 (.tmp 14) rfl b (o + j * 32) rfl (d.map Go.Proofs.YtecadmldnjlibaaDoor.u8) _ (unhide HRG) Tryd.underlying41 rfl (by rw [List.length_map, hdl]; exact Tryd.size_dig) ?_)
          | (rw [zb32]; refine wpList_store_row rfl 41 (.tmp 6) _ rfl wr.heap.size (brow d) rfl rfl _ (zb 32) (heap_alloc_new _ _) (unhide HSZ) (by rw [zb_size, brow_size, hdl]) (brow_one _) ?_)
          | (refine wpList_load_row rfl 41 (.tmp 6) rfl wr.heap.size rfl _ (brow d) (0, 0) _ (unhide HNW) Tryd.underlying41 rfl (unhide HSZ) ?_))
        refine Calls.mono (docForm_any z d _ hz hdl (unhide HD).2) ?_
        rintro e w4 ⟨rfl, k4⟩
        have HK4 := hide ((unhide HKN).trans k4 (by simp))
        clear k4
        cases hf : formB z d with
        | true =>
          rw [hf] at HN
          clear hf
          go_wp2
          go_roundw
          case rel => exact ⟨j + 1, by omega, by go_num, HN, HK4⟩
          case measure => simp [intOf]; omega
        | false =>
          have HF := hide (unhide HM hf)
          clear hf
          go_wp2
          go_ret
          exact ⟨by rw [unhide HF]; rfl, unhide HK4⟩
      · have hjl' : ¬ (j : Int) < ls.length := by omega
        have hje : j = ls.length := by omega
        subst hje
        rw [List.take_length] at HAJ
        have HE1 := hide (by rw [← unhide HE]; unfold fitB; rw [unhide HWD, unhide HAJ]; rfl : E = true)
        go_wp2
        go_ret
        exact ⟨by rw [unhide HE1]; rfl, unhide HKJ⟩

theorem newT_all (z : Int) (w : World) :
    Calls Tryd.prog 9 #[.int .i64 z] w fun e w' => ∃ p er, e = .returned (.tuple #[.pointer p, .int .i64 er]) ∧ (widthB z = true → ∃ t, p = some ⟨t, 0, none⟩ ∧ TreeAt z w' t (.slice none 0 0) []) ∧ Kept [] w w' := by
  cases hw : widthB z with
  | false => exact (newT_bad z w hw).mono fun e w' h => ⟨_, _, h.1, fun h9 => by simp at h9, h.2⟩
  | true => exact (newT_any z w hw).mono fun e w' ⟨t, h1, _, h2, h3⟩ => ⟨_, _, h1, fun _ => ⟨t, rfl, h2⟩, h3⟩

/-- What grown answers. -/
def GrD (z : Int) (ls : List (List Nat)) (w : World) (e : Ending) (w' : World) : Prop :=
  (fitB z ls = true ∧ ls.length ≤ 400 → ∃ t v qs, e = .returned (.tuple #[.pointer (some ⟨t, 0, none⟩), .bool true]) ∧ TreeAt z w' t v qs ∧ leavesK qs = ls ∧ (qs = [] → v = .slice none 0 0)) ∧
  (¬ (fitB z ls = true ∧ ls.length ≤ 400) → e = .returned (.tuple #[.pointer none, .bool false])) ∧ Kept [] w w'

end Go.Proofs.YtecadmldnjlibaaDoor
namespace Go.Proofs.YtecadmldnjlibaaDoor
open Go.RowKit Go.BigFrame
set_option linter.unusedVariables false
set_option linter.unusedSimpArgs false

end Go.Proofs.YtecadmldnjlibaaDoor
namespace Go.Proofs.YtecadmldnjlibaaDoor
open Go.RowKit Go.BigFrame
set_option linter.unusedVariables false
set_option linter.unusedSimpArgs false

set_option maxRecDepth 100000 in
set_option maxHeartbeats 1000000 in
theorem node11_any (z : Int) (l m : List Nat) (w : World) (hw : widthB z = true) (hl : Dg l) (hm : Dg m) (fl : formB z l = true) (fm : formB z m = true) (hT : Tabs w) :
    Calls Tryd.prog 44 #[.int .i64 z, .agg (brow l), .agg (brow m)] w fun e w' => e = .returned (.agg (brow (nodS z l m))) ∧ Kept [] w w' := by
  have HN := hide (fun W (k : Kept [] w W) => dnodeF_any z l m W hw hl hm fl fm (hT.kept k (by simp) (by simp)))
  have hdg : Dg (nodS z l m) := nodS_dg z l m
  generalize nodS z l m = D at HN hdg ⊢
  have HK0 := hide ((((Kept.refl [] w).alloc (.cells (brow l) 41)).alloc (.cells (brow m) 41)).alloc (.cells (zb 32) 41))
  have HGZ := hide (alloc3_at w (.cells (brow l) 41) (.cells (brow m) 41) (.cells (zb 32) 41))
  have HGM := hide (((Kept.refl [] ((w.alloc (.cells (brow l) 41)).alloc (.cells (brow m) 41))).alloc (.cells (zb 32) 41)).heap (alloc_at w (.cells (brow l) 41) (.cells (brow m) 41)) (by simp))
  have HGL := hide ((((Kept.refl [] (w.alloc (.cells (brow l) 41))).alloc (.cells (brow m) 41)).alloc (.cells (zb 32) 41)).heap (heap_alloc_new w (.cells (brow l) 41)) (by simp))
  have HSL := hide (by rw [List.length_map, hl.1]; exact Tryd.size_dig : (Tryd.prog.info? 41).map (·.size) = some (l.map u8).length)
  have HSM := hide (by rw [List.length_map, hm.1]; exact Tryd.size_dig : (Tryd.prog.info? 41).map (·.size) = some (m.map u8).length)
  have hcl := hdg.1
  clear fl fm hdg hl hm hT
  go_enter Tryd.func44, Tryd.ntmps44
  go_wp2_with (first
    | (refine wpList_load_mid rfl 41 _ rfl w.heap.size 0 rfl (l.map u8) _ (range_row (unhide HGL)) Tryd.underlying41 rfl (unhide HSL) ?_)
    | (refine wpList_load_mid rfl 41 _ rfl (w.heap.size + 1) 0 rfl (m.map u8) _ (range_row (unhide HGM)) Tryd.underlying41 rfl (unhide HSM) ?_))
  refine Calls.mono (unhide HN _ (unhide HK0)) ?_
  rintro e w1 ⟨rfl, k1⟩
  have HZ1 := hide (k1.heap (unhide HGZ) (by simp))
  have HK1 := hide ((unhide HK0).trans k1 (by simp))
  clear k1 HGL HGM HGZ HN
  have hlt1 := lt_of_block (unhide HZ1)
  have HA := hide (heap_alloc_new w1 (.cells (zb 32) 41))
  have HD1 := hide (setRow_heap (w1.alloc (.cells (zb 32) 41)) w1.heap.size (zb 32) (brow D) 41 (0, 0) (unhide HA))
  have HZ2 := hide ((setRow_other (w1.alloc (.cells (zb 32) 41)) w1.heap.size (w.heap.size + 1 + 1) (brow D) (by omega)).trans (((Kept.refl [] w1).alloc (.cells (zb 32) 41)).heap (unhide HZ1) (by simp)))
  have HK2 := hide (((unhide HK1).alloc (.cells (zb 32) 41)).setRow (g := w1.heap.size) (Or.inr (by have := (unhide HK1).size; omega)) (brow D))
  go_wp2_with (first
    | (refine wpList_store_row rfl 41 _ _ rfl w1.heap.size (brow D) rfl rfl _ (zb 32) (by exact unhide HA) (by rw [brow_size, hcl]; exact Tryd.size_dig) (by rw [zb_size, brow_size, hcl]) (brow_one _) ?_; clear HA)
    | (refine wpList_load_row rfl 41 _ rfl w1.heap.size rfl _ (brow D) (0, 0) _ (by exact unhide HD1) Tryd.underlying41 rfl (by rw [brow_size, hcl]; exact Tryd.size_dig) ?_)
    | (refine wpList_store_row rfl 41 _ _ rfl (w.heap.size + 1 + 1) (brow D) rfl rfl _ (zb 32) (by exact unhide HZ2) (by rw [brow_size, hcl]; exact Tryd.size_dig) (by rw [zb_size, brow_size, hcl]) (brow_one _) ?_))
  refine bodyPost_ret (v := .agg (brow D)) ?_ rfl ⟨rfl, (unhide HK2).setRow (Or.inr (by omega)) _⟩
  exact results_cell_row rfl _ _ (w.heap.size + 1 + 1) _ (brow D) (0, 0) _ rfl (setRow_heap _ _ _ _ _ _ (unhide HZ2)) Tryd.underlying41 rfl (by rw [brow_size, hcl]; exact Tryd.size_dig)

theorem u64_and (m x : Nat) (hm : m < 18446744073709551616) (hx : x < 18446744073709551616) : bits .and .u64 (m : Int) (x : Int) = ((m &&& x : Nat) : Int) := by
  have h1 : (BitVec.ofInt 64 (m : Int)).toNat = m := by rw [BitVec.ofInt_natCast, BitVec.toNat_ofNat]; exact Nat.mod_eq_of_lt (by omega)
  have h2 : (BitVec.ofInt 64 (x : Int)).toNat = x := by rw [BitVec.ofInt_natCast, BitVec.toNat_ofNat]; exact Nat.mod_eq_of_lt (by omega)
  show IntKind.u64.wrap ((BitVec.ofInt 64 (m : Int) &&& BitVec.ofInt 64 (x : Int)).toNat : Int) = _
  rw [BitVec.toNat_and, h1, h2]
  have h3 : m &&& x ≤ m := Nat.and_le_left
  generalize m &&& x = y at h3
  simp [IntKind.wrap, IntKind.signed, IntKind.bits]
  omega
theorem wpList_and64 {P : Program} {ops : Array Oper} {rest : List Oper} {o : Oper} {a : Act} {w : World} {Q : Exit → Act → World → Prop} (hgd : o.guard = none) (t t2 : TypeId) (x y : Operand)
    (ho : o.op = .binOp .and t x y t2) (m n : Nat) (hm : m < 18446744073709551616) (hn : n < 18446744073709551616) (hx : a.eval x = .int .u64 (m : Int)) (hy : a.eval y = .int .u64 (n : Int)) (c : Nat) (hc : m &&& n = c) (hK : wpList P ops Q rest (a.put o.dst (.int .u64 (c : Int))) w) : wpList P ops Q (o :: rest) a w := by
  subst hc
  refine wpList_plain hgd fun K hK' => ?_
  unfold Oper.wp execOp
  simp only [ho, hx, hy, binOp, eqGuard, intBits_and, u64_and m n hm hn, Sem.run_bind, Sem.run_pure, Result.andThen_ok]
  exact hK' _ _ hK
theorem results_cct {P : Program} {fn : Func} {p p2 q : Tmp} {ty ty2 : TypeId} (h : fn.results = #[.cell p ty, .cell p2 ty2, .tmp q]) (tmps : Array Value) (w : World) (g g2 : Nat) (t t2 : TypeId) (cs cs2 : Array Value) (fr fr2 : Nat × Nat) (d d2 : TypeDesc)
    (hp : tmps.getD p undef = .pointer (some ⟨g, 0, none⟩)) (hg : w.heap[g]? = some (.cells cs t fr)) (hp2 : tmps.getD p2 undef = .pointer (some ⟨g2, 0, none⟩)) (hg2 : w.heap[g2]? = some (.cells cs2 t2 fr2))
    (hu : P.underlying ty = some d) (hd : (match d with | .struct _ | .array _ _ => true | _ => false) = true) (hi : (P.info? ty).map (·.size) = some cs.size)
    (hu2 : P.underlying ty2 = some d2) (hd2 : (match d2 with | .struct _ | .array _ _ => true | _ => false) = true) (hi2 : (P.info? ty2).map (·.size) = some cs2.size) (v : Value) (hq : tmps.getD q undef = v) :
    (results fn tmps).run P w = .ok (.tuple #[.agg cs, .agg cs2, v]) w := by
  have hp' : tmps[p]?.getD undef = .pointer (some ⟨g, 0, none⟩) := by simpa using hp
  have hp2' : tmps[p2]?.getD undef = .pointer (some ⟨g2, 0, none⟩) := by simpa using hp2
  have hq' : tmps[q]?.getD undef = v := by simpa using hq
  simp [results, h, hp', hp2', hq', asAddr, run_loadVar_row w g t ty cs fr d hg hu hd hi, run_loadVar_row w g2 t2 ty2 cs2 fr2 d2 hg2 hu2 hd2 hi2]
end Go.Proofs.YtecadmldnjlibaaDoor
/-
  Laws for drawn regions, by genreg.py. No program.
-/
namespace Go.Proofs.YtecadmldnjlibaaDoor
open Go Go.RowKit Go.BigFrame
set_option linter.unusedVariables false
set_option linter.unusedSimpArgs false
section
variable {P : Program} {Q : Exit → Act → World → Prop}
theorem wp_si10 {id : Nat} {o0 o1 o2 o3 o4 o5 o6 o7 o8 o9 : Oper} {a : Act} {w : World} (hm : P.follows .mixedOrders = true) (hs : Region.noSelect #[o0, o1, o2, o3, o4, o5, o6, o7, o8, o9] = true)
    (f0 : Region.free .any #[o0, o1, o2, o3, o4, o5, o6, o7, o8, o9] #[false, false, false, false, false, false, false, false, false, false] 0 = true) (r0 : (Region.ready .any #[o0, o1, o2, o3, o4, o5, o6, o7, o8, o9] #[false, false, false, false, false, false, false, false, false, false]).contains 0 = true)
    (f1 : Region.free .any #[o0, o1, o2, o3, o4, o5, o6, o7, o8, o9] #[true, false, false, false, false, false, false, false, false, false] 1 = true) (r1 : (Region.ready .any #[o0, o1, o2, o3, o4, o5, o6, o7, o8, o9] #[true, false, false, false, false, false, false, false, false, false]).contains 1 = true)
    (f2 : Region.free .any #[o0, o1, o2, o3, o4, o5, o6, o7, o8, o9] #[true, true, false, false, false, false, false, false, false, false] 2 = true) (r2 : (Region.ready .any #[o0, o1, o2, o3, o4, o5, o6, o7, o8, o9] #[true, true, false, false, false, false, false, false, false, false]).contains 2 = true)
    (f3 : Region.free .any #[o0, o1, o2, o3, o4, o5, o6, o7, o8, o9] #[true, true, true, false, false, false, false, false, false, false] 3 = true) (r3 : (Region.ready .any #[o0, o1, o2, o3, o4, o5, o6, o7, o8, o9] #[true, true, true, false, false, false, false, false, false, false]).contains 3 = true)
    (f4 : Region.free .any #[o0, o1, o2, o3, o4, o5, o6, o7, o8, o9] #[true, true, true, true, false, false, false, false, false, false] 4 = true) (r4 : (Region.ready .any #[o0, o1, o2, o3, o4, o5, o6, o7, o8, o9] #[true, true, true, true, false, false, false, false, false, false]).contains 4 = true)
    (f5 : Region.free .any #[o0, o1, o2, o3, o4, o5, o6, o7, o8, o9] #[true, true, true, true, true, false, false, false, false, false] 5 = true) (r5 : (Region.ready .any #[o0, o1, o2, o3, o4, o5, o6, o7, o8, o9] #[true, true, true, true, true, false, false, false, false, false]).contains 5 = true)
    (q_ : Region.ready .any #[o0, o1, o2, o3, o4, o5, o6, o7, o8, o9] #[true, true, true, true, true, true, false, false, false, false] = [6, 7])
    (q6_ : Region.ready .any #[o0, o1, o2, o3, o4, o5, o6, o7, o8, o9] #[true, true, true, true, true, true, true, false, false, false] = [7])
    (q7_ : Region.ready .any #[o0, o1, o2, o3, o4, o5, o6, o7, o8, o9] #[true, true, true, true, true, true, false, true, false, false] = [6])
    (q6_7_ : Region.ready .any #[o0, o1, o2, o3, o4, o5, o6, o7, o8, o9] #[true, true, true, true, true, true, true, true, false, false] = [8])
    (q6_7_8_ : Region.ready .any #[o0, o1, o2, o3, o4, o5, o6, o7, o8, o9] #[true, true, true, true, true, true, true, true, true, false] = [9])
    (q6_7_8_9_ : Region.ready .any #[o0, o1, o2, o3, o4, o5, o6, o7, o8, o9] #[true, true, true, true, true, true, true, true, true, true] = [])
    (g6 : o6.guard = none)    (g7 : o7.guard = none)    (g8 : o8.guard = none)    (g9 : o9.guard = none)
    (ne7_6 : ∀ d, o7.dst = some d → o6.dst ≠ some d)
    (v0 v1 v2 v3 v4 v5 : Value) (A0 A1 A2 A3 A4 A5 : Act)
    (S : World → Prop)
    (I_ : World → Prop)
    (I6_ : Value → World → Prop)
    (I7_ : Value → World → Prop)
    (I6_7_ : Value → Value → World → Prop)
    (I6_7_8_ : Value → Value → Value → World → Prop)
    (I6_7_8_9_ : Value → Value → Value → Value → World → Prop)
    (p0 : a.put o0.dst v0 = A0) (hy0 : YieldsIf P #[o0, o1, o2, o3, o4, o5, o6, o7, o8, o9] S o0 v0 a)
    (p1 : A0.put o1.dst v1 = A1) (hy1 : YieldsIf P #[o0, o1, o2, o3, o4, o5, o6, o7, o8, o9] S o1 v1 A0)
    (p2 : A1.put o2.dst v2 = A2) (hy2 : YieldsIf P #[o0, o1, o2, o3, o4, o5, o6, o7, o8, o9] S o2 v2 A1)
    (p3 : A2.put o3.dst v3 = A3) (hy3 : YieldsIf P #[o0, o1, o2, o3, o4, o5, o6, o7, o8, o9] S o3 v3 A2)
    (p4 : A3.put o4.dst v4 = A4) (hy4 : YieldsIf P #[o0, o1, o2, o3, o4, o5, o6, o7, o8, o9] S o4 v4 A3)
    (p5 : A4.put o5.dst v5 = A5) (hy5 : YieldsIf P #[o0, o1, o2, o3, o4, o5, o6, o7, o8, o9] S o5 v5 A4)
    (i0 : I_ w.drew)
    (hIS : (∀ w', I_  w' → S w') ∧ (∀ (u6 : Value) w', I6_ u6 w' → S w') ∧ (∀ (u7 : Value) w', I7_ u7 w' → S w') ∧ (∀ (u6 u7 : Value) w', I6_7_ u6 u7 w' → S w') ∧ (∀ (u6 u7 u8 : Value) w', I6_7_8_ u6 u7 u8 w' → S w') ∧ (∀ (u6 u7 u8 u9 : Value) w', I6_7_8_9_ u6 u7 u8 u9 w' → S w'))
    (s_6 : ∀ w', I_  w' → ∀ K : Act → World → Prop, (∀ (u6 : Value) w2, I6_ u6 w2 → K (A5.put o6.dst u6) w2) → o6.wp P A5 w' K (NoPanic Q))
    (s_7 : ∀ w', I_  w' → ∀ K : Act → World → Prop, (∀ (u7 : Value) w2, I7_ u7 w2 → K (A5.put o7.dst u7) w2) → o7.wp P A5 w' K (NoPanic Q))
    (s6_7 : ∀ (u6 : Value) w', I6_ u6 w' → ∀ K : Act → World → Prop, (∀ (u7 : Value) w2, I6_7_ u6 u7 w2 → K ((A5.put o6.dst u6).put o7.dst u7) w2) → o7.wp P (A5.put o6.dst u6) w' K (NoPanic Q))
    (s7_6 : ∀ (u7 : Value) w', I7_ u7 w' → ∀ K : Act → World → Prop, (∀ (u6 : Value) w2, I6_7_ u6 u7 w2 → K ((A5.put o7.dst u7).put o6.dst u6) w2) → o6.wp P (A5.put o7.dst u7) w' K (NoPanic Q))
    (s6_7_8 : ∀ (u6 u7 : Value) w', I6_7_ u6 u7 w' → ∀ K : Act → World → Prop, (∀ (u8 : Value) w2, I6_7_8_ u6 u7 u8 w2 → K (((A5.put o6.dst u6).put o7.dst u7).put o8.dst u8) w2) → o8.wp P ((A5.put o6.dst u6).put o7.dst u7) w' K (NoPanic Q))
    (s6_7_8_9 : ∀ (u6 u7 u8 : Value) w', I6_7_8_ u6 u7 u8 w' → ∀ K : Act → World → Prop, (∀ (u9 : Value) w2, I6_7_8_9_ u6 u7 u8 u9 w2 → K ((((A5.put o6.dst u6).put o7.dst u7).put o8.dst u8).put o9.dst u9) w2) → o9.wp P (((A5.put o6.dst u6).put o7.dst u7).put o8.dst u8) w' K (NoPanic Q))
    (h : ∀ (u6 u7 u8 u9 : Value) w', I6_7_8_9_ u6 u7 u8 u9 w' → Q .normal ((((A5.put o6.dst u6).put o7.dst u7).put o8.dst u8).put o9.dst u9) w') :
    (Code.region id #[o0, o1, o2, o3, o4, o5, o6, o7, o8, o9] true).wp P Q a w := by
  subst p0 p1 p2 p3 p4 p5
  obtain ⟨z_, z6_, z7_, z6_7_, z6_7_8_, z6_7_8_9_⟩ := hIS
  refine wp_region_noPanic ?_
  refine wp_region_held_drew (S := S) hm (z_ _ i0) (fun hH => ?_)
  show wpAnyH P .any #[o0, o1, o2, o3, o4, o5, o6, o7, o8, o9] (NoPanic Q) S 10 #[false, false, false, false, false, false, false, false, false, false] a w.drew
  refine wpAnyH_take (i := 0) (oi := o0) rfl hs f0 r0 (fun _ _ _ h => h) hy0 hH ?_
  refine wpAnyH_take (i := 1) (oi := o1) rfl hs f1 r1 (fun _ _ _ h => h) hy1 hH ?_
  refine wpAnyH_take (i := 2) (oi := o2) rfl hs f2 r2 (fun _ _ _ h => h) hy2 hH ?_
  refine wpAnyH_take (i := 3) (oi := o3) rfl hs f3 r3 (fun _ _ _ h => h) hy3 hH ?_
  refine wpAnyH_take (i := 4) (oi := o4) rfl hs f4 r4 (fun _ _ _ h => h) hy4 hH ?_
  refine wpAnyH_take (i := 5) (oi := o5) rfl hs f5 r5 (fun _ _ _ h => h) hy5 hH ?_
  generalize ((((((a.put o0.dst v0).put o1.dst v1).put o2.dst v2).put o3.dst v3).put o4.dst v4).put o5.dst v5) = B at *
  have wa6 : ∀ y, Region.wanted o6 y = true := fun y => by unfold Region.wanted; rw [g6]
  have wa7 : ∀ y, Region.wanted o7 y = true := fun y => by unfold Region.wanted; rw [g7]
  have wa8 : ∀ y, Region.wanted o8 y = true := fun y => by unfold Region.wanted; rw [g8]
  have wa9 : ∀ y, Region.wanted o9 y = true := fun y => by unfold Region.wanted; rw [g9]
  have t6_7_8_9_ : ∀ (u6 u7 u8 u9 : Value) w', I6_7_8_9_ u6 u7 u8 u9 w' → wpAnyH P .any #[o0, o1, o2, o3, o4, o5, o6, o7, o8, o9] (NoPanic Q) S 0 #[true, true, true, true, true, true, true, true, true, true] ((((B.put o6.dst u6).put o7.dst u7).put o8.dst u8).put o9.dst u9) w' := by
    intro u6 u7 u8 u9 w0 i0
    exact ⟨q6_7_8_9_, NoPanic.normal (h u6 u7 u8 u9 w0 i0)⟩
  have t6_7_8_ : ∀ (u6 u7 u8 : Value) w', I6_7_8_ u6 u7 u8 w' → wpAnyH P .any #[o0, o1, o2, o3, o4, o5, o6, o7, o8, o9] (NoPanic Q) S 1 #[true, true, true, true, true, true, true, true, true, false] (((B.put o6.dst u6).put o7.dst u7).put o8.dst u8) w' := by
    intro u6 u7 u8 w0 i0
    refine wpAnyH_ready (rs := [9]) q6_7_8_ (by simp) (AllReadyH.cons (o := o9) rfl (fun K hK => ?_) AllReadyH.nil)
    · rw [if_pos (wa9 _)]
      refine s6_7_8_9 u6 u7 u8 w0 i0 K (fun u9 w1 i1 => hK.out _ _ (z6_7_8_9_ u6 u7 u8 u9 w1 i1) (fun _ => ?_))
      clear hK
      exact t6_7_8_9_ u6 u7 u8 u9 w1 i1
  have t6_7_ : ∀ (u6 u7 : Value) w', I6_7_ u6 u7 w' → wpAnyH P .any #[o0, o1, o2, o3, o4, o5, o6, o7, o8, o9] (NoPanic Q) S 2 #[true, true, true, true, true, true, true, true, false, false] ((B.put o6.dst u6).put o7.dst u7) w' := by
    intro u6 u7 w0 i0
    refine wpAnyH_ready (rs := [8]) q6_7_ (by simp) (AllReadyH.cons (o := o8) rfl (fun K hK => ?_) AllReadyH.nil)
    · rw [if_pos (wa8 _)]
      refine s6_7_8 u6 u7 w0 i0 K (fun u8 w1 i1 => hK.out _ _ (z6_7_8_ u6 u7 u8 w1 i1) (fun _ => ?_))
      clear hK
      exact t6_7_8_ u6 u7 u8 w1 i1
  have t7_ : ∀ (u7 : Value) w', I7_ u7 w' → wpAnyH P .any #[o0, o1, o2, o3, o4, o5, o6, o7, o8, o9] (NoPanic Q) S 3 #[true, true, true, true, true, true, false, true, false, false] (B.put o7.dst u7) w' := by
    intro u7 w0 i0
    refine wpAnyH_ready (rs := [6]) q7_ (by simp) (AllReadyH.cons (o := o6) rfl (fun K hK => ?_) AllReadyH.nil)
    · rw [if_pos (wa6 _)]
      refine s7_6 u7 w0 i0 K (fun u6 w1 i1 => hK.out _ _ (z6_7_ u6 u7 w1 i1) (fun _ => ?_))
      clear hK
      rw [Act.put_comm _ _ _ ne7_6]
      exact t6_7_ u6 u7 w1 i1
  have t6_ : ∀ (u6 : Value) w', I6_ u6 w' → wpAnyH P .any #[o0, o1, o2, o3, o4, o5, o6, o7, o8, o9] (NoPanic Q) S 3 #[true, true, true, true, true, true, true, false, false, false] (B.put o6.dst u6) w' := by
    intro u6 w0 i0
    refine wpAnyH_ready (rs := [7]) q6_ (by simp) (AllReadyH.cons (o := o7) rfl (fun K hK => ?_) AllReadyH.nil)
    · rw [if_pos (wa7 _)]
      refine s6_7 u6 w0 i0 K (fun u7 w1 i1 => hK.out _ _ (z6_7_ u6 u7 w1 i1) (fun _ => ?_))
      clear hK
      exact t6_7_ u6 u7 w1 i1
  have t_ : ∀ w', I_  w' → wpAnyH P .any #[o0, o1, o2, o3, o4, o5, o6, o7, o8, o9] (NoPanic Q) S 4 #[true, true, true, true, true, true, false, false, false, false] B w' := by
    intro w0 i0
    refine wpAnyH_ready (rs := [6, 7]) q_ (by simp) (AllReadyH.cons (o := o6) rfl (fun K hK => ?_) (AllReadyH.cons (o := o7) rfl (fun K hK => ?_) AllReadyH.nil))
    · rw [if_pos (wa6 _)]
      refine s_6  w0 i0 K (fun u6 w1 i1 => hK.out _ _ (z6_ u6 w1 i1) (fun _ => ?_))
      clear hK
      exact t6_ u6 w1 i1
    · rw [if_pos (wa7 _)]
      refine s_7  w0 i0 K (fun u7 w1 i1 => hK.out _ _ (z7_ u7 w1 i1) (fun _ => ?_))
      clear hK
      exact t7_ u7 w1 i1
  exact t_ w.drew i0

theorem wp_si7 {id : Nat} {o0 o1 o2 o3 o4 o5 o6 : Oper} {a : Act} {w : World} (hm : P.follows .mixedOrders = true) (hs : Region.noSelect #[o0, o1, o2, o3, o4, o5, o6] = true)
    (f0 : Region.free .any #[o0, o1, o2, o3, o4, o5, o6] #[false, false, false, false, false, false, false] 0 = true) (r0 : (Region.ready .any #[o0, o1, o2, o3, o4, o5, o6] #[false, false, false, false, false, false, false]).contains 0 = true)
    (f1 : Region.free .any #[o0, o1, o2, o3, o4, o5, o6] #[true, false, false, false, false, false, false] 1 = true) (r1 : (Region.ready .any #[o0, o1, o2, o3, o4, o5, o6] #[true, false, false, false, false, false, false]).contains 1 = true)
    (f2 : Region.free .any #[o0, o1, o2, o3, o4, o5, o6] #[true, true, false, false, false, false, false] 2 = true) (r2 : (Region.ready .any #[o0, o1, o2, o3, o4, o5, o6] #[true, true, false, false, false, false, false]).contains 2 = true)
    (f3 : Region.free .any #[o0, o1, o2, o3, o4, o5, o6] #[true, true, true, false, false, false, false] 3 = true) (r3 : (Region.ready .any #[o0, o1, o2, o3, o4, o5, o6] #[true, true, true, false, false, false, false]).contains 3 = true)
    (q_ : Region.ready .any #[o0, o1, o2, o3, o4, o5, o6] #[true, true, true, true, false, false, false] = [4])
    (q4_ : Region.ready .any #[o0, o1, o2, o3, o4, o5, o6] #[true, true, true, true, true, false, false] = [5])
    (q4_5_ : Region.ready .any #[o0, o1, o2, o3, o4, o5, o6] #[true, true, true, true, true, true, false] = [6])
    (q4_5_6_ : Region.ready .any #[o0, o1, o2, o3, o4, o5, o6] #[true, true, true, true, true, true, true] = [])
    (g4 : o4.guard = none)    (g5 : o5.guard = none)    (g6 : o6.guard = none)
    (v0 v1 v2 v3 : Value) (A0 A1 A2 A3 : Act)
    (S : World → Prop)
    (I_ : World → Prop)
    (I4_ : Value → World → Prop)
    (I4_5_ : Value → Value → World → Prop)
    (I4_5_6_ : Value → Value → Value → World → Prop)
    (p0 : a.put o0.dst v0 = A0) (hy0 : YieldsIf P #[o0, o1, o2, o3, o4, o5, o6] S o0 v0 a)
    (p1 : A0.put o1.dst v1 = A1) (hy1 : YieldsIf P #[o0, o1, o2, o3, o4, o5, o6] S o1 v1 A0)
    (p2 : A1.put o2.dst v2 = A2) (hy2 : YieldsIf P #[o0, o1, o2, o3, o4, o5, o6] S o2 v2 A1)
    (p3 : A2.put o3.dst v3 = A3) (hy3 : YieldsIf P #[o0, o1, o2, o3, o4, o5, o6] S o3 v3 A2)
    (i0 : I_ w.drew)
    (hIS : (∀ w', I_  w' → S w') ∧ (∀ (u4 : Value) w', I4_ u4 w' → S w') ∧ (∀ (u4 u5 : Value) w', I4_5_ u4 u5 w' → S w') ∧ (∀ (u4 u5 u6 : Value) w', I4_5_6_ u4 u5 u6 w' → S w'))
    (s_4 : ∀ w', I_  w' → ∀ K : Act → World → Prop, (∀ (u4 : Value) w2, I4_ u4 w2 → K (A3.put o4.dst u4) w2) → o4.wp P A3 w' K (NoPanic Q))
    (s4_5 : ∀ (u4 : Value) w', I4_ u4 w' → ∀ K : Act → World → Prop, (∀ (u5 : Value) w2, I4_5_ u4 u5 w2 → K ((A3.put o4.dst u4).put o5.dst u5) w2) → o5.wp P (A3.put o4.dst u4) w' K (NoPanic Q))
    (s4_5_6 : ∀ (u4 u5 : Value) w', I4_5_ u4 u5 w' → ∀ K : Act → World → Prop, (∀ (u6 : Value) w2, I4_5_6_ u4 u5 u6 w2 → K (((A3.put o4.dst u4).put o5.dst u5).put o6.dst u6) w2) → o6.wp P ((A3.put o4.dst u4).put o5.dst u5) w' K (NoPanic Q))
    (h : ∀ (u4 u5 u6 : Value) w', I4_5_6_ u4 u5 u6 w' → Q .normal (((A3.put o4.dst u4).put o5.dst u5).put o6.dst u6) w') :
    (Code.region id #[o0, o1, o2, o3, o4, o5, o6] true).wp P Q a w := by
  subst p0 p1 p2 p3
  obtain ⟨z_, z4_, z4_5_, z4_5_6_⟩ := hIS
  refine wp_region_noPanic ?_
  refine wp_region_held_drew (S := S) hm (z_ _ i0) (fun hH => ?_)
  show wpAnyH P .any #[o0, o1, o2, o3, o4, o5, o6] (NoPanic Q) S 7 #[false, false, false, false, false, false, false] a w.drew
  refine wpAnyH_take (i := 0) (oi := o0) rfl hs f0 r0 (fun _ _ _ h => h) hy0 hH ?_
  refine wpAnyH_take (i := 1) (oi := o1) rfl hs f1 r1 (fun _ _ _ h => h) hy1 hH ?_
  refine wpAnyH_take (i := 2) (oi := o2) rfl hs f2 r2 (fun _ _ _ h => h) hy2 hH ?_
  refine wpAnyH_take (i := 3) (oi := o3) rfl hs f3 r3 (fun _ _ _ h => h) hy3 hH ?_
  generalize ((((a.put o0.dst v0).put o1.dst v1).put o2.dst v2).put o3.dst v3) = B at *
  have wa4 : ∀ y, Region.wanted o4 y = true := fun y => by unfold Region.wanted; rw [g4]
  have wa5 : ∀ y, Region.wanted o5 y = true := fun y => by unfold Region.wanted; rw [g5]
  have wa6 : ∀ y, Region.wanted o6 y = true := fun y => by unfold Region.wanted; rw [g6]
  have t4_5_6_ : ∀ (u4 u5 u6 : Value) w', I4_5_6_ u4 u5 u6 w' → wpAnyH P .any #[o0, o1, o2, o3, o4, o5, o6] (NoPanic Q) S 0 #[true, true, true, true, true, true, true] (((B.put o4.dst u4).put o5.dst u5).put o6.dst u6) w' := by
    intro u4 u5 u6 w0 i0
    exact ⟨q4_5_6_, NoPanic.normal (h u4 u5 u6 w0 i0)⟩
  have t4_5_ : ∀ (u4 u5 : Value) w', I4_5_ u4 u5 w' → wpAnyH P .any #[o0, o1, o2, o3, o4, o5, o6] (NoPanic Q) S 1 #[true, true, true, true, true, true, false] ((B.put o4.dst u4).put o5.dst u5) w' := by
    intro u4 u5 w0 i0
    refine wpAnyH_ready (rs := [6]) q4_5_ (by simp) (AllReadyH.cons (o := o6) rfl (fun K hK => ?_) AllReadyH.nil)
    · rw [if_pos (wa6 _)]
      refine s4_5_6 u4 u5 w0 i0 K (fun u6 w1 i1 => hK.out _ _ (z4_5_6_ u4 u5 u6 w1 i1) (fun _ => ?_))
      clear hK
      exact t4_5_6_ u4 u5 u6 w1 i1
  have t4_ : ∀ (u4 : Value) w', I4_ u4 w' → wpAnyH P .any #[o0, o1, o2, o3, o4, o5, o6] (NoPanic Q) S 2 #[true, true, true, true, true, false, false] (B.put o4.dst u4) w' := by
    intro u4 w0 i0
    refine wpAnyH_ready (rs := [5]) q4_ (by simp) (AllReadyH.cons (o := o5) rfl (fun K hK => ?_) AllReadyH.nil)
    · rw [if_pos (wa5 _)]
      refine s4_5 u4 w0 i0 K (fun u5 w1 i1 => hK.out _ _ (z4_5_ u4 u5 w1 i1) (fun _ => ?_))
      clear hK
      exact t4_5_ u4 u5 w1 i1
  have t_ : ∀ w', I_  w' → wpAnyH P .any #[o0, o1, o2, o3, o4, o5, o6] (NoPanic Q) S 3 #[true, true, true, true, false, false, false] B w' := by
    intro w0 i0
    refine wpAnyH_ready (rs := [4]) q_ (by simp) (AllReadyH.cons (o := o4) rfl (fun K hK => ?_) AllReadyH.nil)
    · rw [if_pos (wa4 _)]
      refine s_4  w0 i0 K (fun u4 w1 i1 => hK.out _ _ (z4_ u4 w1 i1) (fun _ => ?_))
      clear hK
      exact t4_ u4 w1 i1
  exact t_ w.drew i0

end
end Go.Proofs.YtecadmldnjlibaaDoor
/-
  A drawn region whose first n operations read, or call what keeps all that was there, and whose others stand in one row behind them: one walk in the text's order, over the worlds that keep W.
-/
namespace Go.Proofs.YtecadmldnjlibaaDoor
open Go Go.RowKit Go.BigFrame
set_option linter.unusedSimpArgs false

theorem wp_keep_tail {P : Program} {id : Nat} {Q : Exit → Act → World → Prop} {a : Act} {w : World} {l : List Oper} (n : Nat) (hm : P.follows .mixedOrders = true) (hB : Region.lexTailB .any l.toArray n = true)
    (h : wpQuiet P l.toArray (fun w' => Kept [] w w') (fun a' => ∀ w', Kept [] w w' → wpList P l.toArray Q (l.drop n) a' w') (l.take n) a) : (Code.region id l.toArray true).wp P Q a w := by
  simp only [Region.lexTailB, Bool.and_eq_true, decide_eq_true_eq] at hB
  obtain ⟨⟨⟨⟨hsel, hn⟩, hs⟩, hc⟩, hlex⟩ := hB
  have hn' : n < l.length := by simpa using hn
  have htl : (l.take n).length = n := by simp; omega
  have hdl : (l.drop n).length = l.toArray.size - n := by simp
  have inv : HeadInv .any l.toArray n (Array.replicate l.toArray.size false) :=
    ⟨by simp, fun j oj _ hl => absurd hl (by rw [getD_replicate_false]; decide), fun t _ ht => getD_in (by simpa using ht) (getD_replicate_false _ _)⟩
  have H := AnyHead.lex (md := .any) (g := l.toArray.size - n) hsel hs hc hn (l.take n) 0 _ a (fun j hj => by
    rw [htl] at hj
    simp [hj]) (by omega) inv (by rw [htl]; exact hlex) h
  refine wp_region_any hm ?_
  have K := AnyHead.any (Q := Q) (g := l.toArray.size - n) (fun d a' w' hw' hL => by
    have := wpAny_of_seq (md := .any) (Q' := Q) (l.drop n) n d a' w' (fun j => by simp [List.getElem?_drop]) (by rw [hdl]; exact hL.1) (hL.2 w' hw')
    rwa [hdl] at this) _ _ _ w.drew ((Kept.refl [] w).drew) H
  rw [htl, show n + (l.toArray.size - n) = l.toArray.size by omega] at K
  exact K
end Go.Proofs.YtecadmldnjlibaaDoor
namespace Go.Proofs.YtecadmldnjlibaaDoor
open Go.RowKit Go.BigFrame
set_option linter.unusedVariables false
set_option linter.unusedSimpArgs false

theorem own_one (w : World) (base : Nat) (d : List Nat) (hb : base ≤ w.heap.size) (hd : d.length = 32) : (w.alloc (.cells (brow d) 41)).ownsRow base 41 32 (.slice (some ⟨w.heap.size, 0, none⟩) 1 1) [d].length (flatD [d]) :=
  ⟨by simp [flatD, hd], .inr ⟨w.heap.size, 1, brow d, rfl, hb, heap_alloc_new w _, Nat.le_refl _, by unfold maxLen; omega, by rw [brow_size, hd], by simp [flatD, brow]; rw [List.take_of_length_le (by simp [hd])]⟩⟩

theorem range_lt {w : World} {b o : Nat} {X : List Nat} (h : w.rangeAt b o (X.map u8)) (hx : X.length = 32) : b < w.heap.size := by
  cases X with
  | nil => simp at hx
  | cons y r => exact block_lt_of_cell (h 0 _ rfl)

/-- What the walk of both is told. -/
structure BoT (k : Nat) (L Q : List (List Nat)) (m n h0 : Nat) : Prop where
  dg : ∀ d ∈ Q, Dg d ∧ formB (k : Int) d = true
  ln : 2 ≤ Q.length ∧ Q.length ≤ 100
  ab : ∀ h, (Dg (aH k L m h) ∧ formB (k : Int) (aH k L m h) = true) ∧ Dg (bH k L m n h) ∧ formB (k : Int) (bH k L m n h) = true
  st : aH k L m h0 = Q.getD 0 [] ∧ bH k L m n h0 = Q.getD 0 []
  lo : ∀ g, g < h0 → (m - 1) / 2 ^ g % 2 = 1
  l0 : (m - 1) / 2 ^ h0 % 2 = 0
  r0 : (levR n (m - 1) h0 h0).length = 0
  h64 : h0 ≤ 64
  fin : ∀ h, h0 ≤ h → ¬ (levR n (m - 1) h0 h).length + 1 < Q.length → (n - 1) / 2 ^ h = 0 ∧ aH k L m h = rngD k (noT k) L 0 m ∧ bH k L m n h = rngD k (noT k) L 0 n
  pos : ∀ h, h ≤ 64 → (levR n (m - 1) h0 h).length + 1 < Q.length → (n - 1) / 2 ^ h ≠ 0
  up : ∀ h, h0 ≤ h → (n - 1) / 2 ^ h ≠ 0 → ((m - 1) / 2 ^ h % 2 = 1 ∨ (n - 1) / 2 ^ h = (m - 1) / 2 ^ h) → ∃ j, h ≤ j ∧ j < 64 ∧ (m - 1) / 2 ^ j % 2 = 1 ∧ (∀ g, h ≤ g → g < j → (m - 1) / 2 ^ g % 2 = 0 ∧ 0 < (m - 1) / 2 ^ g) ∧ (levR n (m - 1) h0 (j + 1)).length = (levR n (m - 1) h0 h).length + 1 ∧ aH k L m (j + 1) = nodS k (Q.getD ((levR n (m - 1) h0 h).length + 1) []) (aH k L m h) ∧ bH k L m n (j + 1) = nodS k (Q.getD ((levR n (m - 1) h0 h).length + 1) []) (bH k L m n h)
  dn : ∀ h, h0 ≤ h → (n - 1) / 2 ^ h ≠ 0 → ¬ ((m - 1) / 2 ^ h % 2 = 1 ∨ (n - 1) / 2 ^ h = (m - 1) / 2 ^ h) → h < 64 ∧ (levR n (m - 1) h0 (h + 1)).length = (levR n (m - 1) h0 h).length + 1 ∧ aH k L m (h + 1) = aH k L m h ∧ bH k L m n (h + 1) = nodS k (bH k L m n h) (Q.getD ((levR n (m - 1) h0 h).length + 1) [])

set_option maxRecDepth 100000 in
set_option maxHeartbeats 4000000 in
theorem both_any (k : Nat) (L : List (List Nat)) (m n h0 : Nat) (old : List Nat) (P Q : List (List Nat)) (pv : Value) (w : World) (hk : 1 ≤ k ∧ k ≤ 32) (hm0 : 0 < m) (hmn : m < n) (hn : n < 18446744073709551616)
    (hold : Dg old) (hP : RdD w pv P) (hPl : P.length ≤ 100) (hQ : Q = if m &&& (m - 1) = 0 then old :: P else P) (hB : BoT k L Q m n h0) (hT : Tabs w) :
    Calls Tryd.prog 24 #[.int .i64 k, .int .u64 m, .int .u64 n, .agg (brow old), pv] w fun e w' => e = .returned (.tuple #[.agg (brow (rngD k (noT k) L 0 m)), .agg (brow (rngD k (noT k) L 0 n)), .bool true]) ∧ Kept [] w w' := by
  have hwb : widthB (k : Int) = true := by simp [widthB]; omega
  have HWB := hide hwb
  have HTB := hide hT
  have HP := hide hP
  have HB := hide hB
  have HOL := hide hold
  have hol := hold.1
  have hqn := hB.ln
  obtain ⟨ao, len, cap, rfl, h1, h2, h3, h4, h5⟩ := hP
  clear h4 h5 hT hB hold hwb
  subst h1
  have m1 : IntKind.u64.wrap ((m : Int) - 1) = ((m - 1 : Nat) : Int) := by rw [wrU]; omega
  have n1 : IntKind.u64.wrap ((n : Int) - 1) = ((n - 1 : Nat) : Int) := by rw [wrU]; omega
  have HK0 := hide ((((Kept.refl [] w).alloc (.cells (brow old) 41)).alloc (.cells (zb 32) 41)).alloc (.cells (zb 32) 41))
  have HG2 := hide (alloc3_at w (.cells (brow old) 41) (.cells (zb 32) 41) (.cells (zb 32) 41))
  have HG1 := hide (((Kept.refl [] ((w.alloc (.cells (brow old) 41)).alloc (.cells (zb 32) 41))).alloc (.cells (zb 32) 41)).heap (alloc_at w (.cells (brow old) 41) (.cells (zb 32) 41)) (by simp))
  have HG0 := hide ((((Kept.refl [] (w.alloc (.cells (brow old) 41))).alloc (.cells (zb 32) 41)).alloc (.cells (zb 32) 41)).heap (heap_alloc_new w (.cells (brow old) 41)) (by simp))
  obtain ⟨W0, hW0⟩ : ∃ W0, ((w.alloc (.cells (brow old) 41)).alloc (.cells (zb 32) 41)).alloc (.cells (zb 32) 41) = W0 := ⟨_, rfl⟩
  rw [hW0] at HK0 HG2 HG1 HG0
  have HW0 := hide hW0
  have HSO := hide (by rw [List.length_map, hol]; exact Tryd.size_dig : (Tryd.prog.info? 41).map (·.size) = some (old.map u8).length)
  clear hW0
  go_enter Tryd.func24, Tryd.ntmps24
  by_cases hand : m &&& (m - 1) = 0
  case' pos =>
    rw [if_pos hand] at hQ
    have hc0 := hand
    have HN1 := hide (heap_alloc_new W0 (.cells (brow old) 41))
    have HO1 := hide (own_one W0 W0.heap.size old (Nat.le_refl _) hol)
    have HR1 := hide (((unhide HP).old (unhide HK0)).old ((Kept.refl [] W0).alloc (.cells (brow old) 41)))
    have hql : [old].length + P.length = Q.length := by rw [hQ]; simp; omega
    obtain ⟨qn, hqe⟩ : ∃ qn, Q.length = qn := ⟨_, rfl⟩
    rw [hqe] at hqn hql
    have HQN := hide hqe
    have HQE := hide hQ
    have HQL := hide hql
    have hq0 : ¬ (qn : Int) = 0 := by omega
    clear hand hqe hQ hql
    go_wp2_with (first
      | (simp only [m1])
      | (rw [zb32, unhide HW0])
      | (refine wpList_and64 rfl _ _ (.tmp 19) (.tmp 21) rfl m (m - 1) (by omega) (by omega) rfl rfl 0 hc0 ?_)
      | (refine wpList_load_mid rfl 41 (.tmp 8) rfl w.heap.size 0 rfl (old.map u8) _ (range_row (unhide HG0)) Tryd.underlying41 rfl (unhide HSO) ?_)
      | (at_builtin; rw [zb32, one_digP old hol]; refine wpList_appendD rfl _ _ rfl rfl (W0.alloc (.cells (brow old) 41)) W0.heap.size (.slice (some ⟨W0.heap.size, 0, none⟩) 1 1) [old] P ao P.length cap (unhide HO1) (unhide HR1) (by simp; omega) (by simp) rfl rfl ?_; intro pa pc w3 HO3 HG3; rw [unhide HQL] at HO3 ⊢; have HQ3 := hide (by have h9 := rdd_owns (ds := [old] ++ P) (by simpa using unhide HO3) (by intro d hd; rcases List.mem_append.1 hd with h9 | h9; (rw [List.mem_singleton] at h9; subst h9; exact unhide HOL); exact (unhide HP).dg h9); rw [unhide HQE]; exact h9 : RdD w3 (.slice pa qn pc) Q); have HK3 := hide (((Kept.refl [] W0).alloc _).grown (unhide HG3) (by intro g9 hk9; right; simp [Value.ownBlock] at hk9; omega)); clear HO3 HG3))
    clear HN1 HO1 HR1 HQE HQL hc0
  case' neg =>
    rw [if_neg hand] at hQ
    subst hQ
    obtain ⟨c0, hc0⟩ : ∃ c0, m &&& (m - 1) = c0 := ⟨_, rfl⟩
    have hc1 : ¬ (c0 : Int) = 0 := by omega
    obtain ⟨qn, hqe⟩ : ∃ qn, Q.length = qn := ⟨_, rfl⟩
    have HQ3 := hide ((unhide HP).old (unhide HK0))
    rw [hqe] at hqn HQ3
    have HQN := hide hqe
    have hq0 : ¬ (qn : Int) = 0 := by omega
    have HK3 := hide (Kept.refl [] W0)
    clear hand
    simp only [hqe]
    clear hqe
    go_wp2_with (first
      | (simp only [m1])
      | (rw [zb32, unhide HW0])
      | (refine wpList_and64 rfl _ _ (.tmp 19) (.tmp 21) rfl m (m - 1) (by omega) (by omega) rfl rfl c0 hc0 ?_))
    obtain ⟨pa, hpa⟩ : ∃ pa, pa = ao := ⟨_, rfl⟩
    obtain ⟨pc, hpc⟩ : ∃ pc, pc = cap := ⟨_, rfl⟩
    obtain ⟨w3, hw3⟩ : ∃ w3, w3 = W0 := ⟨_, rfl⟩
    subst hpa hpc hw3
    clear hc0 hc1
  all_goals
    have HH1 := hide ((unhide HK3).heap (unhide HG1) (by simp))
    have HH2 := hide ((unhide HK3).heap (unhide HG2) (by simp))
    have HKW := hide ((unhide HK0).trans (unhide HK3) (by simp))
    obtain ⟨pb, po, rfl, hrng⟩ := (unhide HQ3).range (by rw [unhide HQN]; omega)
    have HRNG := hide hrng
    have hpcq : qn ≤ pc := by obtain ⟨_, _, _, e9, h91, h92, _⟩ := unhide HQ3; cases e9; omega
    clear hrng HK0 HK3 HG1 HG2 HG0 HW0 HSO
    have HF0 := hide (by rw [Nat.pow_zero, Nat.div_one, Nat.div_one]; exact ⟨rfl, rfl⟩ : (m - 1) / 2 ^ 0 = m - 1 ∧ (n - 1) / 2 ^ 0 = n - 1)
    go_loopw [13, 14] (fun t13 t14 wr => ∃ (g : Nat), g ≤ h0 ∧ t13 = .int .u64 (((m - 1) / 2 ^ g : Nat) : Int) ∧ t14 = .int .u64 (((n - 1) / 2 ^ g : Nat) : Int) ∧ Hid (wr = w3)) (fun t _ _ => (intOf t).toNat)
    case atStart => exact ⟨0, by omega, by rw [(unhide HF0).1], by rw [(unhide HF0).2], hide rfl⟩
    case round =>
      obtain ⟨g, hg, rfl, rfl, HWR⟩ := hrel
      have hwr := unhide HWR
      subst hwr
      have HU1 := hide (div_up (m - 1) g)
      have HU2 := hide (div_up (n - 1) g)
      have HLO := hide ((unhide HB).lo g)
      obtain ⟨f, hf⟩ : ∃ f, (m - 1) / 2 ^ g = f := ⟨_, rfl⟩
      obtain ⟨s, hs⟩ : ∃ s, (n - 1) / 2 ^ g = s := ⟨_, rfl⟩
      rw [hf] at HU1 HLO ⊢
      rw [hs] at HU2 ⊢
      have HFE := hide hf
      have HSE := hide hs
      clear hf hs
      have hfb : f < 18446744073709551616 := by rw [← unhide HFE]; exact Nat.lt_of_le_of_lt (Nat.div_le_self _ _) (by omega)
      have hsb : s < 18446744073709551616 := by rw [← unhide HSE]; exact Nat.lt_of_le_of_lt (Nat.div_le_self _ _) (by omega)
      have hwf : IntKind.u64.wrap ((f : Int) / 2) = ((f / 2 : Nat) : Int) := by rw [wrU]; omega
      have hws : IntKind.u64.wrap ((s : Int) / 2) = ((s / 2 : Nat) : Int) := by rw [wrU]; omega
      by_cases hgl : g < h0
      · have ho := unhide HLO hgl
        have ho' : (f : Int) % 2 = 1 := by omega
        go_wp2_with (simp only [hwf, hws])
        refine ⟨⟨g + 1, by omega, by rw [unhide HU1]; simp, by rw [unhide HU2]; simp, hide trivial⟩, ?_⟩
        simp [intOf]
        omega
      · have hge : h0 = g := by omega
        subst hge
        have ho := (unhide HB).l0
        rw [unhide HFE] at ho
        have ho' : ¬ (f : Int) % 2 = 1 := by omega
        clear hgl ho
        have HX0 := hide ((unhide HB).dg (Q.getD 0 []) (by rw [List.getD_eq_getElem?_getD, List.getElem?_eq_getElem (by rw [unhide HQN]; omega)]; exact List.getElem_mem _))
        have HX0R := hide (unhide HRNG 0 (by rw [unhide HQN]; omega))
        rw [Nat.zero_mul, Nat.add_zero] at HX0R
        have HST := hide ((unhide HB).st)
        obtain ⟨X0, hX0⟩ : ∃ X0, Q.getD 0 [] = X0 := ⟨_, rfl⟩
        rw [hX0] at HX0 HX0R HST
        have hx0l := (unhide HX0).1.1
        have hq1 : ¬ (qn : Int) ≤ 0 := by omega
        clear hX0
        go_wp2_with fail
        refine wp_si10 (by kernel_rfl) (by kernel_rfl) (by kernel_rfl) (by kernel_rfl) (by kernel_rfl) (by kernel_rfl) (by kernel_rfl) (by kernel_rfl) (by kernel_rfl) (by kernel_rfl) (by kernel_rfl) (by kernel_rfl) (by kernel_rfl) (by kernel_rfl) (by kernel_rfl) (by kernel_rfl) (by kernel_rfl) (by kernel_rfl) (by kernel_rfl) (by kernel_rfl) rfl rfl rfl rfl (by simp)
          (.slice (some ⟨pb, po, none⟩) qn pc) (.pointer (some ⟨pb, po, none⟩)) (.agg (X0.map Go.Proofs.YtecadmldnjlibaaDoor.u8).toArray) (.slice (some ⟨pb, po, none⟩) qn pc) (.pointer (some ⟨pb, po, none⟩)) (.agg (X0.map Go.Proofs.YtecadmldnjlibaaDoor.u8).toArray) _ _ _ _ _ _
          (fun w' => Kept [] wr w')
          (fun w' => Kept [] wr w')
          (fun u6 w' => (∃ g1, u6 = .pointer (some ⟨g1, 0, none⟩) ∧ wr.heap.size ≤ g1 ∧ w'.heap[g1]? = some (.cells (zb 32) 41 (0, 0))) ∧ Kept [] wr w')
          (fun u7 w' => (∃ g2, u7 = .pointer (some ⟨g2, 0, none⟩) ∧ wr.heap.size ≤ g2 ∧ w'.heap[g2]? = some (.cells (zb 32) 41 (0, 0))) ∧ Kept [] wr w')
          (fun u6 u7 w' => (∃ g1 g2, u6 = .pointer (some ⟨g1, 0, none⟩) ∧ u7 = .pointer (some ⟨g2, 0, none⟩) ∧ wr.heap.size ≤ g1 ∧ wr.heap.size ≤ g2 ∧ g1 ≠ g2 ∧ w'.heap[g1]? = some (.cells (zb 32) 41 (0, 0)) ∧ w'.heap[g2]? = some (.cells (zb 32) 41 (0, 0))) ∧ Kept [] wr w')
          (fun u6 u7 u8 w' => (∃ g1 g2, u6 = .pointer (some ⟨g1, 0, none⟩) ∧ u7 = .pointer (some ⟨g2, 0, none⟩) ∧ wr.heap.size ≤ g1 ∧ wr.heap.size ≤ g2 ∧ g1 ≠ g2 ∧ w'.heap[g1]? = some (.cells (brow X0) 41 (0, 0)) ∧ w'.heap[g2]? = some (.cells (zb 32) 41 (0, 0))) ∧ Kept [] wr w')
          (fun u6 u7 u8 u9 w' => (∃ g1 g2, u6 = .pointer (some ⟨g1, 0, none⟩) ∧ u7 = .pointer (some ⟨g2, 0, none⟩) ∧ wr.heap.size ≤ g1 ∧ wr.heap.size ≤ g2 ∧ g1 ≠ g2 ∧ w'.heap[g1]? = some (.cells (brow X0) 41 (0, 0)) ∧ w'.heap[g2]? = some (.cells (brow X0) 41 (0, 0))) ∧ Kept [] wr w')
          (by simp only [Act.put, List.setIfInBounds_toArray, List.set_cons_zero, List.set_cons_succ]; rfl) (by exact Or.inl ⟨by rfl, fun W' hW' => by go_simp⟩)
          (by simp only [Act.put, List.setIfInBounds_toArray, List.set_cons_zero, List.set_cons_succ]; rfl) (by exact Or.inl ⟨by rfl, fun W' hW' => by go_simp; intro h9; omega⟩)
          (by simp only [Act.put, List.setIfInBounds_toArray, List.set_cons_zero, List.set_cons_succ]; rfl) (by exact Or.inl ⟨by rfl, fun W' hW' => run_mid 41 (.tmp 45) rfl pb po rfl (X0.map Go.Proofs.YtecadmldnjlibaaDoor.u8) _ W' (range_kept (unhide HX0R) hW' (by simp)) Tryd.underlying41 rfl (by rw [List.length_map, hx0l]; exact Tryd.size_dig)⟩)
          (by simp only [Act.put, List.setIfInBounds_toArray, List.set_cons_zero, List.set_cons_succ]; rfl) (by exact Or.inl ⟨by rfl, fun W' hW' => by go_simp⟩)
          (by simp only [Act.put, List.setIfInBounds_toArray, List.set_cons_zero, List.set_cons_succ]; rfl) (by exact Or.inl ⟨by rfl, fun W' hW' => by go_simp; intro h9; omega⟩)
          (by simp only [Act.put, List.setIfInBounds_toArray, List.set_cons_zero, List.set_cons_succ]; rfl) (by exact Or.inl ⟨by rfl, fun W' hW' => run_mid 41 (.tmp 48) rfl pb po rfl (X0.map Go.Proofs.YtecadmldnjlibaaDoor.u8) _ W' (range_kept (unhide HX0R) hW' (by simp)) Tryd.underlying41 rfl (by rw [List.length_map, hx0l]; exact Tryd.size_dig)⟩)
          (Kept.refl [] wr).drew
          ⟨fun w' h => h, fun _ w' h => h.2, fun _ w' h => h.2, fun _ _ w' h => h.2, fun _ _ _ w' h => h.2, fun _ _ _ _ w' h => h.2⟩
          (by intro w' i9 K hK; unfold Oper.wp execOp; go_simp; rw [zb32]; exact hK _ _ ⟨⟨_, rfl, i9.size, heap_alloc_new _ _⟩, i9.alloc _⟩)
          (by intro w' i9 K hK; unfold Oper.wp execOp; go_simp; rw [zb32]; exact hK _ _ ⟨⟨_, rfl, i9.size, heap_alloc_new _ _⟩, i9.alloc _⟩)
          (by
            intro u6 w' hh K hK
            simp only [Act.put, List.setIfInBounds_toArray, List.set_cons_zero, List.set_cons_succ] at hK ⊢
            obtain ⟨⟨g1, rfl, hg1, h1⟩, i9⟩ := hh
            unfold Oper.wp execOp
            go_simp
            rw [zb32]
            exact hK _ _ ⟨⟨g1, _, rfl, rfl, hg1, i9.size, by have := lt_of_block h1; omega, ((Kept.refl [] w').alloc _).heap h1 (by simp), heap_alloc_new _ _⟩, i9.alloc _⟩)
          (by
            intro u7 w' hh K hK
            simp only [Act.put, List.setIfInBounds_toArray, List.set_cons_zero, List.set_cons_succ] at hK ⊢
            obtain ⟨⟨g2, rfl, hg2, h1⟩, i9⟩ := hh
            unfold Oper.wp execOp
            go_simp
            rw [zb32]
            exact hK _ _ ⟨⟨_, g2, rfl, rfl, i9.size, hg2, by have := lt_of_block h1; omega, heap_alloc_new _ _, ((Kept.refl [] w').alloc _).heap h1 (by simp)⟩, i9.alloc _⟩)
          (by
            intro u6 u7 w' hh K hK
            simp only [Act.put, List.setIfInBounds_toArray, List.set_cons_zero, List.set_cons_succ] at hK ⊢
            obtain ⟨⟨g1, g2, rfl, rfl, hg1, hg2, hne, h1, h2⟩, i9⟩ := hh
            exact wp_store_row 41 (.tmp 15) (.tmp 46) rfl g1 (brow X0) rfl rfl _ (zb 32) h1 (Tryd.szD hx0l) (by rw [zb_size, brow_size, hx0l]) (brow_one _) (hK undef _ ⟨⟨g1, g2, rfl, rfl, hg1, hg2, hne, setRow_heap _ _ _ _ _ _ h1, (setRow_other _ _ _ _ (by omega)).trans h2⟩, i9.setRow (Or.inr hg1) _⟩))
          (by
            intro u6 u7 u8 w' hh K hK
            simp only [Act.put, List.setIfInBounds_toArray, List.set_cons_zero, List.set_cons_succ] at hK ⊢
            obtain ⟨⟨g1, g2, rfl, rfl, hg1, hg2, hne, h1, h2⟩, i9⟩ := hh
            exact wp_store_row 41 (.tmp 16) (.tmp 49) rfl g2 (brow X0) rfl rfl _ (zb 32) h2 (Tryd.szD hx0l) (by rw [zb_size, brow_size, hx0l]) (brow_one _) (hK undef _ ⟨⟨g1, g2, rfl, rfl, hg1, hg2, hne, (setRow_other _ _ _ _ (by omega)).trans h1, setRow_heap _ _ _ _ _ _ h2⟩, i9.setRow (Or.inr hg2) _⟩))
          ?_
        rintro u6 u7 u8 u9 wb ⟨⟨g1, g2, rfl, rfl, hg1, hg2, hg12, h1, h2⟩, kg⟩
        simp only [Act.put, List.setIfInBounds_toArray, List.set_cons_zero, List.set_cons_succ]
        have HA := hide h1
        have HBB := hide h2
        have HI1 := hide (kg.heap (unhide HH1) (by simp))
        have HI2 := hide (kg.heap (unhide HH2) (by simp))
        have HKB := hide ((unhide HKW).trans kg (by simp))
        have HRB := hide (fun i (hi : i < Q.length) => (fun u v hv => kg.cell (unhide HRNG i hi u v hv) (by simp) : wb.rangeAt pb (po + i * 32) ((Q.getD i []).map Go.Proofs.YtecadmldnjlibaaDoor.u8)))
        have hl1 := lt_of_block (unhide HH1)
        have hl2 := lt_of_block (unhide HH2)
        have hpb := range_lt (unhide HX0R) hx0l
        have hn1' : ¬ (qn : Int) < 1 := by omega
        have hga : w.heap.size + 2 < g1 ∧ w.heap.size + 2 < g2 ∧ pb < g1 ∧ pb < g2 := by omega
        clear h1 h2 kg HRNG HX0R hg1 hg2 hl1 hl2 hpb
        obtain ⟨R0, hR0⟩ : ∃ R0, R0 = wr := ⟨_, rfl⟩
        subst hR0
        have hpc1 : ¬ pc = 1 := by omega
        have hpc2 : ¬ (pc : Int) = 1 := by omega
        have hpc3 : ¬ (pc : Int) < (qn : Int) := by omega
        clear HLO HU1 HU2 hfb hsb hwf hws ho'
        go_wp2_with fail
        have HABs := hide (unhide HST)
        have HR00 := hide ((unhide HB).r0)
        go_loopw [13, 14, 53] (fun t13 t14 t53 wr => ∃ (h : Nat), h0 ≤ h ∧ h ≤ 64 ∧ t13 = .int .u64 (((m - 1) / 2 ^ h : Nat) : Int) ∧ t14 = .int .u64 (((n - 1) / 2 ^ h : Nat) : Int) ∧ t53 = .int .i64 (((levR n (m - 1) h0 h).length : Nat) : Int) ∧ Hid (wr.heap[g1]? = some (.cells (brow (aH k L m h)) 41 (0, 0))) ∧ Hid (wr.heap[g2]? = some (.cells (brow (bH k L m n h)) 41 (0, 0))) ∧ Hid (Kept [g1, g2] wb wr)) (fun _ _ t _ => qn - (intOf t).toNat)
        case atStart => exact ⟨h0, Nat.le_refl _, (unhide HB).h64, by rw [unhide HFE], by rw [unhide HSE], by rw [unhide HR00]; rfl, by rw [(unhide HABs).1]; exact HA, by rw [(unhide HABs).2]; exact HBB, hide (Kept.refl _ _)⟩
        case round =>
          obtain ⟨h, hh0, hh64, rfl, rfl, rfl, HAr, HBr, HKr⟩ := hrel
          have HFIN := hide ((unhide HB).fin h hh0)
          have HPOS := hide ((unhide HB).pos h hh64)
          have HUP := hide ((unhide HB).up h hh0)
          have HDN := hide ((unhide HB).dn h hh0)
          have HAB := hide ((unhide HB).ab h)
          have HUF := hide (div_up (m - 1) h)
          have HUS := hide (div_up (n - 1) h)
          have hfb : (m - 1) / 2 ^ h < 18446744073709551616 := Nat.lt_of_le_of_lt (Nat.div_le_self _ _) (by omega)
          have hsb : (n - 1) / 2 ^ h < 18446744073709551616 := Nat.lt_of_le_of_lt (Nat.div_le_self _ _) (by omega)
          generalize hjj : (levR n (m - 1) h0 h).length = j at HFIN HPOS HUP HDN ⊢
          generalize hff : (m - 1) / 2 ^ h = f at HUP HDN HUF hfb ⊢
          generalize hss : (n - 1) / 2 ^ h = s at HFIN HPOS HUP HDN HUS hsb ⊢
          generalize haa : aH k L m h = A at HFIN HUP HDN HAB HAr
          generalize hbb : bH k L m n h = B at HFIN HUP HDN HAB HBr
          rw [unhide HQN] at HFIN HPOS
          have HJJ := hide hjj
          have HFF := hide hff
          have HSS := hide hss
          have hal := (unhide HAB).1.1.1
          have hbl := (unhide HAB).2.1.1
          have hwf : IntKind.u64.wrap ((f : Int) / 2) = ((f / 2 : Nat) : Int) := by rw [wrU]; omega
          have hws : IntKind.u64.wrap ((s : Int) / 2) = ((s / 2 : Nat) : Int) := by rw [wrU]; omega
          have HKwr := hide ((unhide HKB).trans (unhide HKr) (by intro x hx; right; simp at hx; omega))
          clear hjj hff hss haa hbb
          by_cases hj : j + 1 < qn
          · have hj1 : (j : Int) < (qn : Int) - 1 := by omega
            have hj2 : (j : Int) < ((qn - 1 : Nat) : Int) := by omega
            have hj3 : j < qn - 1 := by omega
            have hs0 := unhide HPOS hj
            have hs0' : ¬ (s : Int) = 0 := by omega
            have HXD := hide ((unhide HB).dg (Q.getD (j + 1) []) (by rw [List.getD_eq_getElem?_getD, List.getElem?_eq_getElem (by rw [unhide HQN]; omega)]; exact List.getElem_mem _))
            have HXR := hide (fun u v hv => (unhide HKr).cell (unhide HRB (j + 1) (by rw [unhide HQN]; omega) u v hv) (by simp; omega) : wr.rangeAt pb (po + (j + 1) * 32) ((Q.getD (j + 1) []).map Go.Proofs.YtecadmldnjlibaaDoor.u8))
            rw [show po + (j + 1) * 32 = po + 32 + j * 32 by omega] at HXR
            generalize Q.getD (j + 1) [] = X at HXD HXR HUP HDN
            have hxl := (unhide HXD).1.1
            have HN4 := hide (cell_new wr X)
            have HO4 := hide (kept_old wr X)
            obtain ⟨w4, hw4⟩ : ∃ w4, (wr.alloc (.cells (zb 32) 41)).setRow wr.heap.size (brow X) = w4 := ⟨_, rfl⟩
            rw [hw4] at HN4 HO4
            have HW4 := hide hw4
            have HA4 := hide ((unhide HO4).heap (unhide HAr) (by simp))
            have HB4 := hide ((unhide HO4).heap (unhide HBr) (by simp))
            have HK4 := hide ((unhide HKr).trans (unhide HO4) (by simp))
            have HKW4 := hide ((unhide HKwr).trans (unhide HO4) (by simp))
            have hg18 : g1 < wr.heap.size ∧ g2 < wr.heap.size := ⟨lt_of_block (unhide HAr), lt_of_block (unhide HBr)⟩
            clear hw4 HAr HBr HKr HKwr HFIN HPOS
            by_cases ho : f % 2 = 1 ∨ s = f
            · obtain ⟨j2, hj2a, hj2b, hodd, hmid, hlen, hA2, hB2⟩ := unhide HUP hs0 ho
              have HNA := hide (fun W (kk : Kept [] w4 W) => (node11_any (k : Int) X A W (unhide HWB) (unhide HXD).1 (unhide HAB).1.1 (unhide HXD).2 (unhide HAB).1.2 ((unhide HTB).kept ((unhide HKW4).trans kk (by simp)) (by simp) (by simp))).mono (fun e w2 (h2 : _ ∧ _) => (⟨h2.1, kk.trans h2.2 (by simp)⟩ : _ ∧ Kept [] w4 w2)))
              have HNB := hide (fun W (kk : Kept [] w4 W) => (node11_any (k : Int) X B W (unhide HWB) (unhide HXD).1 (unhide HAB).2.1 (unhide HXD).2 (unhide HAB).2.2 ((unhide HTB).kept ((unhide HKW4).trans kk (by simp)) (by simp) (by simp))).mono (fun e w2 (h2 : _ ∧ _) => (⟨h2.1, kk.trans h2.2 (by simp)⟩ : _ ∧ Kept [] w4 w2)))
              have hA2l := (nodS_dg (k : Int) X A).1
              have hB2l := (nodS_dg (k : Int) X B).1
              rw [← hA2] at HNA hA2l
              rw [← hB2] at HNB hB2l
              generalize ha2 : aH k L m (j2 + 1) = A2 at HNA hA2l hA2
              generalize hb2 : bH k L m n (j2 + 1) = B2 at HNB hB2l hB2
              have HA2E := hide ha2
              have HB2E := hide hb2
              have HMID := hide hmid
              have HLEN := hide hlen
              have HODD := hide hodd
              clear ha2 hb2 hA2 hB2 hmid hlen hodd HUP HDN
              have hne : ∀ p : Prop, (∀ w', Kept [] w4 w' → p) = p := fun p => propext ⟨fun h => h w4 (Kept.refl [] w4), fun h _ _ => h⟩
              by_cases hod : f % 2 = 1
              case' pos =>
                have hod' : (f : Int) % 2 = 1 := by omega
                clear ho hod
                go_wp2_with (first
              | (refine wpList_load_mid rfl 41 (.tmp 55) rfl pb (po + 32 + j * 32) rfl (X.map Go.Proofs.YtecadmldnjlibaaDoor.u8) _ (unhide HXR) Tryd.underlying41 rfl (by rw [List.length_map, hxl]; exact Tryd.size_dig) ?_)
              | (rw [zb32]; refine wpList_store_row rfl 41 (.tmp 18) _ rfl wr.heap.size (brow X) rfl rfl _ (zb 32) (heap_alloc_new _ _) (Tryd.szD hxl) (by rw [zb_size, brow_size, hxl]) (brow_one _) ?_; rw [unhide HW4]))
              case' neg =>
                have hod' : ¬ (f : Int) % 2 = 1 := by omega
                have hsf : ((f : Int) == (s : Int)) = true := by simp; omega
                clear ho hod
                go_wp2_with (first
              | (refine wpList_load_mid rfl 41 (.tmp 55) rfl pb (po + 32 + j * 32) rfl (X.map Go.Proofs.YtecadmldnjlibaaDoor.u8) _ (unhide HXR) Tryd.underlying41 rfl (by rw [List.length_map, hxl]; exact Tryd.size_dig) ?_)
              | (rw [zb32]; refine wpList_store_row rfl 41 (.tmp 18) _ rfl wr.heap.size (brow X) rfl rfl _ (zb 32) (heap_alloc_new _ _) (Tryd.szD hxl) (by rw [zb_size, brow_size, hxl]) (brow_one _) ?_; rw [unhide HW4]))
              all_goals
                clear hod'
                refine wp_keep_tail 8 (by kernel_rfl) (by kernel_rfl) ?_
                simp only [List.take_succ_cons, List.take_zero, List.drop_succ_cons, List.drop_zero]
                go_big_quiet_step (fail)
                refine wpQuiet_row rfl 41 (.tmp 18) rfl wr.heap.size rfl _ (brow X) (0, 0) _ (fun w' hw' => hw'.heap (unhide HN4) (by simp)) Tryd.underlying41 rfl (Tryd.szD hxl) ?_
                simp only [Act.put, List.setIfInBounds_toArray, List.set_cons_succ, List.set_cons_zero]
                refine wpQuiet_row rfl 41 (.tmp 15) rfl g1 rfl _ (brow A) (0, 0) _ (fun w' hw' => hw'.heap (unhide HA4) (by simp)) Tryd.underlying41 rfl (Tryd.szD hal) ?_
                simp only [Act.put, List.setIfInBounds_toArray, List.set_cons_succ, List.set_cons_zero]
                go_big_quiet_want
                go_big_quiet_op
                apply Exists.intro
                refine ⟨fun w' hw' => ?_, ?_⟩
                · exact unhide HNA w' hw'
                go_big_quiet_on
                go_big_quiet_step (fail)
                refine wpQuiet_row rfl 41 (.tmp 18) rfl wr.heap.size rfl _ (brow X) (0, 0) _ (fun w' hw' => hw'.heap (unhide HN4) (by simp)) Tryd.underlying41 rfl (Tryd.szD hxl) ?_
                simp only [Act.put, List.setIfInBounds_toArray, List.set_cons_succ, List.set_cons_zero]
                refine wpQuiet_row rfl 41 (.tmp 16) rfl g2 rfl _ (brow B) (0, 0) _ (fun w' hw' => hw'.heap (unhide HB4) (by simp)) Tryd.underlying41 rfl (Tryd.szD hbl) ?_
                simp only [Act.put, List.setIfInBounds_toArray, List.set_cons_succ, List.set_cons_zero]
                go_big_quiet_want
                go_big_quiet_op
                apply Exists.intro
                refine ⟨fun w' hw' => ?_, ?_⟩
                · exact unhide HNB w' hw'
                go_big_quiet_on
                refine wpQuiet_nil ?_
                intro w6 hw6
                have HA6 := hide (hw6.heap (unhide HA4) (by simp))
                have HB6 := hide (hw6.heap (unhide HB4) (by simp))
                have HA7 := hide (setRow_heap w6 g1 _ (brow A2) 41 (0, 0) (unhide HA6))
                have HB7 := hide ((setRow_other w6 g1 g2 (brow A2) (by omega)).trans (unhide HB6))
                have HK7 := hide (((unhide HK4).trans hw6 (by simp)).setRow (g := g1) (Or.inl (by simp)) (brow A2))
                obtain ⟨w7, hw7⟩ : ∃ w7, w6.setRow g1 (brow A2) = w7 := ⟨_, rfl⟩
                rw [hw7] at HA7 HB7 HK7
                have HA8 := hide ((setRow_other w7 g2 g1 (brow B2) (by omega)).trans (unhide HA7))
                have HB8 := hide (setRow_heap w7 g2 _ (brow B2) 41 (0, 0) (unhide HB7))
                have HK8 := hide ((unhide HK7).setRow (g := g2) (Or.inl (by simp)) (brow B2))
                obtain ⟨w8, hw8⟩ : ∃ w8, w7.setRow g2 (brow B2) = w8 := ⟨_, rfl⟩
                rw [hw8] at HA8 HB8 HK8
                have HW7 := hide hw7
                have HW8 := hide hw8
                clear hw6 hw7 hw8 HNA HNB
                go_wp2_with (first
                  | (refine wpList_store_row rfl 41 (.tmp 15) _ rfl g1 (brow A2) rfl rfl _ (brow A) (unhide HA6) (Tryd.szD hA2l) (by rw [brow_size, brow_size, hal, hA2l]) (brow_one _) ?_; rw [unhide HW7])
                  | (refine wpList_store_row rfl 41 (.tmp 16) _ rfl g2 (brow B2) rfl rfl _ (brow B) (unhide HB7) (Tryd.szD hB2l) (by rw [brow_size, brow_size, hbl, hB2l]) (brow_one _) ?_; rw [unhide HW8]))
                clear HA6 HB6 HA7 HB7 HK7 HA4 HB4 HK4 HN4 HO4 HKW4
                simp only [Act.put]
                go_loopw [13, 14] (fun t13 t14 wq => ∃ (g : Nat), h ≤ g ∧ g ≤ j2 ∧ t13 = .int .u64 (((m - 1) / 2 ^ g : Nat) : Int) ∧ t14 = .int .u64 (((n - 1) / 2 ^ g : Nat) : Int) ∧ Hid (wq = w8)) (fun t _ _ => (intOf t).toNat)
                case atStart => exact ⟨h, Nat.le_refl _, hj2a, by rw [unhide HFF], by rw [unhide HSS], hide rfl⟩
                case round =>
                  obtain ⟨g, hg1, hg2, rfl, rfl, HWR⟩ := hrel
                  have hwr := unhide HWR
                  subst hwr
                  have HV1 := hide (div_up (m - 1) g)
                  have HV2 := hide (div_up (n - 1) g)
                  have HMG := hide (unhide HMID g hg1)
                  have hfb2 : (m - 1) / 2 ^ g < 18446744073709551616 := Nat.lt_of_le_of_lt (Nat.div_le_self _ _) (by omega)
                  have hsb2 : (n - 1) / 2 ^ g < 18446744073709551616 := Nat.lt_of_le_of_lt (Nat.div_le_self _ _) (by omega)
                  generalize hff : (m - 1) / 2 ^ g = ff at HV1 HMG hfb2 ⊢
                  generalize hss : (n - 1) / 2 ^ g = ss at HV2 hsb2 ⊢
                  have hwf2 : IntKind.u64.wrap ((ff : Int) / 2) = ((ff / 2 : Nat) : Int) := by rw [wrU]; omega
                  have hws2 : IntKind.u64.wrap ((ss : Int) / 2) = ((ss / 2 : Nat) : Int) := by rw [wrU]; omega
                  by_cases hgl : g < j2
                  · obtain ⟨he, hp⟩ := unhide HMG hgl
                    have he' : (ff : Int) % 2 = 0 := by omega
                    have hp' : (0 : Int) < (ff : Int) := by omega
                    clear hff hss
                    go_wp2_with (simp only [hwf2, hws2])
                    refine ⟨⟨g + 1, by omega, by omega, by rw [unhide HV1]; simp, by rw [unhide HV2]; simp, hide trivial⟩, ?_⟩
                    simp [intOf]
                    omega
                  · have hge : j2 = g := by omega
                    subst hge
                    have he : ff % 2 = 1 := by rw [← hff]; exact unhide HODD
                    have he' : ¬ (ff : Int) % 2 = 0 := by omega
                    clear hff hss
                    go_wp2_with (simp only [hwf2, hws2])
                    refine ⟨⟨j2 + 1, by omega, by omega, by rw [unhide HV1]; simp, by rw [unhide HV2]; simp, by rw [unhide HLEN]; simp, by rw [unhide HA2E]; exact HA8, by rw [unhide HB2E]; exact HB8, HK8⟩, ?_⟩
                    simp [intOf]
                    omega
            · obtain ⟨hh64', hlen, hA2, hB2⟩ := unhide HDN hs0 ho
              have HNB := hide (node11_any (k : Int) B X w4 (unhide HWB) (unhide HAB).2.1 (unhide HXD).1 (unhide HAB).2.2 (unhide HXD).2 ((unhide HTB).kept (unhide HKW4) (by simp) (by simp)))
              have hB2l := (nodS_dg (k : Int) B X).1
              rw [← hB2] at HNB hB2l
              generalize hb2 : bH k L m n (h + 1) = B2 at HNB hB2l hB2
              have HA2E := hide hA2
              have HB2E := hide hb2
              have HLEN := hide hlen
              have hod' : ¬ (f : Int) % 2 = 1 := by omega
              have hsf : ((f : Int) == (s : Int)) = false := by simp; omega
              clear hb2 hA2 hB2 hlen HUP HDN ho
              go_wp2_with (first
              | (refine wpList_load_mid rfl 41 (.tmp 55) rfl pb (po + 32 + j * 32) rfl (X.map Go.Proofs.YtecadmldnjlibaaDoor.u8) _ (unhide HXR) Tryd.underlying41 rfl (by rw [List.length_map, hxl]; exact Tryd.size_dig) ?_)
              | (rw [zb32]; refine wpList_store_row rfl 41 (.tmp 18) _ rfl wr.heap.size (brow X) rfl rfl _ (zb 32) (heap_alloc_new _ _) (Tryd.szD hxl) (by rw [zb_size, brow_size, hxl]) (brow_one _) ?_; rw [unhide HW4])
              | (refine wpList_load_row rfl 41 (.tmp 16) rfl g2 rfl _ (brow B) (0, 0) _ (unhide HB4) Tryd.underlying41 rfl (Tryd.szD hbl) ?_)
              | (refine wpList_load_row rfl 41 (.tmp 18) rfl wr.heap.size rfl _ (brow X) (0, 0) _ (unhide HN4) Tryd.underlying41 rfl (Tryd.szD hxl) ?_))
              refine (unhide HNB).mono ?_
              rintro e w6 ⟨rfl, hw6⟩
              have HA6 := hide (hw6.heap (unhide HA4) (by simp))
              have HB6 := hide (hw6.heap (unhide HB4) (by simp))
              have HA7 := hide ((setRow_other w6 g2 g1 (brow B2) (by omega)).trans (unhide HA6))
              have HB7 := hide (setRow_heap w6 g2 _ (brow B2) 41 (0, 0) (unhide HB6))
              have HK7 := hide (((unhide HK4).trans hw6 (by simp)).setRow (g := g2) (Or.inl (by simp)) (brow B2))
              obtain ⟨w7, hw7⟩ : ∃ w7, w6.setRow g2 (brow B2) = w7 := ⟨_, rfl⟩
              rw [hw7] at HA7 HB7 HK7
              have HW7 := hide hw7
              clear hw6 hw7 HNB
              go_wp2_with (first
                | (refine wpList_store_row rfl 41 (.tmp 16) _ rfl g2 (brow B2) rfl rfl _ (brow B) (unhide HB6) (Tryd.szD hB2l) (by rw [brow_size, brow_size, hbl, hB2l]) (brow_one _) ?_; rw [unhide HW7])
                | (simp only [hwf, hws]))
              refine ⟨⟨h + 1, by omega, by omega, by rw [unhide HUF]; simp, by rw [unhide HUS]; simp, by rw [unhide HLEN]; simp, by rw [unhide HA2E]; exact HA7, by rw [unhide HB2E]; exact HB7, HK7⟩, ?_⟩
              simp [intOf]
              omega
          · have hj1 : ¬ (j : Int) < (qn : Int) - 1 := by omega
            have hj2 : ¬ (j : Int) < ((qn - 1 : Nat) : Int) := by omega
            have hj3 : ¬ j < qn - 1 := by omega
            obtain ⟨hs0, hAe, hBe⟩ := unhide HFIN hj
            have hs0' : (s : Int) = 0 := by omega
            have HAE := hide hAe
            have HBE := hide hBe
            subst hs0
            have HI0 := hide (⟨⟨unhide HAr, unhide HBr⟩, (unhide HKr).heap (unhide HI1) (by simp; omega), (unhide HKr).heap (unhide HI2) (by simp; omega), (unhide HKwr).drew⟩ : ((wr.drew.heap[g1]? = some (.cells (brow A) 41 (0, 0)) ∧ wr.drew.heap[g2]? = some (.cells (brow B) 41 (0, 0))) ∧ wr.drew.heap[w.heap.size + 1]? = some (.cells (zb 32) 41 (0, 0)) ∧ wr.drew.heap[w.heap.size + 1 + 1]? = some (.cells (zb 32) 41 (0, 0)) ∧ Kept [] w wr.drew))
            clear hAe hBe HFIN HPOS HUP HDN HUF HUS hwf hws hs0'
            go_wp2_with fail
            refine wp_si7 (by kernel_rfl) (by kernel_rfl) (by kernel_rfl) (by kernel_rfl) (by kernel_rfl) (by kernel_rfl) (by kernel_rfl) (by kernel_rfl) (by kernel_rfl) (by kernel_rfl) (by kernel_rfl) (by kernel_rfl) (by kernel_rfl) (by kernel_rfl) rfl rfl rfl
              (.agg (A.map Go.Proofs.YtecadmldnjlibaaDoor.u8).toArray) (.agg (B.map Go.Proofs.YtecadmldnjlibaaDoor.u8).toArray) (.int .u64 0) (.bool true) _ _ _ _
              (fun w' => w'.heap[g1]? = some (.cells (brow A) 41 (0, 0)) ∧ w'.heap[g2]? = some (.cells (brow B) 41 (0, 0)))
              (fun w' => (w'.heap[g1]? = some (.cells (brow A) 41 (0, 0)) ∧ w'.heap[g2]? = some (.cells (brow B) 41 (0, 0))) ∧ w'.heap[w.heap.size + 1]? = some (.cells (zb 32) 41 (0, 0)) ∧ w'.heap[w.heap.size + 1 + 1]? = some (.cells (zb 32) 41 (0, 0)) ∧ Kept [] w w')
              (fun u4 w' => (w'.heap[g1]? = some (.cells (brow A) 41 (0, 0)) ∧ w'.heap[g2]? = some (.cells (brow B) 41 (0, 0))) ∧ w'.heap[w.heap.size + 1]? = some (.cells (brow A) 41 (0, 0)) ∧ w'.heap[w.heap.size + 1 + 1]? = some (.cells (zb 32) 41 (0, 0)) ∧ Kept [] w w')
              (fun u4 u5 w' => (w'.heap[g1]? = some (.cells (brow A) 41 (0, 0)) ∧ w'.heap[g2]? = some (.cells (brow B) 41 (0, 0))) ∧ w'.heap[w.heap.size + 1]? = some (.cells (brow A) 41 (0, 0)) ∧ w'.heap[w.heap.size + 1 + 1]? = some (.cells (brow B) 41 (0, 0)) ∧ Kept [] w w')
              (fun u4 u5 u6 w' => ((w'.heap[g1]? = some (.cells (brow A) 41 (0, 0)) ∧ w'.heap[g2]? = some (.cells (brow B) 41 (0, 0))) ∧ w'.heap[w.heap.size + 1]? = some (.cells (brow A) 41 (0, 0)) ∧ w'.heap[w.heap.size + 1 + 1]? = some (.cells (brow B) 41 (0, 0)) ∧ Kept [] w w') ∧ u6 = .bool true)
              (by simp only [Act.put, List.setIfInBounds_toArray, List.set_cons_zero, List.set_cons_succ]; rfl) (by exact Or.inl ⟨by rfl, fun W' hW' => run_mid 41 (.tmp 15) rfl g1 0 rfl (A.map Go.Proofs.YtecadmldnjlibaaDoor.u8) _ W' (range_row hW'.1) Tryd.underlying41 rfl (by rw [List.length_map, hal]; exact Tryd.size_dig)⟩)
              (by simp only [Act.put, List.setIfInBounds_toArray, List.set_cons_zero, List.set_cons_succ]; rfl) (by exact Or.inl ⟨by rfl, fun W' hW' => run_mid 41 (.tmp 16) rfl g2 0 rfl (B.map Go.Proofs.YtecadmldnjlibaaDoor.u8) _ W' (range_row hW'.2) Tryd.underlying41 rfl (by rw [List.length_map, hbl]; exact Tryd.size_dig)⟩)
              (by simp only [Act.put, List.setIfInBounds_toArray, List.set_cons_zero, List.set_cons_succ]; rfl) (by exact Or.inl ⟨by rfl, fun W' hW' => by go_simp⟩)
              (by simp only [Act.put, List.setIfInBounds_toArray, List.set_cons_zero, List.set_cons_succ]; rfl) (by exact Or.inl ⟨by rfl, fun W' hW' => by go_simp⟩)
              (unhide HI0)
              ⟨fun w' h => h.1, fun _ w' h => h.1, fun _ _ w' h => h.1, fun _ _ _ w' h => h.1.1⟩
              (by
                intro w' hh K hK
                simp only [Act.put, List.setIfInBounds_toArray, List.set_cons_zero, List.set_cons_succ] at hK ⊢
                obtain ⟨⟨h1, h2⟩, h3, h4, h5⟩ := hh
                exact wp_store_row 41 (.tmp 10) (.tmp 97) rfl (w.heap.size + 1) (brow A) rfl rfl _ (zb 32) h3 (Tryd.szD hal) (by rw [zb_size, brow_size, hal]) (brow_one _) (hK undef _ ⟨⟨(setRow_other _ _ _ _ (by omega)).trans h1, (setRow_other _ _ _ _ (by omega)).trans h2⟩, setRow_heap _ _ _ _ _ _ h3, (setRow_other _ _ _ _ (by omega)).trans h4, h5.setRow (Or.inr (by omega)) _⟩))
              (by
                intro u4 w' hh K hK
                simp only [Act.put, List.setIfInBounds_toArray, List.set_cons_zero, List.set_cons_succ] at hK ⊢
                obtain ⟨⟨h1, h2⟩, h3, h4, h5⟩ := hh
                exact wp_store_row 41 (.tmp 11) (.tmp 98) rfl (w.heap.size + 1 + 1) (brow B) rfl rfl _ (zb 32) h4 (Tryd.szD hbl) (by rw [zb_size, brow_size, hbl]) (brow_one _) (hK undef _ ⟨⟨(setRow_other _ _ _ _ (by omega)).trans h1, (setRow_other _ _ _ _ (by omega)).trans h2⟩, (setRow_other _ _ _ _ (by omega)).trans h3, setRow_heap _ _ _ _ _ _ h4, h5.setRow (Or.inr (by omega)) _⟩))
              (by
                intro u4 u5 w' hh K hK
                simp only [Act.put, List.setIfInBounds_toArray, List.set_cons_zero, List.set_cons_succ] at hK ⊢
                unfold Oper.wp execOp
                go_simp
                exact hK _ _ ⟨hh, rfl⟩)
              ?_
            rintro u4 u5 u6 wz ⟨⟨⟨h1, h2⟩, h3, h4, h5⟩, rfl⟩
            simp only [Act.put, List.setIfInBounds_toArray, List.set_cons_zero, List.set_cons_succ]
            go_wp2_with fail
            refine bodyPost_ret (v := .tuple #[.agg (brow A), .agg (brow B), .bool true]) (results_cct rfl _ _ (w.heap.size + 1) (w.heap.size + 1 + 1) _ _ (brow A) (brow B) (0, 0) (0, 0) _ _ rfl h3 rfl h4 Tryd.underlying41 rfl (Tryd.szD hal) Tryd.underlying41 rfl (Tryd.szD hbl) _ rfl) rfl ⟨by rw [unhide HAE, unhide HBE], h5⟩
end Go.Proofs.YtecadmldnjlibaaDoor
namespace Go.Proofs.YtecadmldnjlibaaDoor
open Go.RowKit Go.BigFrame
set_option linter.unusedVariables false
set_option linter.unusedSimpArgs false

theorem rgL_rngS {z : Int} {L : List (List Nat)} {ss : List (Nat × Nat)} (h : ∀ s ∈ ss, s.1 < s.2 ∧ s.2 ≤ L.length) : rgL z L ss = ss.map fun s => rngD z (noT z) L s.1 s.2 := by
  unfold rgL
  apply List.map_congr_left
  intro s hs
  have := h s hs
  exact if_neg (by omega)
theorem cs_Q {z : Int} {L : List (List Nat)} {m n q h0 : Nat} (hm : m = (2 * q + 1) * 2 ^ h0) (hm0 : 0 < m) (hmn : m < n) (hn : n ≤ L.length) (hN : n < 2 ^ 64) :
    QL z L m n h0 = if m &&& (m - 1) = 0 then rngD z (noT z) L 0 m :: csD z L m n else csD z L m n := by
  have hin : ∀ s ∈ smL m n, s.1 < s.2 ∧ s.2 ≤ L.length := by
    intro s hs
    unfold smL at hs
    rw [if_neg (by omega)] at hs
    have := seamF_in m 64 0 n true hm0 (by omega) (by omega) s hs
    omega
  have hcs : csD z L m n = (smL m n).map fun s => rngD z (noT z) L s.1 s.2 := by
    unfold csD
    rw [if_neg (by omega), rgL_rngS hin]
  rw [hcs, seam_all hm hm0 hmn (by omega)]
  unfold QL
  by_cases hp : m = 2 ^ h0
  · rw [if_pos ((pow_and hm).2 hp), if_pos hp, List.nil_append, hp, Nat.sub_self]
  · rw [if_neg (fun h => hp ((pow_and hm).1 h)), if_neg hp, List.map_append, List.map_cons, List.map_nil, List.singleton_append]
theorem rng_fm {z : Int} {L : List (List Nat)} (hw : widthB z = true) (hL : ∀ d ∈ L, Dg d ∧ formB z d = true) (lo hi : Nat) : Dg (rngD z (noT z) L lo hi) ∧ formB z (rngD z (noT z) L lo hi) = true :=
  ⟨log_dg _ _ _ (noT_dg _) (fun d hd => (hL d (List.mem_of_mem_drop (List.mem_of_mem_take hd))).1), log_form _ _ _ hw (noT_form hw) (fun d hd => (hL d (List.mem_of_mem_drop (List.mem_of_mem_take hd))).2)⟩
theorem boT_of {k : Nat} {L : List (List Nat)} {m n q h0 : Nat} (hw : widthB (k : Int) = true) (hL : ∀ d ∈ L, Dg d ∧ formB (k : Int) d = true) (hm : m = (2 * q + 1) * 2 ^ h0) (hm0 : 0 < m) (hmn : m < n) (hn : n ≤ L.length) (hN : n < 2 ^ 64) : BoT k L (QL k L m n h0) m n h0 := by
  have hle : 2 ^ h0 ≤ m := by rw [hm, Nat.add_mul, Nat.one_mul]; omega
  have h64 : h0 < 64 := by
    rcases Nat.lt_or_ge h0 64 with h | h
    · exact h
    · have := Nat.pow_le_pow_right (n := 2) (by omega) h; omega
  have hst := si_start (z := (k : Int)) (L := L) hm hmn
  have hr0 : (levR n (m - 1) h0 h0).length = 0 := by rw [levR_low _ _ _ _ (Nat.le_refl _)]; rfl
  have hs0 : (n - 1) / 2 ^ h0 ≠ 0 := by
    intro h
    have := loH_le (n - 1) h0
    unfold loH at this
    rw [h, Nat.zero_mul] at this
    omega
  have hlen2 : 2 ≤ (QL (k : Int) L m n h0).length := by
    rcases Nat.lt_or_ge 1 (QL (k : Int) L m n h0).length with h | h
    · exact h
    · exact absurd (si_fin (z := (k : Int)) (L := L) (h := h0) hm0 hmn hn hN (Nat.le_refl _) (by rw [hr0]; omega)) hs0
  have hql : ∀ c, (levR n (m - 1) h0 c).length ≤ c := by
    intro c
    induction c with
    | zero => exact Nat.le_refl _
    | succ c ih =>
      rw [levR, List.length_append]
      have : (if h0 ≤ c then (broS n (m - 1) c).toList else []).length ≤ 1 := by
        split
        · cases broS n (m - 1) c <;> simp
        · simp
      omega
  refine ⟨?_, ⟨hlen2, by rw [QL_len]; have := hql 64; omega⟩, fun h => ⟨rng_fm hw hL _ _, rng_fm hw hL _ _⟩, ⟨hst.1, hst.2⟩, fun g hg => pow_odd hm hg, by rw [pow_div hm]; omega, hr0, by omega, ?_, ?_, ?_, ?_⟩
  · intro d hd
    unfold QL at hd
    rcases List.mem_cons.1 hd with rfl | hd
    · exact rng_fm hw hL _ _
    · obtain ⟨s, _, rfl⟩ := List.mem_map.1 hd
      exact rng_fm hw hL _ _
  · intro h hh hj
    have hs := si_fin (z := (k : Int)) (L := L) hm0 hmn hn hN hh hj
    exact ⟨hs, si_end hmn hs⟩
  · intro h hh hj
    exact si_pos hm0 hmn hh hj
  · intro h hh hs ho
    obtain ⟨j, h1, h2, h3, h4, _, h6, h7, h8⟩ := si_up (z := (k : Int)) (L := L) hm0 hmn hn hN hh hs ho
    exact ⟨j, h1, h2, h3, h4, h6, h7, h8⟩
  · intro h hh hs ho
    obtain ⟨h1, _, h3, h4, h5⟩ := si_dn (z := (k : Int)) (L := L) hm0 hmn hn hN hh hs ho
    exact ⟨h1, h3, h4, h5⟩

set_option maxRecDepth 100000 in
set_option maxHeartbeats 4000000 in
theorem mproofSince_go (z : Int) (lv : Value) (ls : List (List Nat)) (m n : Nat) (w : World) (hz : -9223372036854775808 ≤ z ∧ z ≤ 9223372036854775807) (hl : RdD w lv ls) (hN : ls.length < 32768) (hm64 : m < 18446744073709551616) (hn64 : n < 18446744073709551616) (hT : Tabs w) (h6 : Tab6 w) :
    Calls Tryd.prog 6 #[.int .i64 z, lv, .int .u64 (m : Int), .int .u64 (n : Int)] w fun e w' => e = .returned (.bool true) ∧ Kept [] w w' := by
  have HTB := hide hT
  have H6 := hide h6
  have HL := hide hl
  clear hT h6 hl
  go_enter Tryd.func6, Tryd.ntmps6
  go_wp2_with fail
  refine (mpawake_any w (unhide HTB) (unhide H6)).mono ?_
  rintro e w1 ⟨rfl, k1⟩
  have HK1 := hide k1
  clear k1
  go_wp2_with fail
  cases hwb : widthB z with
  | false =>
    refine (tree_bad z lv ls w1 hz hwb).mono ?_
    rintro e w2 ⟨h1, _⟩
    obtain ⟨rfl, k2⟩ := h1 hwb
    have HK2 := hide ((unhide HK1).trans k2 (by simp))
    clear k2 h1
    go_wp2_with fail
    all_goals go_ret
    all_goals exact ⟨rfl, unhide HK2⟩
  | true =>
    obtain ⟨hz1, hz2⟩ : 1 ≤ z ∧ z ≤ 32 := by simpa [widthB] using hwb
    obtain ⟨k, rfl⟩ : ∃ k : Nat, z = k := ⟨z.toNat, by omega⟩
    refine (tree_ok k lv ls w1 (by omega) (by omega) ((unhide HL).old (unhide HK1)) (by omega) ((unhide HTB).kept (unhide HK1) (by simp) (by simp)) ((unhide H6).kept (unhide HK1))).mono ?_
    rintro e w2 ⟨_, h2⟩
    obtain ⟨t, v, qs, u, rfl, tr, hlv, ow⟩ := h2 hwb
    rw [Int.toNat_natCast] at hlv ow
    have HT2 := hide tr
    have HO2 := hide (ow.back (unhide HK1))
    have HLV := hide hlv
    have HWB := hide hwb
    have hll9 : (ls.map (cutL k)).length = ls.length := by rw [List.length_map]
    have HLL := hide hll9
    clear h2 tr hlv ow hwb hll9
    obtain ⟨ua, uc, rfl⟩ := (unhide HO2).form
    generalize ls.map (cutL k) = L at HO2 HLV HLL
    obtain ⟨nl, hnl⟩ : ∃ nl, ls.length = nl := ⟨_, rfl⟩
    have HNL := hide (by rw [unhide HLL, hnl] : L.length = nl)
    have hcv : IntKind.u64.wrap (nl : Int) = (nl : Int) := by rw [wrM]; omega
    rw [hnl] at hN
    simp only [unhide HNL]
    clear hnl HLL
    by_cases hin : n < m
    · have hin' : (n : Int) < (m : Int) := by omega
      go_wp2_with (simp only [hcv])
      all_goals go_ret
      all_goals exact ⟨rfl, (unhide HO2).kept⟩
    · have hin' : ¬ (n : Int) < (m : Int) := by omega
      by_cases hbig : nl < n
      · have hbig' : (nl : Int) < (n : Int) := by omega
        go_wp2_with (simp only [hcv])
        all_goals go_ret
        all_goals exact ⟨rfl, (unhide HO2).kept⟩
      · have hbig' : ¬ (nl : Int) < (n : Int) := by omega
        have HB := hide (by rw [unhide HLV, unhide HNL]; exact hN : (leavesK qs).length < 32768)
        have HTK := hide (fun W (kk : Kept [] w2 W) => (unhide HTB).kept ((unhide HO2).kept.trans kk (by simp)) (by simp) (by simp))
        have H6K := hide (fun W (kk : Kept [] w2 W) => (unhide H6).kept ((unhide HO2).kept.trans kk (by simp)))
        have HCO := hide (fun W (kk : Kept [] w2 W) => mcons_any (k : Int) t v qs m n W ((unhide HT2).old kk) (unhide HB) (unhide HTK W kk) (unhide H6K W kk) hn64)
        have HRM := hide (fun W (kk : Kept [] w2 W) => rootT_all (k : Int) t v qs m W ((unhide HT2).old kk) (unhide HB) (unhide HTK W kk) (unhide H6K W kk))
        have HRN := hide (fun W (kk : Kept [] w2 W) => rootT_all (k : Int) t v qs n W ((unhide HT2).old kk) (unhide HB) (unhide HTK W kk) (unhide H6K W kk))
        have HLV2 := hide (unhide HT2).pk.leaves
        rw [unhide HLV] at HCO HRM HRN HLV2
        have HCT := hide (fun W => counts_any 0 m n W (by omega) hm64 hn64)
        have hcsl : (csD (k : Int) L m n).length = (smL m n).length := by unfold csD rgL; rw [if_neg (by rw [unhide HNL]; omega), List.length_map]
        have hl65 := smL_le m n
        rw [show csE L m n = 0 from if_neg (by rw [unhide HNL]; omega)] at HCO
        rw [show rgD (k : Int) L 0 m = rngD (k : Int) (noT (k : Int)) L 0 m from if_neg (by rw [unhide HNL]; omega), show rgE L 0 m = 0 from if_neg (by rw [unhide HNL]; omega)] at HRM
        rw [show rgD (k : Int) L 0 n = rngD (k : Int) (noT (k : Int)) L 0 n from if_neg (by rw [unhide HNL]; omega), show rgE L 0 n = 0 from if_neg (by rw [unhide HNL]; omega)] at HRN
        have HDM := hide (rng_fm (unhide HWB) (unhide HLV2) 0 m)
        have HDN := hide (rng_fm (unhide HWB) (unhide HLV2) 0 n)
        have HBO := hide (fun q h0 (e : m = (2 * q + 1) * 2 ^ h0) (hm0 : 0 < m) (hmn : m < n) (W : World) pv (kk : Kept [] w2 W) (hp : RdD W pv (csD (k : Int) L m n)) => both_any k L m n h0 (rngD (k : Int) (noT (k : Int)) L 0 m) (csD (k : Int) L m n) (QL (k : Int) L m n h0) pv W ⟨by omega, by omega⟩ hm0 hmn hn64 (unhide HDM).1 hp (by rw [hcsl]; omega) (cs_Q e hm0 hmn (by rw [unhide HNL]; omega) (by omega)) (boT_of (unhide HWB) (unhide HLV2) e hm0 hmn (by rw [unhide HNL]; omega) (by omega)) (unhide HTK W kk))
        generalize rngD (k : Int) (noT (k : Int)) L 0 m = M at HRM HDM HBO
        generalize rngD (k : Int) (noT (k : Int)) L 0 n = R at HRN HDN HBO
        have hml := (unhide HDM).1.1
        have hrl := (unhide HDN).1.1
        have hqm := fun W => dig_eq W M M hml hml
        rw [decide_eq_true rfl] at hqm
        have hqr := fun W => dig_eq W R R hrl hrl
        rw [decide_eq_true rfl] at hqr
        have HCSL := hide hcsl
        have HSM0 := hide (by unfold smL; intro h9; rw [if_pos h9]; rfl : (m = 0 ∨ m = n) → (smL m n).length = 0)
        generalize csD (k : Int) L m n = P at HCO HBO HCSL hcsl
        clear hcsl
        go_wp2_with (simp only [hcv])
        refine (unhide HCO w2 (Kept.refl _ _)).mono ?_
        rintro e w3 ⟨p, rfl, o3⟩
        have HP3 := hide o3
        obtain ⟨pa, pc, rfl⟩ := o3.form
        clear o3 HCO
        go_wp2_with fail
        refine (unhide HRM w3 (unhide HP3).kept).mono ?_
        rintro e wa ⟨rfl, ka⟩
        have kab := ka.trans (kept_old wa M) (by simp)
        have HM4 := hide (cell_new wa M)
        have HP4 := hide ((unhide HP3).pass kab)
        obtain ⟨wb, hwb⟩ : ∃ wb, (wa.alloc (.cells (zb 32) 41)).setRow wa.heap.size (brow M) = wb := ⟨_, rfl⟩
        rw [hwb] at HM4 HP4
        have HWB2 := hide hwb
        clear ka kab hwb HP3 HRM
        go_wp2_with (rw [zb32]; refine wpList_store_row rfl 41 (.tmp 14) _ rfl wa.heap.size (brow M) rfl rfl _ (zb 32) (heap_alloc_new _ _) (Tryd.szD hml) (by rw [zb_size, brow_size, hml]) (brow_one _) ?_; rw [unhide HWB2])
        refine (unhide HRN wb (unhide HP4).kept).mono ?_
        rintro e wc ⟨rfl, kc⟩
        have kcd := kc.trans (kept_old wc R) (by simp)
        have HR5 := hide (cell_new wc R)
        have HM5 := hide (kcd.heap (unhide HM4) (by simp))
        have HP5 := hide ((unhide HP4).pass kcd)
        obtain ⟨wd, hwd⟩ : ∃ wd, (wc.alloc (.cells (zb 32) 41)).setRow wc.heap.size (brow R) = wd := ⟨_, rfl⟩
        rw [hwd] at HR5 HM5 HP5
        have HWD2 := hide hwd
        clear kc kcd hwd HP4 HRN HM4
        have hpl : P.length ≤ 65 := by rw [unhide HCSL]; exact hl65
        obtain ⟨pn, hpn⟩ : ∃ pn, P.length = pn := ⟨_, rfl⟩
        rw [hpn] at hpl
        have HPN := hide hpn
        simp only [hpn]
        clear hpn hl65
        by_cases h0 : m = 0
        · have h0' : (m : Int) = 0 := by omega
          have hp0 : pn = 0 := by rw [← unhide HPN, unhide HCSL]; exact unhide HSM0 (Or.inl h0)
          have hp0' : (pn : Int) = 0 := by omega
          clear HCT HBO
          go_wp2_with (rw [zb32]; refine wpList_store_row rfl 41 (.tmp 16) _ rfl wc.heap.size (brow R) rfl rfl _ (zb 32) (heap_alloc_new _ _) (Tryd.szD hrl) (by rw [zb_size, brow_size, hrl]) (brow_one _) ?_; rw [unhide HWD2])
          all_goals go_ret
          all_goals exact ⟨by first | rfl | simp [hp0'], (unhide HO2).kept.trans (unhide HP5).kept (by simp)⟩
        · have h0' : ¬ (m : Int) = 0 := by omega
          have h0b : ((m : Int) == 0) = false := by simp; omega
          by_cases h1 : m = n
          · have h1b : ((m : Int) == (n : Int)) = true := by simp; omega
            have hp0 : pn = 0 := by rw [← unhide HPN, unhide HCSL]; exact unhide HSM0 (Or.inr h1)
            have hp0' : (pn : Int) = 0 := by omega
            clear HCT HBO h1
            go_wp2_with (rw [zb32]; refine wpList_store_row rfl 41 (.tmp 16) _ rfl wc.heap.size (brow R) rfl rfl _ (zb 32) (heap_alloc_new _ _) (Tryd.szD hrl) (by rw [zb_size, brow_size, hrl]) (brow_one _) ?_; rw [unhide HWD2])
            all_goals go_ret
            all_goals exact ⟨by first | rfl | simp [hp0'], (unhide HO2).kept.trans (unhide HP5).kept (by simp)⟩
          · have h1b : ((m : Int) == (n : Int)) = false := by simp; omega
            obtain ⟨q, hh, hqe⟩ := odd_part m (by omega)
            have HBO2 := hide (fun W pv (kk : Kept [] w2 W) (hp : RdD W pv P) => unhide HBO q hh hqe (by omega) (by omega) W pv kk hp)
            have hcE : cntE 0 m n = 0 := if_neg (by omega)
            have hcB : cntB 0 m n = (pn : Int) := by unfold cntB; rw [if_neg (by omega), ← unhide HPN, unhide HCSL]
            rw [hcE, hcB] at HCT
            generalize cntA 0 m n = ca at HCT
            clear hcE hcB hqe HBO
            go_wp2_with (rw [zb32]; refine wpList_store_row rfl 41 (.tmp 16) _ rfl wc.heap.size (brow R) rfl rfl _ (zb 32) (heap_alloc_new _ _) (Tryd.szD hrl) (by rw [zb_size, brow_size, hrl]) (brow_one _) ?_; rw [unhide HWD2])
            refine (unhide HCT wd).mono ?_
            rintro e we ⟨rfl, ke⟩
            have HR6 := hide (ke.heap (unhide HR5) (by simp))
            have HM6 := hide (ke.heap (unhide HM5) (by simp))
            have HP6 := hide ((unhide HP5).pass ke)
            clear ke HR5 HM5 HP5 HCT
            go_wp2_with (refine wpList_load_row rfl 41 (.tmp 14) rfl wa.heap.size rfl _ (brow M) (0, 0) _ (unhide HM6) Tryd.underlying41 rfl (Tryd.szD hml) ?_)
            refine (unhide HBO2 we _ (unhide HP6).kept (by have h9 := (unhide HP6).rd; rw [unhide HPN] at h9; exact h9)).mono ?_
            rintro e wf ⟨rfl, kf⟩
            have HR7 := hide (kf.heap (unhide HR6) (by simp))
            have HM7 := hide (kf.heap (unhide HM6) (by simp))
            have HKF := hide ((unhide HO2).kept.trans ((unhide HP6).kept.trans kf (by simp)) (by simp))
            have HZ1 := hide (((Kept.refl [] (wf.alloc (.cells (zb 32) 41))).alloc (.cells (zb 32) 41)).heap (heap_alloc_new wf (.cells (zb 32) 41)) (by simp))
            have HZ2 := hide (alloc_at wf (.cells (zb 32) 41) (.cells (zb 32) 41))
            have k2 := (((Kept.refl [] wf).alloc (.cells (zb 32) 41)).alloc (.cells (zb 32) 41))
            obtain ⟨W2, hW2⟩ : ∃ W2, (wf.alloc (.cells (zb 32) 41)).alloc (.cells (zb 32) 41) = W2 := ⟨_, rfl⟩
            rw [hW2] at HZ1 HZ2 k2
            have HW2 := hide hW2
            have HY1 := hide (setRow_heap W2 wf.heap.size _ (brow M) 41 (0, 0) (unhide HZ1))
            have HY2 := hide ((setRow_other W2 wf.heap.size (wf.heap.size + 1) (brow M) (by omega)).trans (unhide HZ2))
            have k3 := k2.setRow (g := wf.heap.size) (Or.inr (Nat.le_refl _)) (brow M)
            obtain ⟨W3, hW3⟩ : ∃ W3, W2.setRow wf.heap.size (brow M) = W3 := ⟨_, rfl⟩
            rw [hW3] at HY1 HY2 k3
            have HW3 := hide hW3
            have HX1 := hide ((setRow_other W3 (wf.heap.size + 1) wf.heap.size (brow R) (by omega)).trans (unhide HY1))
            have HX2 := hide (setRow_heap W3 (wf.heap.size + 1) _ (brow R) 41 (0, 0) (unhide HY2))
            have k4 := k3.setRow (g := wf.heap.size + 1) (Or.inr (by omega)) (brow R)
            obtain ⟨W4, hW4⟩ : ∃ W4, W3.setRow (wf.heap.size + 1) (brow R) = W4 := ⟨_, rfl⟩
            rw [hW4] at HX1 HX2 k4
            have HW4 := hide hW4
            have HR8 := hide (k4.heap (unhide HR7) (by simp))
            have HM8 := hide (k4.heap (unhide HM7) (by simp))
            have HK8 := hide ((unhide HKF).trans k4 (by simp))
            clear kf k2 k3 k4 hW2 hW3 hW4 HR7 HM7 HKF HBO2 HR6 HM6
            go_wp2_with (first
              | (rw [zb32, unhide HW2]; refine wpList_store_row rfl 41 (.tmp 21) _ rfl wf.heap.size (brow M) rfl rfl _ (zb 32) (unhide HZ1) (Tryd.szD hml) (by rw [zb_size, brow_size, hml]) (brow_one _) ?_; rw [unhide HW3])
              | (refine wpList_store_row rfl 41 (.tmp 22) _ rfl (wf.heap.size + 1) (brow R) rfl rfl _ (zb 32) (unhide HY2) (Tryd.szD hrl) (by rw [zb_size, brow_size, hrl]) (brow_one _) ?_; rw [unhide HW4])
              | (refine wpList_load_rowG rfl 41 (.tmp 21) rfl wf.heap.size rfl _ (brow M) (0, 0) _ (unhide HX1) Tryd.underlying41 rfl (Tryd.szD hml) ?_)
              | (refine wpList_load_rowG rfl 41 (.tmp 14) rfl wa.heap.size rfl _ (brow M) (0, 0) _ (unhide HM8) Tryd.underlying41 rfl (Tryd.szD hml) ?_)
              | (refine wpList_load_rowG rfl 41 (.tmp 22) rfl (wf.heap.size + 1) rfl _ (brow R) (0, 0) _ (unhide HX2) Tryd.underlying41 rfl (Tryd.szD hrl) ?_)
              | (refine wpList_load_rowG rfl 41 (.tmp 16) rfl wc.heap.size rfl _ (brow R) (0, 0) _ (unhide HR8) Tryd.underlying41 rfl (Tryd.szD hrl) ?_))
            go_ret
            exact ⟨rfl, unhide HK8⟩

theorem mproofSince_walk (z : Int) (lv : Value) (ls : List (List Nat)) (m n : Nat) (w : World) (hz : -9223372036854775808 ≤ z ∧ z ≤ 9223372036854775807) (hl : RdD w lv ls) (hN : ls.length < 32768) (hm : m < 18446744073709551616) (hn : n < 18446744073709551616) (h : Tabs w ∧ Tab6 w) :
    Calls Tryd.prog 6 #[.int .i64 z, lv, .int .u64 (m : Int), .int .u64 (n : Int)] w fun e w' => e = .returned (.bool true) ∧ Below w.heap.size w w' :=
  (mproofSince_go z lv ls m n w hz hl hN hm hn h.1 h.2).mono fun e w' h9 => ⟨h9.1, h9.2.below (Nat.le_refl _) (by simp)⟩
end Go.Proofs.YtecadmldnjlibaaDoor
namespace Go.Proofs.YtecadmldnjlibaaDoor
open Go.ChangeShapes Go.WideShapes Go.ChangeAt Go.RowKit Go.Deep
set_option linter.unusedVariables false
set_option linter.unusedSimpArgs false

theorem own : ownKnob Tryd.prog.godebug = none := by kernel_rfl
theorem laidOut : laidOutB Tryd.prog = true := by kernel_rfl
theorem byte_of_wf {x : Int} (h : (Lit.int .u8 x).wf = true) : 0 ≤ x ∧ x < 256 := by
  simp [Lit.wf, IntKind.min, IntKind.max, IntKind.signed, IntKind.bits] at h
  exact ⟨by omega, by omega⟩
theorem int_of_wf {x : Int} (h : (Lit.int .i64 x).wf = true) : -9223372036854775808 ≤ x ∧ x ≤ 9223372036854775807 := by
  simp [Lit.wf, IntKind.min, IntKind.max, IntKind.signed, IntKind.bits] at h
  exact ⟨by omega, by omega⟩

theorem bulk_one {H : Type} (d : DataW H) : 1 ≤ Rows.uptoBulk d := by
  cases d with
  | lit l => cases l <;> simp [Rows.uptoBulk]
  | nil => simp [Rows.uptoBulk]
  | ptr d => simp [Rows.uptoBulk]
  | slice elems spare => simp [Rows.uptoBulk]
  | agg parts => simp [Rows.uptoBulk]
  | iface t d => simp [Rows.uptoBulk]
  | map entries => simp [Rows.uptoBulk]
  | held h => simp [Rows.uptoBulk]
theorem bulk_len {H : Type} (l : List (DataW H)) : l.length ≤ Rows.uptoBulkAll l := by
  induction l with
  | nil => simp [Rows.uptoBulkAll]
  | cons x r ih => have := bulk_one x; simp only [Rows.uptoBulkAll, List.length_cons]; omega
theorem Tryd.bytes5 : Tryd.prog.bytesOf 5 = 1 := by kernel_rfl

section
variable {H : Type} {enc : TypeId × Value → H} {W : World}

/-- Bytes that came in, as the walks want them, of whatever length. -/
theorem open_bytes {fuel : Nat} {cs : List Value} {x : DataW H × List MemPlace} (h : DataW.trod enc Tryd.prog W 0 (fun _ => true) true fuel 86 cs = some x) :
    ∃ v bs, cs = [v] ∧ (bs.length ≤ 140737488355328 → Rd W v bs) ∧ ((bs = [] ∧ x.1 = .nil) ∨ ∃ elems spare, x.1 = .slice elems spare ∧ elems.length = bs.length) := by
  rcases open_ints Tryd.underlying86 Tryd.underlying5 (by kernel_rfl) h with ⟨rfl, rfl⟩ | ⟨a, len, cap, zs, rfl, _, hl, hm, hz, rfl, hcell, hwz⟩
  · exact ⟨_, [], rfl, fun _ => Rd.nil W, .inl ⟨rfl, rfl⟩⟩
  · have h2 : (lits (H := H) .u8 (zs.take len)).length = len := by simp only [lits, List.length_map, List.length_take]; simp at hz; omega
    have hbl : ((zs.take len).map Int.toNat).length = len := by simp at hz; simp; omega
    refine ⟨_, (zs.take len).map Int.toNat, rfl, fun hB => ⟨_, _, _, rfl, hbl, hl, ⟨by unfold maxLen at hm; omega, by omega⟩, by simp, ?_, ?_⟩, .inr ⟨_, _, rfl, by rw [h2, hbl]⟩⟩
    · intro y hy
      obtain ⟨z, hz1, rfl⟩ := List.mem_map.1 hy
      have := byte_of_wf (hwz z (List.mem_of_mem_take hz1)); omega
    · intro hp
      simp at hz
      have hc0 := hcell 0 (by omega)
      obtain ⟨b, off, spot⟩ := a
      have hspot : spot = none := by simpa [Addr.add] using World.cell?_spot hc0
      subst hspot
      refine ⟨b, off, rfl, fun i hi => ?_⟩
      have hc := hcell i (by omega)
      have hzi : i < zs.length := by omega
      rw [Addr.add_mid] at hc
      rw [hc]
      have hw := byte_of_wf (hwz (zs[i]) (List.getElem_mem hzi))
      simp only [List.getD_eq_getElem?_getD, List.getElem?_eq_getElem hzi, Option.getD_some, List.getElem?_map, List.getElem?_take, hi, if_true, Option.map_some]
      simp [u8]; omega
/-- Their length, by the reach. -/
theorem reach_bytes {ts : List TypeId} {ds : List (DataW H)} (h : (DataW.weightsEach Tryd.prog ts ds).all (· ≤ reachBytes) = true) {j : Nat} (ht : ts[j]? = some 86) {d : DataW H} (hd : ds[j]? = some d) {bs : List Nat}
    (hx : (bs = [] ∧ d = .nil) ∨ ∃ elems spare, d = .slice elems spare ∧ elems.length = bs.length) : bs.length ≤ 140737488351232 := by
  rcases hx with ⟨rfl, _⟩ | ⟨elems, spare, rfl, he⟩
  · simp
  · have := sized_slice h ht hd Tryd.underlying86
    rw [Tryd.bytes5, Nat.mul_one] at this
    unfold reachBytes at this
    omega
/-- Their length, by the bulk. -/
theorem bulk_bytes {d : DataW H} {bs : List Nat} (hx : (bs = [] ∧ d = .nil) ∨ ∃ elems spare, d = .slice elems spare ∧ elems.length = bs.length) : bs.length + 1 ≤ Rows.uptoBulk d := by
  rcases hx with ⟨rfl, rfl⟩ | ⟨elems, spare, rfl, he⟩
  · simp [Rows.uptoBulk]
  · have := bulk_len elems
    simp only [Rows.uptoBulk]; omega
end
end Go.Proofs.YtecadmldnjlibaaDoor
namespace Go.Proofs.YtecadmldnjlibaaDoor
open Go Go.RowKit
set_option linter.unusedVariables false
set_option linter.unusedSimpArgs false
section
variable {H : Type} {enc : TypeId × Value → H} {W : World}

def natOf : Value → Nat
  | .int _ n => n.toNat
  | _ => 0
/-- A digest that came in. -/
theorem open_dig {fuel : Nat} {cs : List Value} {x : DataW H × List MemPlace} (h : DataW.trod enc Tryd.prog W 0 (fun _ => true) true fuel 41 cs = some x) :
    ∃ l : List Nat, cs = l.map u8 ∧ l.length = 32 ∧ ∀ y ∈ l, y < 256 := by
  obtain ⟨xs, m, _, rfl, hl, hn, hc⟩ := DataW.trod_array Tryd.underlying41 h
  rw [show Tryd.prog.cellsOf 41 = 32 from by kernel_rfl] at hl
  rw [show Tryd.prog.cellsOf 5 = 1 from by kernel_rfl] at hc
  have key : ∀ i (hi : i < cs.length), cs[i] = u8 (natOf cs[i]) ∧ natOf cs[i] < 256 := by
    intro i hi
    have h1 := hc i (by omega)
    rw [Nat.mul_one, List.getElem?_eq_getElem (by omega)] at h1
    obtain ⟨n, e, _, hw⟩ := DataW.trod_int Tryd.underlying5 h1
    rw [List.drop_eq_getElem_cons hi, List.take_succ_cons, List.take_zero] at e
    simp only [List.cons.injEq, and_true] at e
    have := byte_of_wf hw
    rw [e]
    refine ⟨?_, ?_⟩
    · simp [u8, natOf]; omega
    · simp [natOf]; omega
  refine ⟨cs.map natOf, ?_, by simp [hl], ?_⟩
  · rw [List.map_map]
    refine List.ext_getElem (by simp) fun i h1 h2 => ?_
    rw [List.getElem_map]
    exact (key i h1).1
  · intro y hy
    obtain ⟨v, hv, rfl⟩ := List.mem_map.1 hy
    obtain ⟨i, hi, rfl⟩ := List.getElem_of_mem hv
    exact (key i hi).2
set_option maxRecDepth 100000 in
theorem open_digv {b0 : Nat} {v : Value} {d : DataW H} {ps : List MemPlace} (hv : Value.okWide Tryd.prog W .any b0 41 v) (h : DataW.Trod enc Tryd.prog W 0 (fun _ => true) true 41 v d ps) :
    ∃ l : List Nat, v = .agg (brow l) ∧ l.length = 32 ∧ ∀ y ∈ l, y < 256 := by
  unfold Value.okWide at hv
  rw [Tryd.underlying41] at hv
  obtain ⟨cs, rfl, _, _⟩ := hv
  obtain ⟨fuel, hf⟩ := h
  obtain ⟨l, e, h1, h2⟩ := open_dig hf
  refine ⟨l, ?_, h1, h2⟩
  simp only [Value.cells] at e
  unfold brow
  rw [← e]
end
end Go.Proofs.YtecadmldnjlibaaDoor
namespace Go.Proofs.YtecadmldnjlibaaDoor
open Go.RowKit
set_option linter.unusedVariables false
set_option linter.unusedSimpArgs false

/-- The slice value v reads as these numbers of 64 bits. -/
def RdQ (w : World) (v : Value) (xs : List Nat) : Prop :=
  ∃ (ao : Option Addr) (len cap : Nat), v = .slice ao len cap ∧ xs.length = len ∧ len ≤ cap ∧ cap ≤ 9223372036854775807 ∧ (∀ x ∈ xs, x < 18446744073709551616) ∧
    (0 < len → ∃ b off, ao = some ⟨b, off, none⟩ ∧ ∀ i, i < len → w.cell? ⟨b, off + i, none⟩ = some (.int .u64 ((xs.getD i 0 : Nat) : Int)))
theorem RdQ.old {w0 w : World} {v : Value} {ws : List Nat} (h : RdQ w0 v ws) (k : Kept [] w0 w) : RdQ w v ws := by
  obtain ⟨ao, len, cap, rfl, h1, h2, h3, h5, h6⟩ := h
  refine ⟨ao, len, cap, rfl, h1, h2, h3, h5, fun hp => ?_⟩
  obtain ⟨b, off, rfl, hc⟩ := h6 hp
  exact ⟨b, off, rfl, fun i hi => k.cell (hc i hi) (by simp)⟩
end Go.Proofs.YtecadmldnjlibaaDoor
namespace Go.Proofs.YtecadmldnjlibaaDoor
open Go.ChangeShapes Go.WideShapes Go.ChangeAt Go.RowKit Go.Deep
set_option linter.unusedVariables false
set_option linter.unusedSimpArgs false
section
variable {H : Type} {enc : TypeId × Value → H} {W : World}

/-- Digests that came in. -/
theorem open_digs2 {fuel : Nat} {cs : List Value} {x : DataW H × List MemPlace} (h : DataW.trod enc Tryd.prog W 0 (fun _ => true) true fuel 32 cs = some x) (hB : Rows.uptoBulk x.1 ≤ 1048576) :
    ∃ v ds, cs = [v] ∧ RdD W v ds ∧ ds.length ≤ 1048576 := by
  rcases open_slice Tryd.underlying32 h with ⟨rfl, rfl⟩ | ⟨a, len, cap, m, n, D, Pl, rfl, _, hl, hm, hmm, rfl, hx⟩
  · exact ⟨_, [], rfl, ⟨none, 0, 0, rfl, rfl, Nat.le_refl _, by omega, fun d hd => by simp at hd, fun h => by omega⟩, by simp⟩
  · have hC : Tryd.prog.cellsOf 41 = 32 := by kernel_rfl
    rw [hC] at hx
    simp only [if_true] at hmm
    simp only [Rows.uptoBulk] at hB
    have hcap : cap ≤ 1048576 := by
      have h1 := bulk_len ((List.range len).map D)
      have h2 := bulk_len ((List.range (m - len)).map fun j => D (len + j))
      simp at h1 h2
      omega
    obtain ⟨f, hf⟩ := choose_lt (α := List Nat) (n := len) (p := fun i o => (∀ j v, (o.map u8)[j]? = some v → W.cell? ((a.add (i * 32)).add j) = some v) ∧ o.length = 32 ∧ ∀ y ∈ o, y < 256) (by
      intro i hi
      obtain ⟨cs', h1, h2⟩ := hx i (by omega)
      obtain ⟨l, rfl, hl1, hl2⟩ := open_dig h2
      obtain ⟨_, hlen, hc⟩ := World.cells?_some h1
      refine ⟨l, fun j v hv => ?_, hl1, hl2⟩
      have hj := (List.getElem?_eq_some_iff.1 hv).1
      have := hc j (by rw [List.length_map] at hj; omega)
      rw [this, ← hv, List.getElem?_eq_getElem hj])
    refine ⟨_, (List.range len).map f, rfl, ⟨some a, len, cap, rfl, by simp, hl, by omega, ?_, ?_⟩, by simp; omega⟩
    · intro d hd
      obtain ⟨i, hi, rfl⟩ := List.mem_map.1 hd
      exact (hf i (List.mem_range.1 hi)).2
    · intro hp
      obtain ⟨b, off, spot⟩ := a
      have h0 := hf 0 hp
      have hc0 := h0.1 0 (u8 ((f 0).getD 0 0)) (by rw [List.getElem?_map, List.getD_eq_getElem?_getD, List.getElem?_eq_getElem (by omega)]; rfl)
      have hspot : spot = none := by simpa [Addr.add] using World.cell?_spot hc0
      subst hspot
      refine ⟨b, off, rfl, fun i hi j v hv => ?_⟩
      have e9 : ((List.range len).map f).getD i [] = f i := by simp [List.getD_eq_getElem?_getD, hi]
      rw [e9] at hv
      have := (hf i hi).1 j v hv
      rw [Addr.add_mid, Addr.add_mid] at this
      exact this

/-- Numbers of 64 bits that came in. -/
theorem open_u64s {fuel : Nat} {cs : List Value} {x : DataW H × List MemPlace} (h : DataW.trod enc Tryd.prog W 0 (fun _ => true) true fuel 69 cs = some x) :
    ∃ v ws, cs = [v] ∧ RdQ W v ws := by
  rcases open_ints Tryd.underlying69 Tryd.underlying49 (by kernel_rfl) h with ⟨rfl, rfl⟩ | ⟨a, len, cap, zs, rfl, _, hl, hm, hz, rfl, hcell, hwz⟩
  · exact ⟨_, [], rfl, ⟨none, 0, 0, rfl, rfl, Nat.le_refl _, by omega, by simp, fun h => by omega⟩⟩
  · have hbl : ((zs.take len).map Int.toNat).length = len := by simp at hz; simp; omega
    have hwf : ∀ y ∈ zs, 0 ≤ y ∧ y < 18446744073709551616 := by
      intro y hy
      have h9 := hwz y hy
      simp [Lit.wf, IntKind.min, IntKind.max, IntKind.signed, IntKind.bits] at h9
      omega
    refine ⟨_, (zs.take len).map Int.toNat, rfl, ⟨_, _, _, rfl, hbl, hl, by unfold maxLen at hm; omega, ?_, ?_⟩⟩
    · intro y hy
      obtain ⟨u, hu, rfl⟩ := List.mem_map.1 hy
      have := hwf u (List.mem_of_mem_take hu)
      omega
    · intro hp
      simp at hz
      have hc0 := hcell 0 (by omega)
      obtain ⟨b, off, spot⟩ := a
      have hspot : spot = none := by simpa [Addr.add] using World.cell?_spot hc0
      subst hspot
      refine ⟨b, off, rfl, fun i hi => ?_⟩
      have hc := hcell i (by omega)
      have hzi : i < zs.length := by omega
      have hzm := hwf (zs[i]) (List.getElem_mem hzi)
      rw [Addr.add_mid] at hc
      rw [hc]
      simp [List.getD_eq_getElem?_getD, List.getElem?_take, hi, hzi]
      omega

end
end Go.Proofs.YtecadmldnjlibaaDoor
namespace Go.Proofs.YtecadmldnjlibaaDoor
open Go.ChangeShapes Go.WideShapes Go.ChangeAt Go.RowKit Go.Deep
set_option linter.unusedVariables false
set_option linter.unusedSimpArgs false
theorem bulk_mul {H : Type} (c : Nat) (l : List (DataW H)) (h : ∀ y ∈ l, c ≤ Rows.uptoBulk y) : c * l.length ≤ Rows.uptoBulkAll l := by
  induction l with
  | nil => simp [Rows.uptoBulkAll]
  | cons x r ih =>
    have h1 := h x (by simp)
    have h2 := ih (fun y hy => h y (by simp [hy]))
    simp only [Rows.uptoBulkAll, List.length_cons, Nat.mul_add, Nat.mul_one]
    omega
section
variable {H : Type} {enc : TypeId × Value → H} {W : World}
theorem dig_bulk {fuel : Nat} {cs : List Value} {x : DataW H × List MemPlace} (h : DataW.trod enc Tryd.prog W 0 (fun _ => true) true fuel 41 cs = some x) : 33 ≤ Rows.uptoBulk x.1 := by
  obtain ⟨xs, m, _, rfl, hl, hn, hc⟩ := DataW.trod_array Tryd.underlying41 h
  have h9 := bulk_len (xs.map (fun x => x.fst))
  rw [List.length_map] at h9
  simp only [Rows.uptoBulk]
  omega
/-- Digests that came in: how many there may be. -/
theorem open_digs3 {fuel : Nat} {cs : List Value} {x : DataW H × List MemPlace} (h : DataW.trod enc Tryd.prog W 0 (fun _ => true) true fuel 32 cs = some x) (hB : Rows.uptoBulk x.1 ≤ 1048576) :
    ∃ v ds, cs = [v] ∧ RdD W v ds ∧ 33 * ds.length + 1 ≤ Rows.uptoBulk x.1 := by
  obtain ⟨v, ds, e, hr, _⟩ := open_digs2 h hB
  refine ⟨v, ds, e, hr, ?_⟩
  rcases open_slice Tryd.underlying32 h with ⟨rfl, rfl⟩ | ⟨a, len, cap, m, n, D, Pl, rfl, _, hl, hm, hmm, rfl, hx⟩
  · simp at e
    subst e
    obtain ⟨_, _, _, e2, h1, _⟩ := hr
    cases e2
    rw [h1]
    simp [Rows.uptoBulk]
  · simp at e
    subst e
    obtain ⟨_, _, _, e2, h1, _⟩ := hr
    cases e2
    rw [h1]
    simp only [Rows.uptoBulk]
    have h2 := bulk_mul 33 ((List.range len).map D) (by
      intro y hy
      obtain ⟨i, hi, rfl⟩ := List.mem_map.1 hy
      obtain ⟨cs', _, h3⟩ := hx i (by have := List.mem_range.1 hi; simp only [if_true] at hmm; omega)
      exact dig_bulk h3)
    simp at h2
    omega
end
end Go.Proofs.YtecadmldnjlibaaDoor
