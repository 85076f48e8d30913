import Derived.Test.YtlopdlcepmmjdaaDk25
import Derived.Test.YtlopdlcepmmjdaaDkE
namespace Go.Proofs.Ytlopdlcepmmjdaa
open Go.RowKit Go.BigFrame
set_option linter.unusedVariables false
set_option linter.unusedSimpArgs false

set_option maxRecDepth 100000 in
set_option maxHeartbeats 2000000 in
theorem restart_any (d sec m N : Nat) (n : Int) (kv : Value) (ks : List KeepD) (w : World) (u fv : Value) (cr op : Int) (off : Bool) (ft : Int → Option Int) (fs : List DFile)
    (h : DkAt w d sec m N u fv cr op off ft fs) (hd : Dist (fs.map absF)) (hks : RdC 3 w kv (ks.map keC)) (hkd : ∀ x ∈ zblk kv (ks.map keC), x ∉ dkB d m u fv fs) (hkn : ∀ k ∈ ks, k.nm.size ≤ 140737488355328) (hkl : ks.length ≤ 1000000000) (hfs : fs.length ≤ 1000000000) (hfb : ∀ f ∈ fs, f.bs.length ≤ 140737488350000) (hfn : ∀ f ∈ fs, f.nm.size ≤ 40) (hs1 : 1 ≤ sec) (hs2 : sec ≤ 4096) :
    Calls Try.prog 27 #[.pointer (some ⟨d, 0, none⟩), .agg #[.int .i64 n, kv]] w fun e w' => ∃ gs, e = .returned (.tuple #[]) ∧ DkAt w' d sec m N (.slice none 0 0) (.map none) 0 0 false (fun _ => none) gs ∧ gs.map absF = setA ks sec (cutN (wtn n (unA (fs.map absF))).toNat (fs.map absF)) ∧ Kept (dkB d m u fv fs) w w' ∧ ∀ x ∈ dkB d m (.slice none 0 0) (.map none) gs, x ∈ dkB d m u fv fs ∨ w.heap.size ≤ x := by
  have k0 := (Kept.refl [] w).alloc (.cells #[.int .i64 n, kv] 40 (0, 0))
  have HB0 := hide (heap_alloc_new w (.cells #[.int .i64 n, kv] 40 (0, 0)))
  have HDW := hide h
  have HD := hide (h.kept k0 (by simp))
  have HKS := hide (hks.old k0)
  have HK0 := hide k0
  have HLT := hide h.lt
  have HDI := hide hd
  have HKD := hide hkd
  have HKN := hide hkn
  have HFB := hide hfb
  have HFN := hide hfn
  clear h hks k0 hd hkd hkn hfb hfn
  obtain ⟨ka, kl, kc, hkv⟩ : ∃ ka kl kc, kv = .slice ka kl kc := by obtain ⟨a, b, c, h1, _⟩ := unhide HKS; exact ⟨a, b, c, h1⟩
  subst hkv
  rw [unA_abs]
  have HLL := hide (by unfold unN unL; rw [List.length_map] : (unN fs).length = (unL fs).length)
  have HLE := hide (Nat.le_trans (List.length_filter_le (fun f : DFile => !f.nd) fs) hfs : (unL fs).length ≤ 1000000000)
  obtain ⟨L, hL⟩ : ∃ L, (unL fs).length = L := ⟨_, rfl⟩
  rw [hL] at HLL HLE ⊢
  obtain ⟨k, hk⟩ : ∃ k : Nat, wtn n (L : Int) = k := ⟨(wtn n (L : Int)).toNat, by unfold wtn; omega⟩
  have hkL : k ≤ L := by unfold wtn at hk; omega
  have hwt := fun x : World => within_any n (L : Int) x
  simp only [hk] at hwt
  rw [hk]
  have HWT := hide hwt
  have HL := hide hL
  clear hwt hk hL
  obtain ⟨AA, hAA⟩ : ∃ AA, setA ks sec (cutN (k : Int).toNat (fs.map absF)) = AA := ⟨_, rfl⟩
  rw [hAA]
  have HAA := hide hAA
  clear hAA
  have hrow := (unhide HD).row
  unfold DRow at hrow
  have HR := hide hrow
  have d2 := cell_of_row _ _ 2 _ _ _ hrow
  simp at d2
  clear hrow
  obtain ⟨W0, hW0⟩ : ∃ W, w.alloc (.cells #[.int .i64 n, .slice ka kl kc] 40 (0, 0)) = W := ⟨_, rfl⟩
  have HW0 := hide hW0
  rw [hW0] at HB0 HD HKS HK0 HR d2
  clear hW0
  have b0 := cell_of_row _ _ 0 _ _ _ (unhide HB0)
  simp at b0
  have hkL2 : (k : Int) ≤ (L : Int) := by omega
  rcases (unhide HD).un with ⟨hu1, hu2⟩ | ⟨gu, offu, capu, cur, hu1, hgu, hc1, hc2, hc3, hcell⟩
  case' inl =>
    rw [hu2, List.length_nil] at HLL
    obtain ⟨capu, hcu⟩ : ∃ C : Nat, C = 0 := ⟨0, rfl⟩
    have hu1' : u = .slice none L capu := by rw [hcu, ← unhide HLL]; exact hu1
    have hc1 : L ≤ capu := by rw [hcu, ← unhide HLL]; exact Nat.le_refl _
    have HCU := hide hcu
    clear hu1 hcu
    subst hu1'
    go_enter Try.func27, Try.ntmps27
    go_wp2_with (first | (rw [unhide HW0]) | fail)
    refine Calls.mono (dnone_any d _ sec m _ fv cr op off (unhide HD).row) ?_
    rintro e w1 ⟨rfl, rfl⟩
    go_upto_region 2 with fail
    refine wp_region_quiet_lit (by kernel_rfl) (by kernel_rfl) ?_
    repeat (go_big_quiet_step (exact Calls.mono (unhide HWT _) (fun e x h => ⟨h.1, _, h.2⟩)))
    refine wpQuiet_nil ?_
    rintro _ ⟨n1, rfl⟩
    obtain ⟨AO, hAO⟩ : ∃ AO : Option Addr, none = AO := ⟨_, rfl⟩
    rw [show Value.slice none (L - k) (capu - k) = Value.slice AO (L - k) (capu - k) by rw [hAO]]
    have HAO := hide (fun j v hv => by
      rw [hu2] at hv
      simp at hv : ∀ j v, (unN fs)[k + j]? = some v → ∃ b o, AO = some ⟨b, o, none⟩ ∧ w1.cell? ⟨b, o + j, none⟩ = some v ∧ b ≠ m)
    clear hAO hu2 HLL HCU
    generalize hU : Value.slice none L capu = U at *
    have HUU := hide hU
    clear hU hc1
  case' inr =>
    rw [unhide HLL] at hu1 hc1
    have HCE := hide (fun j v hv => by
      have h9 := cell_of_row _ _ (offu + j) _ _ _ hgu
      rw [hcell j v hv] at h9
      exact h9 : ∀ j v, (unN fs)[j]? = some v → W0.cell? ⟨gu, offu + j, none⟩ = some v)
    have HGM := hide (by obtain ⟨n9, D9, ho9, _⟩ := (unhide HD).map; exact map_ne ho9 hgu : gu ≠ m)
    clear hcell hgu hc2 hc3
    subst hu1
    go_enter Try.func27, Try.ntmps27
    go_wp2_with (first | (rw [unhide HW0]) | fail)
    refine Calls.mono (dnone_any d _ sec m _ fv cr op off (unhide HD).row) ?_
    rintro e w1 ⟨rfl, rfl⟩
    go_upto_region 2 with fail
    refine wp_region_quiet_lit (by kernel_rfl) (by kernel_rfl) ?_
    repeat (go_big_quiet_step (exact Calls.mono (unhide HWT _) (fun e x h => ⟨h.1, _, h.2⟩)))
    refine wpQuiet_nil ?_
    rintro _ ⟨n1, rfl⟩
    obtain ⟨AO, hAO⟩ : ∃ AO, (if capu = k then some ⟨gu, offu, none⟩ else some ⟨gu, offu + k, none⟩ : Option Addr) = AO := ⟨_, rfl⟩
    rw [hAO]
    have HAO := hide (fun j v hv => by
      have hj : k + j < L := by rw [← unhide HLL]; exact (List.getElem?_eq_some_iff.1 hv).1
      rw [if_neg (by omega)] at hAO
      exact ⟨gu, offu + k, hAO.symm, by rw [Nat.add_assoc]; exact unhide HCE (k + j) v hv, unhide HGM⟩ : ∀ j v, (unN fs)[k + j]? = some v → ∃ b o, AO = some ⟨b, o, none⟩ ∧ w1.cell? ⟨b, o + j, none⟩ = some v ∧ b ≠ m)
    clear hAO HCE HLL HGM
    generalize hU : Value.slice (some ⟨gu, offu, none⟩) L capu = U at *
    have HUU := hide hU
    clear hU hc1
  all_goals
    obtain ⟨M, hM⟩ : ∃ M, L - k = M := ⟨_, rfl⟩
    rw [hM]
    have HM := hide (by rw [List.length_drop, unhide HL]; exact hM.symm : M = ((unL fs).drop k).length)
    have hMb : M ≤ 1000000000 := by have := unhide HLE; omega
    generalize capu - k = CP
    clear hM hkL2 d2 b0
    have HDM := hide (by obtain ⟨n9, D9, ho9, _⟩ := (unhide HD).map; exact map_ne ho9 (unhide HD).row : d ≠ m)
    have HFM := hide (by obtain ⟨n9, D9, ho9, _⟩ := (unhide HD).map; exact fun f hf => map_ne ho9 ((unhide HD).files f hf).1 : ∀ f ∈ fs, f.g ≠ m)
    go_wp2_with fail
    go_loopw [25] (fun t25 wr => ∃ (j n2 : Nat) (D : DataW Unit), j ≤ M ∧ t25 = .int .i64 j ∧ Hid (wr.ownsMap Try.prog 9 ptrElem m n2 D ∧ n2 ≤ N) ∧ Hid (MapIs D (delF fs k j)) ∧ Hid (Kept [m] w1 wr)) (fun t _ => M - (intOf t).toNat)
    case atStart =>
      obtain ⟨n2, D, ho, hn, hm⟩ := (unhide HD).map
      exact ⟨0, n2, D, Nat.zero_le _, rfl, hide ⟨ownsMap_heap ho rfl, hn⟩, hide (by rw [delF_zero]; exact hm), hide ((Kept.refl _ _).drewN _)⟩
    case round =>
      obtain ⟨j, n2, D, hj, rfl, HO, HMI, HK⟩ := hrel
      by_cases hlt : j < M
      · have hlt' : (j : Int) < (M : Int) := by omega
        have hlt2 : j < ((unL fs).drop k).length := by rw [← unhide HM]; exact hlt
        have hX : (unN fs)[k + j]? = some (.pointer (some ⟨(((unL fs).drop k)[j]'hlt2).g, 0, none⟩)) := by
          have h9 : unN fs = (unL fs).map fun f => .pointer (some ⟨f.g, 0, none⟩) := rfl
          rw [h9, List.getElem?_map, ← List.getElem?_drop, List.getElem?_eq_getElem hlt2]
          rfl
        obtain ⟨b, o, rfl, hc, hbm⟩ := unhide HAO j _ hX
        have c0 := (unhide HK).cell hc (by simpa using hbm)
        have HXM := hide (by
          have := List.mem_of_mem_drop (List.getElem_mem hlt2)
          exact (List.mem_filter.1 this).1 : ((unL fs).drop k)[j]'hlt2 ∈ fs)
        have HDS := hide (delF_succ hlt2)
        clear hc hX hbm
        generalize ((unL fs).drop k)[j]'hlt2 = X at c0 HXM HDS
        clear hlt2
        have hrw := (unhide HK).heap (unhide HR) (by simpa using unhide HDM)
        have c1 := cell_of_row _ _ 1 _ _ _ hrw
        simp at c1
        have hfw := (unhide HK).heap ((unhide HD).files X (unhide HXM)).1 (by simpa using unhide HFM X (unhide HXM))
        have f0 := cell_of_row _ _ 0 _ _ _ hfw
        simp at f0
        have HKEY := hide (WideMaps.keyOf_string_mk Try.underlying9 (s := X.nm) (by have := unhide HFN X (unhide HXM); unfold maxLen; omega))
        clear hrw hfw
        go_upto_region 5 with fail
        refine wp_quiet_tail 8 (by kernel_rfl) (by kernel_rfl) ?_
        simp only [List.take_succ_cons, List.take_zero, List.drop_succ_cons, List.drop_zero]
        repeat (go_big_quiet_step (fail))
        refine wpQuiet_nil ?_
        rintro _ ⟨n5, rfl⟩
        at_delete
        refine wpList_delete_own _ rfl _ _ 77 9 rfl 83 keyS Try.underlying77 ptrElem m n2 D rfl (ownsMap_heap (unhide HO).1 rfl) (.string X.nm) _ rfl (unhide HKEY) ?_
        intro w2 hown2 hturn2
        have HO2 := hide (And.intro hown2 (unhide HO).2)
        have HK2 := hide (((unhide HK).drewN n5).grown hturn2.grown (by intro k9 hk9; injection hk9 with hk9; subst hk9; simp))
        clear hown2 hturn2 c0 c1 f0
        go_wp2_with fail
        refine ⟨⟨j + 1, n2, _, by omega, by simp, HO2, hide ?_, HK2⟩, ?_⟩
        · rw [← unhide HDS]
          exact (unhide HMI).del _
        · simp [intOf]; omega
      · have hlt' : ¬ (j : Int) < (M : Int) := by omega
        have hje : j = M := by omega
        subst hje
        rw [unhide HM, delF_all fs k (unhide HDI)] at HMI
        have hrw := (unhide HK).heap (unhide HR) (by simpa using unhide HDM)
        have HU2 := hide ((unhide HD).un.kept (unhide HK) (by intro x hx hm; simp only [List.mem_singleton] at hm; subst hm; exact Qr.notMap (unhide HD).un (unhide HD).map.choose_spec.choose_spec.1 hx))
        have HF2 := hide (fun f hf => ((unhide HD).files f hf).kept (unhide HK) (by simpa using unhide HFM f hf) (by
          intro x hx hm
          simp only [List.mem_singleton] at hm
          subst hm
          obtain ⟨cs, hc⟩ := owns_cells ((unhide HD).files f hf).2.1 hx
          exact map_ne (unhide HD).map.choose_spec.choose_spec.1 hc rfl) : ∀ f ∈ fs, FileAt wr f)
        have HR2 := hide hrw
        clear hrw
        go_wp2_with fail
        refine Calls.mono (nmAll_any d sec (.map (some m)) _ U fv cr op off fs (unhide HR2) (unhide HU2) (unhide HF2) (unhide HD).apart hfs) ?_
        rintro e w3 ⟨rfl, hr3, hf3, hk3⟩
        have HD3 := hide ((unhide HD).struck (unhide HK) hk3 (unhide HO).1 (unhide HO).2 (unhide HMI) hr3 hf3)
        have HKA := hide (((unhide HK0).mono (M := dkB d m U fv fs) (by simp)).trans (unhide HK) (by intro x hx; simp only [List.mem_singleton] at hx; subst hx; left; simp [dkB]))
        have HKB := hide ((unhide HKA).trans hk3 (by
          intro x hx
          left
          simp only [List.mem_cons, List.mem_map] at hx
          rcases hx with rfl | ⟨f, hf, rfl⟩
          · simp [dkB]
          · exact dkB_g hf))
        have HBX := hide ((unhide HK).heap (unhide HB0) (by
          simp only [List.mem_singleton]
          intro e9
          have := unhide HLT m (by simp [dkB])
          omega))
        have hb3 := hk3.heap (unhide HBX) (by
          intro hx
          have : w.heap.size ∈ dkB d m U fv fs := by
            simp only [List.mem_cons, List.mem_map] at hx
            rcases hx with hx | ⟨f, hf, hx⟩
            · rw [hx]; simp [dkB]
            · rw [← hx]; exact dkB_g hf
          have := unhide HLT _ this
          omega)
        have HKS3 := hide (((unhide HKS).keptZ (unhide HK) (by intro x hx hm; simp only [List.mem_singleton] at hm; subst hm; exact unhide HKD _ hx (by simp [dkB]))).keptZ hk3 (by
          intro x hx hm
          refine unhide HKD x hx ?_
          simp only [List.mem_cons, List.mem_map] at hm
          rcases hm with rfl | ⟨f, hf, rfl⟩
          · simp [dkB]
          · exact dkB_g hf))
        have b1 := cell_of_row _ _ 1 _ _ _ hb3
        simp at b1
        have HR3 := hide hr3
        have HO3 := hide (ownsMap_heap (unhide HO).1 (hk3.block m (unhide HO).1.lt (by
          intro hx
          simp only [List.mem_cons, List.mem_map] at hx
          rcases hx with hx | ⟨f, hf, hx⟩
          · exact unhide HDM hx.symm
          · exact unhide HFM f hf hx)))
        clear hr3 hf3 hk3 hb3 HR2 HU2 HF2 HBX
        go_wp2_with fail
        refine Calls.mono (firstKeeps_any _ ks _ (unhide HKS3) (unhide HKN) hkl) ?_
        rintro e w4 ⟨kb, kn, KD, rfl, hkb, hko, hkm, hk4⟩
        have HKO := hide hko
        have HKM := hide hkm
        have HD4 := hide ((unhide HD3).kept hk4 (by simp))
        have HO4 := hide (ownsMap_heap (unhide HO3) (hk4.block m (unhide HO3).lt (by simp)))
        have HKC := hide ((unhide HKB).trans hk4 (by simp))
        have d1 := cell_of_row _ _ 1 _ _ _ (unhide HD4).row
        simp at d1
        clear hko hkm hk4 b1 hkb
        go_wp2_with (at_range; refine wpList_range_own _ rfl _ 77 rfl 9 83 keyS Try.underlying77 ptrElem m n2 D rfl (unhide HO4) ?_; intro w5 hrg5 hg5 hs5)
        go_frame
        obtain ⟨F2, hF2⟩ : ∃ F2, (keepD k fs).map (fun f => { f with nd := true }) = F2 := ⟨_, rfl⟩
        have HND := hide (by rw [← hF2]; intro f hf; obtain ⟨a, _, rfl⟩ := List.mem_map.1 hf; rfl : ∀ f ∈ F2, f.nd = true)
        have HBL := hide (by rw [← hF2]; intro f hf; obtain ⟨a, ha, rfl⟩ := List.mem_map.1 hf; exact unhide HFB a ((keepD_sub fs k).subset ha) : ∀ f ∈ F2, f.bs.length ≤ 140737488350000)
        have HNL := hide (by rw [← hF2]; intro f hf; obtain ⟨a, ha, rfl⟩ := List.mem_map.1 hf; exact unhide HFN a ((keepD_sub fs k).subset ha) : ∀ f ∈ F2, f.nm.size ≤ 40)
        have HDF := hide (by
          rw [← hF2, dist_iff, List.map_map, List.map_map]
          have h9 := ((dist_iff _).1 (unhide HDI))
          rw [List.map_map] at h9
          exact h9.sublist ((keepD_sub fs k).map _) : Dist (F2.map absF))
        have HAF := hide (fun left hl => by rw [← hF2]; exact (setL_all ks sec left hl k fs).trans (unhide HAA) : ∀ left : Lit → Bool, (∀ kl, left kl = false) → (F2.map absF).map (setL ks sec left) = AA)
        have HBF := hide (by rw [← hF2]; exact fun x hx => dkB_struck x hx : ∀ x ∈ dkB d m (.slice none 0 0) fv F2, x ∈ dkB d m U fv fs)
        have HLK := hide (by rw [← hF2, look_nd]; exact unhide HMI : MapIs D (look F2))
        rw [hF2] at HD3 HD4
        clear hF2 HAA d1
        have HS4 := hide (unhide HKC).size
        go_loopw [48] (fun _ wr => ∃ (left : Lit → Bool) (cnt : Nat) (gs : List DFile), Hid (wr.ranges Try.prog 9 ptrElem m w4.heap.size n2 D left cnt) ∧ Hid (DkAt wr d sec m N (.slice none 0 0) fv cr op off ft gs) ∧ Hid (gs.map absF = (F2.map absF).map (setL ks sec left)) ∧ Hid (gs.map (fun f => (f.nm, f.g)) = F2.map (fun f => (f.nm, f.g))) ∧ Hid (wr.ownsMap Try.prog 9 keepElem kb kn KD) ∧ Hid (Kept (dkB d m U fv fs) w4 wr) ∧ Hid (∀ x ∈ dkB d m (.slice none 0 0) fv gs, x ∈ dkB d m U fv fs ∨ w4.heap.size ≤ x)) (fun _ wr => wr.rangeLeft m w4.heap.size)
        case atStart =>
          have k5 : Kept [] w4 w5 := (Kept.refl [] w4).grown hg5 (by intro k9 hk9; cases hk9)
          exact ⟨_, _, F2, hide hrg5, hide ((unhide HD4).kept k5 (by simp)), hide (setL_start (unhide HLK)).symm, hide rfl, hide (ownsMap_heap (unhide HKO) (k5.block kb (unhide HKO).lt (by simp))), hide (k5.mono (by simp)), hide (fun x hx => .inl (unhide HBF x hx))⟩
        case round =>
          clear hrg5 hg5 hs5
          obtain ⟨left, cnt, gs, HRG, HG, HGA, HGK, HKO5, HKW, HBN⟩ := hrel
          go_wp2_with (at_next; refine wpList_next_ranges _ rfl _ rfl 9 keyS ptrElem Value.string ptrO (fun key kl hk => by obtain ⟨x, hx, _⟩ := keyStr_inv hk; exact ⟨x, hx⟩) (fun v y hv => by rcases ptrElem_inv hv with ⟨rfl, _⟩ | ⟨g, rfl, _⟩; exact ⟨none, rfl⟩; exact ⟨some g, rfl⟩) m w4.heap.size n2 D left cnt rfl (unhide HRG) ?_ ?_)
          · intro hc0 hl0
            have hrow := (unhide HG).row
            unfold DRow at hrow
            have e3 := cell_of_row _ _ 3 _ _ _ hrow
            have e4 := cell_of_row _ _ 4 _ _ _ hrow
            have e5 := cell_of_row _ _ 5 _ _ _ hrow
            have e6 := cell_of_row _ _ 6 _ _ _ hrow
            simp at e3 e4 e5 e6
            have z3 := frozen_of_row _ _ 3 _ _ hrow
            have z4 := frozen_of_row _ _ 4 _ _ hrow
            have z5 := frozen_of_row _ _ 5 _ _ hrow
            have z6 := frozen_of_row _ _ 6 _ _ hrow
            have HRW := hide hrow
            have HL0 := hide hl0
            clear hrow hl0 hc0
            go_wp2_with fail
            have kS : Kept [d] wr ((((wr.setCell ⟨d, 3, none⟩ (.map none)).setCell ⟨d, 4, none⟩ (.int .i64 0)).setCell ⟨d, 5, none⟩ (.int .i64 0)).setCell ⟨d, 6, none⟩ (.bool false)) := ((((Kept.refl [d] wr).setCell (p := ⟨d, 3, none⟩) (.inl (by simp)) _).setCell (p := ⟨d, 4, none⟩) (.inl (by simp)) _).setCell (p := ⟨d, 5, none⟩) (.inl (by simp)) _).setCell (p := ⟨d, 6, none⟩) (.inl (by simp)) _
            have hr9 := heap_setCell_same _ _ 6 _ _ (.bool false) (heap_setCell_same _ _ 5 _ _ (.int .i64 0) (heap_setCell_same _ _ 4 _ _ (.int .i64 0) (heap_setCell_same wr _ 3 _ _ (.map none) (unhide HRW))))
            have hU9 := unhide HUU
            clear HUU
            subst hU9
            refine bodyPost_end (v := .tuple #[]) (results_none rfl _ _ _) rfl ⟨gs, rfl, (unhide HG).turnedF kS hr9 (.inl ⟨rfl, fun _ => rfl⟩) (by simp [mblk]), (unhide HGA).trans (unhide HAF left (unhide HL0)), ((unhide HKC).trans (unhide HKW) (fun x hx => .inl hx)).trans kS (by intro x hx; simp only [List.mem_singleton] at hx; subst hx; left; simp [dkB]), ?_⟩
            intro x hx
            have h8 : x ∈ dkB d m (.slice none 0 0) fv gs := by
              simp only [dkB, mblk, List.mem_cons, List.mem_append, List.mem_flatMap, List.not_mem_nil, or_false] at hx ⊢
              rcases hx with h | h | h | h
              · exact .inl h
              · exact .inr (.inl h)
              · exact .inr (.inr (.inl (.inl h)))
              · exact .inr (.inr (.inr h))
            rcases unhide HBN x h8 with h9 | h9
            · exact .inl h9
            · exact .inr (by have := unhide HS4; omega)
          · intro x c kl yd yp w2 cnt2 hkey hlk hv hat hrg2 hlt2 hg2 hs2 hen
            obtain ⟨x', ex, rfl⟩ := keyStr_inv hkey
            injection ex with ex
            subst ex
            obtain ⟨g, hlg, rfl⟩ : ∃ g, look F2 x.data.toList = some g ∧ c = some g := by
              have h1 := (unhide HLK x.data.toList).2
              cases hl : look F2 x.data.toList with
              | none =>
                rw [hl] at h1
                have h2 := (h1 .nil).symm.trans (hat .nil)
                have h3 := (h1 (.lit (.bool true))).symm.trans (hat (.lit (.bool true)))
                rw [← h2] at h3
                cases h3
              | some g =>
                rw [hl] at h1
                have h2 := (h1 .nil).symm.trans (hat .nil)
                refine ⟨g, rfl, ?_⟩
                rcases ptrElem_inv hv with ⟨h4, h5⟩ | ⟨g', h4, h5⟩
                · rw [(Prod.mk.inj h5).1] at h2; cases h2
                · rw [(Prod.mk.inj h5).1] at h2
                  simp at h2
                  have h6 : g' = g := by omega
                  subst h6
                  cases c with
                  | none => simp [ptrO] at h4
                  | some c => simp [ptrO] at h4; rw [h4]
            obtain ⟨f, hfm, hfg, hfn⟩ := look_mem (by rw [look_abs_eq (unhide HGK)]; exact hlg : look gs x.data.toList = some g)
            have hfx := ba_ext hfn
            subst hfx hfg
            have hit := ranges_iter (unhide HRG)
            have k2 : Kept [w4.heap.size] wr w2 := (Kept.refl _ wr).grown hg2 (by intro k9 hk9; injection hk9 with hk9; subst hk9; simp)
            have HG2 := hide ((unhide HG).kept k2 (by intro x9 hx9 hm9; simp only [List.mem_singleton] at hm9; subst hm9; exact (unhide HG).noIter hit hx9))
            have HKO2 := hide (ownsMap_heap (unhide HKO5) (k2.block kb (unhide HKO5).lt (by
              simp only [List.mem_singleton]
              intro e9
              obtain ⟨a1, a2, a3, a4, hit⟩ := hit
              obtain ⟨es, ck, he, _⟩ := unhide HKO5
              rw [e9, hit] at he
              cases he)))
            have HKW2 := hide ((unhide HKW).trans k2 (by intro x9 hx9; simp only [List.mem_singleton] at hx9; subst hx9; exact .inr (Nat.le_refl _)))
            have HRG2 := hide hrg2
            have HLK2 := hide hlk
            have HLT2 := hide hlt2
            have HFM2 := hide hfm
            have hkey2 := WideMaps.keyOf_string_mk Try.underlying9 (s := f.nm) (by
              have h9 : f.nm ∈ F2.map (fun f => f.nm) := by
                have h10 := congrArg (List.map Prod.fst) (unhide HGK)
                rw [List.map_map, List.map_map] at h10
                show f.nm ∈ List.map (Prod.fst ∘ fun f => (f.nm, f.g)) F2
                rw [← h10]
                exact List.mem_map.2 ⟨f, hfm, rfl⟩
              obtain ⟨a, ha, hae⟩ := List.mem_map.1 h9
              have := unhide HNL a ha
              rw [← hae]
              unfold maxLen
              omega)
            have hlook := fun j : Nat => look_keep (ownsMap_heap (w' := w2.drewN j) (unhide HKO2) rfl) (unhide HKM) f.nm hkey2
            obtain ⟨K, hK⟩ : ∃ K, (fstK ks f.nm.data.toList).getD zK = K := ⟨_, rfl⟩
            rw [hK] at hlook
            have HKK := hide hK
            have hBF : f.bs.length ≤ 140737488350000 := by
              have h3 : absF f ∈ (F2.map absF).map (setL ks sec left) := by rw [← unhide HGA]; exact List.mem_map.2 ⟨f, hfm, rfl⟩
              obtain ⟨b, hb, hbe⟩ := List.mem_map.1 h3
              obtain ⟨b0, hb0, rfl⟩ := List.mem_map.1 hb
              have h4 : (absF b0).nm = f.nm := by rw [← setL_nm ks sec left (absF b0), hbe]; rfl
              have h5 : setL ks sec left (absF b0) = absF b0 := by unfold setL; rw [h4, hlk]; rfl
              rw [h5] at hbe
              have h6 := unhide HBL b0 hb0
              have h7 : b0.bs = f.bs := congrArg DF.bs hbe
              rw [← h7]
              exact h6
            have s0 := cell_of_row _ _ 0 _ _ _ (unhide HG2).row
            simp at s0
            clear hkey2 hK hfn hlg hat hv hkey hrg2 hg2 hs2 hlt2 hlk k2 hit hfm
            simp only [ptrO, Option.map_some] at hen ⊢
            go_upto_region 12 with fail
            refine wp_quiet_tail 8 (by kernel_rfl) (by kernel_rfl) ?_
            simp only [List.take_succ_cons, List.take_zero, List.drop_succ_cons, List.drop_zero]
            repeat (go_big_quiet_step (fail))
            refine wpQuiet_nil ?_
            rintro _ ⟨n9, rfl⟩
            go_wp2_with fail
            refine Calls.mono (settle_any f _ K sec ((unhide HG2).files f (unhide HFM2)) hBF hs1 hs2) ?_
            rintro e w6 ⟨v', rfl, hf6, hk6, hv6⟩
            have HF6 := hide hf6
            have HK6 := hide hk6
            have HV6 := hide hv6
            clear hf6 hk6 hv6 hlook s0 hen
            go_wp2_with fail
            have hfile := (unhide HG2).files f (unhide HFM2)
            have hmo : m ∉ f.g :: blk f.v := by
              obtain ⟨n7, D7, ho7, _⟩ := (unhide HG2).map
              intro hx
              rcases List.mem_cons.1 hx with hx | hx
              · exact map_ne ho7 hfile.1 hx.symm
              · obtain ⟨cs, hc⟩ := owns_cells hfile.2.1 hx
                exact map_ne ho7 hc rfl
            have hin : ∀ x ∈ f.g :: blk f.v, x ∈ dkB d m (.slice none 0 0) fv gs := by
              intro x hx
              rcases List.mem_cons.1 hx with rfl | hx
              · exact dkB_g (unhide HFM2)
              · exact dkB_v (unhide HFM2) hx
            have hro : w4.heap.size ∉ f.g :: blk f.v := fun hx => (unhide HG2).noIter (ranges_iter (unhide HRG2)) (hin _ hx)
            have k6 : Kept (f.g :: blk f.v) w2 w6 := ((Kept.refl _ w2).drewN n9).trans (unhide HK6) (fun x hx => .inl hx)
            have hrgN := ranges_heap (unhide HRG2) (k6.block m (unhide HRG2).owns.lt hmo) (k6.block w4.heap.size (unhide HRG2).lt hro)
            have hkoN : w6.ownsMap Try.prog 9 keepElem kb kn KD := ownsMap_heap (unhide HKO2) (k6.block kb (unhide HKO2).lt (by
              intro hx
              rcases List.mem_cons.1 hx with hx | hx
              · exact map_ne (unhide HKO2) hfile.1 hx.symm
              · obtain ⟨cs, hc⟩ := owns_cells hfile.2.1 hx
                exact map_ne (unhide HKO2) hc rfl))
            have hd2 := ((unhide HG2).kept ((Kept.refl [] w2).drewN n9) (by simp)).upd (unhide HFM2) (unhide HK6) (unhide HF6) (unhide HV6)
            refine ⟨⟨_, cnt2, _, hide hrgN, hide hd2, hide ?_, hide ((upF_key _ _ _ _ _).trans (unhide HGK)), hide hkoN, hide ((unhide HKW2).trans k6 ?_), hide ?_⟩, ?_⟩
            · have h9 := setL_step (ks := ks) (sec := sec) (left := left) (unhide HND) (unhide HDF) (unhide HG).apart (unhide HGA) (unhide HFM2) (unhide HLK2) v'
              rw [unhide HKK] at h9
              exact h9
            · intro x hx
              exact unhide HBN x (hin x hx)
            · intro x hx
              rcases upF_blk hx with h9 | h9
              · exact unhide HBN x h9
              · rcases unhide HV6 x h9 with h10 | h10
                · exact unhide HBN x (dkB_v (unhide HFM2) h10)
                · exact .inr (Nat.le_trans (unhide HKW2).size h10)
            · rw [hrgN.left_eq, (unhide HRG).left_eq]
              exact unhide HLT2
end Go.Proofs.Ytlopdlcepmmjdaa
