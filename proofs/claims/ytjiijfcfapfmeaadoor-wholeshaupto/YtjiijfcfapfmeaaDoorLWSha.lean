import Derived.Test.YtjiijfcfapfmeaaDoorSAw
import Derived.Test.YtjiijfcfapfmeaaDoorSCopy
import Derived.Test.YtjiijfcfapfmeaaDoorQKeep
import Derived.Test.YtjiijfcfapfmeaaDoorRdSub
import Derived.Test.YtjiijfcfapfmeaaDoorTTwin
import Derived.Test.YtjiijfcfapfmeaaDoorSApp
import Derived.Test.YtjiijfcfapfmeaaDoorSRegW
import Derived.Test.YtjiijfcfapfmeaaDoorSPad
namespace Go.Proofs.YtjiijfcfapfmeaaDoor
open Go.RowKit Go.BigFrame
set_option linter.unusedVariables false
set_option linter.unusedSimpArgs false

set_option maxRecDepth 100000 in
set_option maxHeartbeats 2000000 in
theorem wholeSha_walk (v : Value) (p : List Nat) (u : Value) (zs : List Nat) (w : World) (h : Rd w v p) (hl : p.length ≤ 140737488351232) (hu : Rd w u zs) (hl2 : zs.length ≤ 140737488351232) (hT : Tabs w) :
    Calls Tryd.prog 3 #[v, u] w fun e w' => e = .returned (.bool true) ∧ Below w.heap.size w w' := by
  have HT := hide hT
  have H := hide h
  have HU := hide hu
  obtain ⟨va, vl, vc, rfl, hvl, hv2, ⟨hv3, hv3'⟩, hv4, hv5, hvx⟩ := h
  obtain ⟨ua, ul, uc, rfl, hul, hu2, ⟨hu3, hu3'⟩, hu4, hu5, hux⟩ := hu
  subst hvl
  subst hul
  have h2 := hT.two
  have kc := fun (w : World) (C : Array Value) (n c : Nat) => Lib.run_convert_bytes_const (P := Tryd.prog) w 22 5 C n c Tryd.underlying22 Tryd.underlying5
  clear hT hv5 hu5 hv4 hvx hux hu4
  go_enter Tryd.func3, Tryd.ntmps3
  go_wp2_with fail
  refine (snew_any w).mono ?_
  rintro e w1 ⟨rfl, s1, k1⟩
  have HS1 := hide s1
  have HK1 := hide k1
  clear s1 k1
  go_wp2_with fail
  refine Calls.mono (sum256_any _ [97, 98, 99] _ (rd_mark (heap_alloc_new _ _) rfl (by decide) 3 rfl (by decide)) (by decide) ((unhide HT).kept ((unhide HK1).alloc _) (by simp) (by simp))) ?_
  rintro e w2 ⟨rfl, k2⟩
  have HS2 := hide (((unhide HS1).kept ((Kept.refl [] w1).alloc _) (by simp)).kept k2 (by simp))
  have HK2 := hide (((unhide HK1).alloc _).trans k2 (by simp))
  clear k2
  rw [show hash [97, 98, 99] = abcL from abc_hash]
  have hlt2 := (unhide HS2).lt
  have hab0 : (abcL.length) = 32 := rfl
  have HW2 := hide (setRow_heap (w2.alloc (.cells (zb 32) 25)) w2.heap.size (zb 32) (brow abcL) 25 (0, 0) (heap_alloc_new _ _))
  have ca0 : ((w2.alloc (.cells (zb 32) 25)).setRow w2.heap.size (brow abcL)).cell? ⟨w2.heap.size, 0, none⟩ = some (u8 186) := brow_cell (unhide HW2) 0 (by decide)
  have ca1 : ((w2.alloc (.cells (zb 32) 25)).setRow w2.heap.size (brow abcL)).cell? ⟨w2.heap.size, 1, none⟩ = some (u8 120) := brow_cell (unhide HW2) 1 (by decide)
  have ca2 : ((w2.alloc (.cells (zb 32) 25)).setRow w2.heap.size (brow abcL)).cell? ⟨w2.heap.size, 2, none⟩ = some (u8 22) := brow_cell (unhide HW2) 2 (by decide)
  have ca3 : ((w2.alloc (.cells (zb 32) 25)).setRow w2.heap.size (brow abcL)).cell? ⟨w2.heap.size, 3, none⟩ = some (u8 191) := brow_cell (unhide HW2) 3 (by decide)
  have HKW := hide ((((Kept.refl [] w2).alloc (.cells (zb 32) 25)).setRow (g := w2.heap.size) (Or.inr (Nat.le_refl _)) (brow abcL)))
  have HS3 := hide ((unhide HS2).kept (unhide HKW) (by simp))
  have HK3 := hide ((unhide HK2).trans (unhide HKW) (by simp))
  go_wp2_with (rw [zb32]; refine wpList_store_row rfl 25 _ _ rfl w2.heap.size (brow abcL) rfl rfl _ (zb 32) (heap_alloc_new _ _) (by rw [brow_size]; exact Tryd.size_a32b) (by rw [zb_size, brow_size]; rfl) (brow_one _) ?_)
  obtain ⟨W3, hW3⟩ : ∃ W, (w2.alloc (.cells (zb 32) 25)).setRow w2.heap.size (brow abcL) = W := ⟨_, rfl⟩
  obtain ⟨ga, hga⟩ : ∃ g, w2.heap.size = g := ⟨_, rfl⟩
  rw [hW3] at HS3 HK3 ⊢
  rw [hga]
  clear ca0 ca1 ca2 ca3 HKW HW2 hW3 hga
  obtain ⟨g, hg⟩ : ∃ g, w.heap.size = g := ⟨_, rfl⟩
  have Hge := hide (by omega : w.heap.size ≤ g)
  rw [hg] at HS3 ⊢
  have HBv := hide (fun (hp : 0 < p.length) n' c' => by have := fun x => (unhide H).blk_lt (n' := n') (c' := c') hp x; intro hx; have := this g hx; omega : 0 < p.length → ∀ n' c', g ∉ blk (.slice va n' c'))
  have hg2 : 2 ≤ g := by omega
  have Hg := hide hg
  clear hg
  go_loopw [7, 8] (fun t7 t8 wr => ∃ (a i : Nat), a ≤ p.length ∧ i ≤ zs.length ∧ t7 = .int .i64 a ∧ t8 = .int .i64 i ∧ Hid (St wr g (p.take a)) ∧ Hid (Kept [] w wr)) (fun _ t _ => zs.length - (intOf t).toNat)
  case atStart => exact ⟨0, 0, Nat.zero_le _, Nat.zero_le _, rfl, rfl, HS3, HK3⟩
  case round =>
    clear HS3 HK3
    obtain ⟨a, i, ha, hi, rfl, rfl, HS, HK⟩ := hrel
    have HRp := hide ((unhide H).old (unhide HK) (by simp))
    have haI : (a : Int) ≤ p.length := by omega
    have hI2 : (p.length : Int) ≤ vc := by omega
    by_cases hlt : i < zs.length
    · have hlt' : (i : Int) < zs.length := by omega
      obtain ⟨_, _, _, he, _, _, _, _, hb5, hc6⟩ := unhide HU
      cases he
      obtain ⟨b, o, rfl, hcell⟩ := hc6 (by omega)
      have HC := hide (fun W (k : Kept [] w W) => k.cell (hcell i hlt) (by simp))
      have cs := unhide HC wr (unhide HK)
      have hx := byteD hb5 i
      generalize zs.getD i 0 = x at cs hx HC
      clear hcell hb5 hc6
      obtain ⟨m, hmp, ham, hnv⟩ : ∃ m : Nat, m ≤ p.length ∧ a ≤ m ∧ ((a + x ≤ p.length ∧ m = a + x) ∨ (p.length < a + x ∧ m = p.length)) := by
        by_cases h0 : a + x ≤ p.length
        · exact ⟨a + x, h0, by omega, Or.inl ⟨h0, rfl⟩⟩
        · exact ⟨p.length, by omega, ha, Or.inr ⟨by omega, rfl⟩⟩
      obtain ⟨n, hn⟩ : ∃ n, a + n = m := ⟨m - a, by omega⟩
      have hdn : a + n ≤ p.length := by omega
      obtain ⟨Q, hQ⟩ : ∃ Q, (p.drop a).take n = Q := ⟨_, rfl⟩
      have hQl : Q.length = n := by rw [← hQ]; simp; omega
      obtain ⟨PT, hPT⟩ : ∃ PT, p.take m = PT := ⟨_, rfl⟩
      have HPT := hide hPT
      have HPl := hide (by rw [← hPT]; simp; omega : PT.length = m)
      have HQt := hide (by rw [← hQ, ← hPT, ← hn]; exact take_more p a n : p.take a ++ Q = PT)
      clear hPT
      have HRs0 := hide (fun (e : vc = a) => by have := (unhide HRp).sub0 e hdn; rw [hQ] at this; exact this : vc = a → Rd wr (.slice va n 0) Q)
      have HRs1 := hide (by have := (unhide HRp).sub hdn; rw [hQ] at this; exact this : Rd wr (.slice (Option.map (fun x => x.add a) va) n (vc - a)) Q)
      have HB0 := hide (fun (h0 : 0 < Q.length) => unhide HBv (by omega) n 0)
      have HB1 := hide (fun (h0 : 0 < Q.length) hx => unhide HBv (by omega) n 0 (blk_drop _ hx) : 0 < Q.length → g ∉ blk (.slice (Option.map (fun x => x.add a) va) n (vc - a)))
      have HQl := hide hQl
      have hnm : m - a = n := by omega
      have hmV : (m : Int) ≤ vc := by omega
      have hamI : (a : Int) ≤ m := by omega
      have Hn := hide hn
      clear hQ hQl hn
      rcases hnv with ⟨hv1, hv2'⟩ | ⟨hv1, hv2'⟩
      · have hvI : (a : Int) + x = m := by omega
        have hvJ : ¬ (p.length : Int) < m := by omega
        clear hv2'
        by_cases hcs : vc = a
        · subst hcs
          have HRs2 := hide (unhide HRs0 (Eq.refl vc))
          clear HRs0
          go_wp2_with fail
          refine Calls.mono (write_any g _ _ Q wr (unhide HS) (unhide HRs2) (unhide HB0) hg2 (by rw [unhide HQl]; simp; omega) ((unhide HT).k (unhide HK))) ?_
          rintro e w4 ⟨rfl, s4, k4⟩
          rw [unhide HQt] at s4
          have HS4 := hide s4
          have HK4 := hide ((unhide HK).trans k4 (by have := unhide Hge; simp; omega))
          clear s4 k4
          have cs4 := unhide HC _ (unhide HK4)
          go_wp2_with fail
          have hne : ∀ p : Prop, (∀ w', Kept [] w4 w' → p) = p := fun p => propext ⟨fun h => h w4 (Kept.refl [] w4), fun h _ _ => h⟩
          have HRt := hide ((unhide H).old (unhide HK4) (by simp))
          have HRt2 := hide (by have h9 := Rd.take (unhide HRt) hmp; rw [unhide HPT] at h9; exact h9)
          have HSA := hide (fun w' (hw' : Kept [] w4 w') => (ssum_any g PT w' ((unhide HS4).kept hw' (by simp)) (by rw [unhide HPl]; omega) ((unhide HT).k ((unhide HK4).trans hw' (by simp)))).mono (fun e w2 (h2 : _ ∧ _) => (⟨h2.1, hw'.trans h2.2 (by simp)⟩ : _ ∧ Kept [] w4 w2)))
          have HRA := hide (fun w' (hw' : Kept [] w4 w') => (sum256_any _ PT w' ((unhide HRt2).old hw' (by simp)) (by rw [unhide HPl]; omega) ((unhide HT).k ((unhide HK4).trans hw' (by simp)))).mono (fun e w2 (h2 : _ ∧ _) => (⟨h2.1, hw'.trans h2.2 (by simp)⟩ : _ ∧ Kept [] w4 w2)))
          have HCC := hide (fun w' (hw' : Kept [] w4 w') => hw'.cell cs4 (by simp))
          refine wp_region_keep (by kernel_rfl) (by kernel_rfl) ?_
          go_big_quiet_step (fail)
          go_big_quiet_step (fail)
          go_big_quiet_step (fail)
          refine wpQuiet_val rfl (.int .u8 (x : Int)) (fun w' hw' => run_load1 5 (.tmp 63) rfl ⟨b, o + i, none⟩ rfl w' _ .u8 Tryd.underlying5 (unhide HCC w' hw')) ?_
          simp only [Act.put, List.setIfInBounds_toArray, List.set_cons_succ, List.set_cons_zero]
          by_cases hP2 : x % 2 = 1
          · exfalso; omega
          · have hP3 : ((x : Int) % 2 == 1) = false := by rw [beq_eq_false_iff_ne]; omega
            repeat (go_big_quiet_step (fail))
            refine wpQuiet_nil ?_
            intro w5 hw5
            have HS5 := hide ((unhide HS4).kept hw5 (by simp))
            have HK5 := hide ((unhide HK4).trans hw5 (by simp))
            have cs5 := hw5.cell cs4 (by simp)
            clear hw5 hne
            by_cases hP6 : x % 3 = 1
            · exfalso; omega
            · have hP5 : ((x : Int) % 3 == 1) = false := by rw [beq_eq_false_iff_ne]; omega
              go_wp2
              refine ⟨⟨_, i + 1, hmp, by omega, rfl, by go_num, hide (by rw [unhide HPT]; exact unhide HS5), HK5⟩, ?_⟩
              simp [intOf]; omega
        · clear HRs0
          go_wp2_with fail
          refine Calls.mono (write_any g _ _ Q wr (unhide HS) (unhide HRs1) (unhide HB1) hg2 (by rw [unhide HQl]; simp; omega) ((unhide HT).k (unhide HK))) ?_
          rintro e w4 ⟨rfl, s4, k4⟩
          rw [unhide HQt] at s4
          have HS4 := hide s4
          have HK4 := hide ((unhide HK).trans k4 (by have := unhide Hge; simp; omega))
          clear s4 k4
          have cs4 := unhide HC _ (unhide HK4)
          go_wp2_with fail
          have hne : ∀ p : Prop, (∀ w', Kept [] w4 w' → p) = p := fun p => propext ⟨fun h => h w4 (Kept.refl [] w4), fun h _ _ => h⟩
          have HRt := hide ((unhide H).old (unhide HK4) (by simp))
          have HRt2 := hide (by have h9 := Rd.take (unhide HRt) hmp; rw [unhide HPT] at h9; exact h9)
          have HSA := hide (fun w' (hw' : Kept [] w4 w') => (ssum_any g PT w' ((unhide HS4).kept hw' (by simp)) (by rw [unhide HPl]; omega) ((unhide HT).k ((unhide HK4).trans hw' (by simp)))).mono (fun e w2 (h2 : _ ∧ _) => (⟨h2.1, hw'.trans h2.2 (by simp)⟩ : _ ∧ Kept [] w4 w2)))
          have HRA := hide (fun w' (hw' : Kept [] w4 w') => (sum256_any _ PT w' ((unhide HRt2).old hw' (by simp)) (by rw [unhide HPl]; omega) ((unhide HT).k ((unhide HK4).trans hw' (by simp)))).mono (fun e w2 (h2 : _ ∧ _) => (⟨h2.1, hw'.trans h2.2 (by simp)⟩ : _ ∧ Kept [] w4 w2)))
          have HCC := hide (fun w' (hw' : Kept [] w4 w') => hw'.cell cs4 (by simp))
          refine wp_region_keep (by kernel_rfl) (by kernel_rfl) ?_
          go_big_quiet_step (fail)
          go_big_quiet_step (fail)
          go_big_quiet_step (fail)
          refine wpQuiet_val rfl (.int .u8 (x : Int)) (fun w' hw' => run_load1 5 (.tmp 63) rfl ⟨b, o + i, none⟩ rfl w' _ .u8 Tryd.underlying5 (unhide HCC w' hw')) ?_
          simp only [Act.put, List.setIfInBounds_toArray, List.set_cons_succ, List.set_cons_zero]
          by_cases hP2 : x % 2 = 1
          · have hP3 : ((x : Int) % 2 == 1) = true := by rw [beq_iff_eq]; omega
            go_big_quiet_step (fail)
            go_big_quiet_step (fail)
            go_big_quiet_step (fail)
            go_big_quiet_step (fail)
            go_big_quiet_want
            go_big_quiet_op
            apply Exists.intro
            refine ⟨fun w' hw' => ?_, ?_⟩
            · exact unhide HSA w' hw'
            go_big_quiet_on
            go_big_quiet_step (fail)
            go_big_quiet_step (fail)
            go_big_quiet_step (fail)
            go_big_quiet_want
            go_big_quiet_op
            apply Exists.intro
            refine ⟨fun w' hw' => ?_, ?_⟩
            · exact unhide HRA w' hw'
            go_big_quiet_on
            refine wpQuiet_val rfl (.bool (!true)) (fun w' _ => run_neq 25 (.tmp 69) (.tmp 73) 25 rfl (brow (hash PT)) (brow (hash PT)) rfl rfl w' true (by kernel_rfl) (by rw [row_eq w' _ _ (hash_len _) (hash_len _), decide_eq_true rfl])) ?_
            simp only [Act.put, List.setIfInBounds_toArray, List.set_cons_succ, List.set_cons_zero, Bool.not_true]
            repeat (go_big_quiet_step (fail))
            refine wpQuiet_nil ?_
            intro w5 hw5
            have HS5 := hide ((unhide HS4).kept hw5 (by simp))
            have HK5 := hide ((unhide HK4).trans hw5 (by simp))
            have cs5 := hw5.cell cs4 (by simp)
            clear hw5 hne
            by_cases hP6 : x % 3 = 1
            · have hP5 : ((x : Int) % 3 == 1) = true := by rw [beq_iff_eq]; omega
              go_wp2_with fail
              refine Calls.mono (scopy_any g PT w5 (unhide HS5)) ?_
              rintro e w6 ⟨rfl, s6, k6⟩
              have HC6 := hide s6
              have HS6 := hide ((unhide HS5).kept k6 (by simp))
              have HK6 := hide ((unhide HK5).trans k6 (by simp))
              have hsz5 := (unhide HK5).size
              have hlt5 := (unhide HS5).lt
              clear s6 k6
              have hltc := (unhide HC6).lt
              obtain ⟨gc, hgc⟩ : ∃ gc, w5.heap.size = gc := ⟨_, rfl⟩
              rw [hgc] at HC6 hltc hlt5 hsz5
              go_wp2_with fail
              refine Calls.mono (write_any gc _ _ [1, 2, 3] _ ((unhide HC6).kept ((Kept.refl [] w6).alloc _) (by simp)) (rd_lit (heap_alloc_new _ _) rfl (by decide) 3 rfl (by decide)) (by intro _; simp [blk]; omega) (by omega) (by rw [unhide HPl]; simp; omega) ((unhide HT).kept ((unhide HK6).alloc _) (by simp) (by simp))) ?_
              rintro e w7 ⟨rfl, s7, k7⟩
              have HC7 := hide s7
              have HS7 := hide (((unhide HS6).kept ((Kept.refl [] w6).alloc _) (by simp)).kept k7 (by simp; omega))
              have HK7 := hide (((unhide HK6).alloc _).trans k7 (by simp; omega))
              clear s7 k7
              go_wp2_with fail
              have HRt7 := hide (by have h9 := Rd.take ((unhide H).old (unhide HK7) (by simp)) hmp; rw [unhide HPT] at h9; exact h9)
              have HPb := hide (fun x hx => by rcases List.mem_append.1 hx with h | h; rw [← unhide HPT] at h; exact (unhide H).byte x (List.mem_of_mem_take h); simp at h; omega : ∀ x ∈ PT ++ [1, 2, 3], x < 256)
              have hPl := unhide HPl
              have hL3 : (PT ++ [1, 2, 3]).length = m + 3 := by rw [List.length_append, hPl]; rfl
              have HT7 := hide ((unhide HT).k (unhide HK7))
              have HR9 := hide (fun (W' : World) (kk : Kept [] w7 W') => (unhide HT7).k kk)
              refine wp_sapp10 (by kernel_rfl) (by kernel_rfl) (by kernel_rfl) (by kernel_rfl) (by kernel_rfl) (by kernel_rfl) (by kernel_rfl) (by kernel_rfl) (by kernel_rfl) (by kernel_rfl) (by kernel_rfl) (by kernel_rfl) (by kernel_rfl) (by kernel_rfl) (by kernel_rfl) (by kernel_rfl) (by kernel_rfl) (by kernel_rfl) (by kernel_rfl) (by kernel_rfl) rfl rfl rfl rfl rfl (.pointer (some ⟨gc, 0, none⟩)) (.slice va p.length vc) (.int .i64 (m : Int)) (.slice va m vc)
                _ _ _ _ (by (try simp only [Act.put, List.setIfInBounds_toArray, List.set_cons_zero, List.set_cons_succ]); try rfl) (by (try simp only [Act.put, List.setIfInBounds_toArray, List.set_cons_zero, List.set_cons_succ]); try rfl) (by (try simp only [Act.put, List.setIfInBounds_toArray, List.set_cons_zero, List.set_cons_succ]); try rfl) (by (try simp only [Act.put, List.setIfInBounds_toArray, List.set_cons_zero, List.set_cons_succ]); try rfl)
                (by exact Or.inl ⟨by rfl, fun W' hW' => by go_simp⟩) (by exact Or.inl ⟨by rfl, fun W' hW' => by go_simp⟩) (by exact Or.inl ⟨by rfl, fun W' hW' => by go_simp⟩) (by exact Or.inl ⟨by rfl, fun W' hW' => by go_simp⟩)
                (.agg (brow (hash (PT ++ [1, 2, 3])))) (.bool false)
                (fun u w' => ∃ ao cap B, u = .slice ao PT.length cap ∧ w7.heap.size ≤ B ∧ B ≤ w'.heap.size ∧ w'.ownsRow B 5 1 u PT.length (PT.map Go.Proofs.YtjiijfcfapfmeaaDoor.u8))
                (fun b w' => ∃ g9, b = .slice (some ⟨g9, 0, none⟩) 3 3 ∧ Rd w' b [1, 2, 3]) (fun r w' => Rd w' r (PT ++ [1, 2, 3]))
                (by rintro u z1 z2 ⟨ao, cap, B, e, h1, h2, h3⟩ kk; exact ⟨ao, cap, B, e, h1, Nat.le_trans h2 kk.size, kk.owns h3 (by simp)⟩)
                (by rintro u z1 z2 ⟨g9, e, h1⟩ kk; exact ⟨g9, e, h1.old kk (by simp)⟩)
                (fun X => X.eval (.tmp 87) = .pointer (some ⟨gc, 0, none⟩)) (fun X => X.eval (.tmp 91) = .slice va m vc)
                (by (try simp only [Act.put, List.setIfInBounds_toArray, List.set_cons_zero, List.set_cons_succ]); try rfl) (by intro b; (try simp only [Act.put, List.setIfInBounds_toArray, List.set_cons_zero, List.set_cons_succ]); try rfl) (by (try simp only [Act.put, List.setIfInBounds_toArray, List.set_cons_zero, List.set_cons_succ]); try rfl) (by intro b; (try simp only [Act.put, List.setIfInBounds_toArray, List.set_cons_zero, List.set_cons_succ]); try rfl) (by intro b; (try simp only [Act.put, List.setIfInBounds_toArray, List.set_cons_zero, List.set_cons_succ]); try rfl)
                (by intro X z1 hX kk K hK; exact wp_ssum (.tmp 87) _ rfl gc (PT ++ [1, 2, 3]) hX ((unhide HC7).kept kk (by simp)) (by rw [hL3]; omega) (unhide HR9 z1 kk) hK)
                (by intro X z1 hX kk K hK; refine wp_ttwin (.tmp 91) _ rfl _ PT hX ((unhide HRt7).old kk (by simp)) (by rw [hPl]; omega) (fun u z2 hu kz => ?_); obtain ⟨ao, cap, B, e, h1, h2, h3⟩ := hu; exact hK u z2 ⟨ao, cap, B, e, Nat.le_trans kk.size h1, h2, h3⟩ kz)
                (by intro X z1 kk K hK; exact wp_build3 rfl (hK _ _ ⟨_, rfl, rd_lit (heap_alloc_new _ _) rfl (by decide) 3 rfl (by decide)⟩ ((Kept.refl [] z1).alloc _)))
                _ (by intro u b; (try simp only [Act.put, List.setIfInBounds_toArray, List.set_cons_zero, List.set_cons_succ]); try rfl) (by intro u b; (try simp only [Act.put, List.setIfInBounds_toArray, List.set_cons_zero, List.set_cons_succ]); try rfl) (by intro u b; (try simp only [Act.put, List.setIfInBounds_toArray, List.set_cons_zero, List.set_cons_succ]); try rfl)
                (by rintro u b z1 ⟨ao, cap, B, rfl, h1, h2, h3⟩ ⟨g9, rfl, hb9⟩ kk K hK; exact wp_appB (.tmp 92) (.tmp 93) rfl rfl B _ PT [1, 2, 3] _ 3 3 h3 hb9 (by rw [hPl]; simp; omega) h2 (by (try simp only [Act.put, List.setIfInBounds_toArray, List.set_cons_zero, List.set_cons_succ]); try rfl) (by (try simp only [Act.put, List.setIfInBounds_toArray, List.set_cons_zero, List.set_cons_succ]); try rfl) (fun ao' cap' z2 o2 g2 => hK _ z2 (rd_owns o2 (unhide HPb) (by rw [hL3]; omega)) (kk.grown g2 (by intro k hk; right; exact Nat.le_trans h1 (h3.lt k hk).1))))
                (by rintro u b r z1 hr kk K hK; exact wp_sum256 (.tmp 94) _ rfl r (PT ++ [1, 2, 3]) (by (try simp only [Act.put, List.setIfInBounds_toArray, List.set_cons_zero, List.set_cons_succ]); try rfl) hr (by rw [hL3]; omega) (unhide HR9 z1 kk) (fun z2 kz => hK z2 (kk.trans kz (by simp))))
                (by intro u b r; exact Or.inl ⟨by rfl, fun W' _ => run_neq 25 (.tmp 88) (.tmp 95) 25 rfl (brow (hash (PT ++ [1, 2, 3]))) (brow (hash (PT ++ [1, 2, 3]))) (by (try simp only [Act.put, List.setIfInBounds_toArray, List.set_cons_zero, List.set_cons_succ]); try rfl) (by (try simp only [Act.put, List.setIfInBounds_toArray, List.set_cons_zero, List.set_cons_succ]); try rfl) W' true (by kernel_rfl) (by rw [row_eq W' _ _ (hash_len _) (hash_len _), decide_eq_true rfl])⟩)
                ?_
              intro u b r w8 k8
              have HS8 := hide ((unhide HS7).kept k8 (by simp))
              have HK8 := hide ((unhide HK7).trans k8 (by simp))
              clear k8
              simp only [Act.put, List.setIfInBounds_toArray, List.set_cons_zero, List.set_cons_succ]
              go_wp2
              refine ⟨⟨_, i + 1, hmp, by omega, rfl, by go_num, hide (by rw [unhide HPT]; exact unhide HS8), HK8⟩, ?_⟩
              simp [intOf]; omega
            · have hP5 : ((x : Int) % 3 == 1) = false := by rw [beq_eq_false_iff_ne]; omega
              go_wp2
              refine ⟨⟨_, i + 1, hmp, by omega, rfl, by go_num, hide (by rw [unhide HPT]; exact unhide HS5), HK5⟩, ?_⟩
              simp [intOf]; omega
          · have hP3 : ((x : Int) % 2 == 1) = false := by rw [beq_eq_false_iff_ne]; omega
            repeat (go_big_quiet_step (fail))
            refine wpQuiet_nil ?_
            intro w5 hw5
            have HS5 := hide ((unhide HS4).kept hw5 (by simp))
            have HK5 := hide ((unhide HK4).trans hw5 (by simp))
            have cs5 := hw5.cell cs4 (by simp)
            clear hw5 hne
            by_cases hP6 : x % 3 = 1
            · have hP5 : ((x : Int) % 3 == 1) = true := by rw [beq_iff_eq]; omega
              go_wp2_with fail
              refine Calls.mono (scopy_any g PT w5 (unhide HS5)) ?_
              rintro e w6 ⟨rfl, s6, k6⟩
              have HC6 := hide s6
              have HS6 := hide ((unhide HS5).kept k6 (by simp))
              have HK6 := hide ((unhide HK5).trans k6 (by simp))
              have hsz5 := (unhide HK5).size
              have hlt5 := (unhide HS5).lt
              clear s6 k6
              have hltc := (unhide HC6).lt
              obtain ⟨gc, hgc⟩ : ∃ gc, w5.heap.size = gc := ⟨_, rfl⟩
              rw [hgc] at HC6 hltc hlt5 hsz5
              go_wp2_with fail
              refine Calls.mono (write_any gc _ _ [1, 2, 3] _ ((unhide HC6).kept ((Kept.refl [] w6).alloc _) (by simp)) (rd_lit (heap_alloc_new _ _) rfl (by decide) 3 rfl (by decide)) (by intro _; simp [blk]; omega) (by omega) (by rw [unhide HPl]; simp; omega) ((unhide HT).kept ((unhide HK6).alloc _) (by simp) (by simp))) ?_
              rintro e w7 ⟨rfl, s7, k7⟩
              have HC7 := hide s7
              have HS7 := hide (((unhide HS6).kept ((Kept.refl [] w6).alloc _) (by simp)).kept k7 (by simp; omega))
              have HK7 := hide (((unhide HK6).alloc _).trans k7 (by simp; omega))
              clear s7 k7
              go_wp2_with fail
              have HRt7 := hide (by have h9 := Rd.take ((unhide H).old (unhide HK7) (by simp)) hmp; rw [unhide HPT] at h9; exact h9)
              have HPb := hide (fun x hx => by rcases List.mem_append.1 hx with h | h; rw [← unhide HPT] at h; exact (unhide H).byte x (List.mem_of_mem_take h); simp at h; omega : ∀ x ∈ PT ++ [1, 2, 3], x < 256)
              have hPl := unhide HPl
              have hL3 : (PT ++ [1, 2, 3]).length = m + 3 := by rw [List.length_append, hPl]; rfl
              have HT7 := hide ((unhide HT).k (unhide HK7))
              have HR9 := hide (fun (W' : World) (kk : Kept [] w7 W') => (unhide HT7).k kk)
              refine wp_sapp10 (by kernel_rfl) (by kernel_rfl) (by kernel_rfl) (by kernel_rfl) (by kernel_rfl) (by kernel_rfl) (by kernel_rfl) (by kernel_rfl) (by kernel_rfl) (by kernel_rfl) (by kernel_rfl) (by kernel_rfl) (by kernel_rfl) (by kernel_rfl) (by kernel_rfl) (by kernel_rfl) (by kernel_rfl) (by kernel_rfl) (by kernel_rfl) (by kernel_rfl) rfl rfl rfl rfl rfl (.pointer (some ⟨gc, 0, none⟩)) (.slice va p.length vc) (.int .i64 (m : Int)) (.slice va m vc)
                _ _ _ _ (by (try simp only [Act.put, List.setIfInBounds_toArray, List.set_cons_zero, List.set_cons_succ]); try rfl) (by (try simp only [Act.put, List.setIfInBounds_toArray, List.set_cons_zero, List.set_cons_succ]); try rfl) (by (try simp only [Act.put, List.setIfInBounds_toArray, List.set_cons_zero, List.set_cons_succ]); try rfl) (by (try simp only [Act.put, List.setIfInBounds_toArray, List.set_cons_zero, List.set_cons_succ]); try rfl)
                (by exact Or.inl ⟨by rfl, fun W' hW' => by go_simp⟩) (by exact Or.inl ⟨by rfl, fun W' hW' => by go_simp⟩) (by exact Or.inl ⟨by rfl, fun W' hW' => by go_simp⟩) (by exact Or.inl ⟨by rfl, fun W' hW' => by go_simp⟩)
                (.agg (brow (hash (PT ++ [1, 2, 3])))) (.bool false)
                (fun u w' => ∃ ao cap B, u = .slice ao PT.length cap ∧ w7.heap.size ≤ B ∧ B ≤ w'.heap.size ∧ w'.ownsRow B 5 1 u PT.length (PT.map Go.Proofs.YtjiijfcfapfmeaaDoor.u8))
                (fun b w' => ∃ g9, b = .slice (some ⟨g9, 0, none⟩) 3 3 ∧ Rd w' b [1, 2, 3]) (fun r w' => Rd w' r (PT ++ [1, 2, 3]))
                (by rintro u z1 z2 ⟨ao, cap, B, e, h1, h2, h3⟩ kk; exact ⟨ao, cap, B, e, h1, Nat.le_trans h2 kk.size, kk.owns h3 (by simp)⟩)
                (by rintro u z1 z2 ⟨g9, e, h1⟩ kk; exact ⟨g9, e, h1.old kk (by simp)⟩)
                (fun X => X.eval (.tmp 87) = .pointer (some ⟨gc, 0, none⟩)) (fun X => X.eval (.tmp 91) = .slice va m vc)
                (by (try simp only [Act.put, List.setIfInBounds_toArray, List.set_cons_zero, List.set_cons_succ]); try rfl) (by intro b; (try simp only [Act.put, List.setIfInBounds_toArray, List.set_cons_zero, List.set_cons_succ]); try rfl) (by (try simp only [Act.put, List.setIfInBounds_toArray, List.set_cons_zero, List.set_cons_succ]); try rfl) (by intro b; (try simp only [Act.put, List.setIfInBounds_toArray, List.set_cons_zero, List.set_cons_succ]); try rfl) (by intro b; (try simp only [Act.put, List.setIfInBounds_toArray, List.set_cons_zero, List.set_cons_succ]); try rfl)
                (by intro X z1 hX kk K hK; exact wp_ssum (.tmp 87) _ rfl gc (PT ++ [1, 2, 3]) hX ((unhide HC7).kept kk (by simp)) (by rw [hL3]; omega) (unhide HR9 z1 kk) hK)
                (by intro X z1 hX kk K hK; refine wp_ttwin (.tmp 91) _ rfl _ PT hX ((unhide HRt7).old kk (by simp)) (by rw [hPl]; omega) (fun u z2 hu kz => ?_); obtain ⟨ao, cap, B, e, h1, h2, h3⟩ := hu; exact hK u z2 ⟨ao, cap, B, e, Nat.le_trans kk.size h1, h2, h3⟩ kz)
                (by intro X z1 kk K hK; exact wp_build3 rfl (hK _ _ ⟨_, rfl, rd_lit (heap_alloc_new _ _) rfl (by decide) 3 rfl (by decide)⟩ ((Kept.refl [] z1).alloc _)))
                _ (by intro u b; (try simp only [Act.put, List.setIfInBounds_toArray, List.set_cons_zero, List.set_cons_succ]); try rfl) (by intro u b; (try simp only [Act.put, List.setIfInBounds_toArray, List.set_cons_zero, List.set_cons_succ]); try rfl) (by intro u b; (try simp only [Act.put, List.setIfInBounds_toArray, List.set_cons_zero, List.set_cons_succ]); try rfl)
                (by rintro u b z1 ⟨ao, cap, B, rfl, h1, h2, h3⟩ ⟨g9, rfl, hb9⟩ kk K hK; exact wp_appB (.tmp 92) (.tmp 93) rfl rfl B _ PT [1, 2, 3] _ 3 3 h3 hb9 (by rw [hPl]; simp; omega) h2 (by (try simp only [Act.put, List.setIfInBounds_toArray, List.set_cons_zero, List.set_cons_succ]); try rfl) (by (try simp only [Act.put, List.setIfInBounds_toArray, List.set_cons_zero, List.set_cons_succ]); try rfl) (fun ao' cap' z2 o2 g2 => hK _ z2 (rd_owns o2 (unhide HPb) (by rw [hL3]; omega)) (kk.grown g2 (by intro k hk; right; exact Nat.le_trans h1 (h3.lt k hk).1))))
                (by rintro u b r z1 hr kk K hK; exact wp_sum256 (.tmp 94) _ rfl r (PT ++ [1, 2, 3]) (by (try simp only [Act.put, List.setIfInBounds_toArray, List.set_cons_zero, List.set_cons_succ]); try rfl) hr (by rw [hL3]; omega) (unhide HR9 z1 kk) (fun z2 kz => hK z2 (kk.trans kz (by simp))))
                (by intro u b r; exact Or.inl ⟨by rfl, fun W' _ => run_neq 25 (.tmp 88) (.tmp 95) 25 rfl (brow (hash (PT ++ [1, 2, 3]))) (brow (hash (PT ++ [1, 2, 3]))) (by (try simp only [Act.put, List.setIfInBounds_toArray, List.set_cons_zero, List.set_cons_succ]); try rfl) (by (try simp only [Act.put, List.setIfInBounds_toArray, List.set_cons_zero, List.set_cons_succ]); try rfl) W' true (by kernel_rfl) (by rw [row_eq W' _ _ (hash_len _) (hash_len _), decide_eq_true rfl])⟩)
                ?_
              intro u b r w8 k8
              have HS8 := hide ((unhide HS7).kept k8 (by simp))
              have HK8 := hide ((unhide HK7).trans k8 (by simp))
              clear k8
              simp only [Act.put, List.setIfInBounds_toArray, List.set_cons_zero, List.set_cons_succ]
              go_wp2
              refine ⟨⟨_, i + 1, hmp, by omega, rfl, by go_num, hide (by rw [unhide HPT]; exact unhide HS8), HK8⟩, ?_⟩
              simp [intOf]; omega
            · have hP5 : ((x : Int) % 3 == 1) = false := by rw [beq_eq_false_iff_ne]; omega
              go_wp2
              refine ⟨⟨_, i + 1, hmp, by omega, rfl, by go_num, hide (by rw [unhide HPT]; exact unhide HS5), HK5⟩, ?_⟩
              simp [intOf]; omega
      · have hvJ : (p.length : Int) < (a : Int) + x := by omega
        subst hv2'
        by_cases hcs : vc = a
        · subst hcs
          have HRs2 := hide (unhide HRs0 (Eq.refl vc))
          clear HRs0
          go_wp2_with fail
          refine Calls.mono (write_any g _ _ Q wr (unhide HS) (unhide HRs2) (unhide HB0) hg2 (by rw [unhide HQl]; simp; omega) ((unhide HT).k (unhide HK))) ?_
          rintro e w4 ⟨rfl, s4, k4⟩
          rw [unhide HQt] at s4
          have HS4 := hide s4
          have HK4 := hide ((unhide HK).trans k4 (by have := unhide Hge; simp; omega))
          clear s4 k4
          have cs4 := unhide HC _ (unhide HK4)
          go_wp2_with fail
          have hne : ∀ p : Prop, (∀ w', Kept [] w4 w' → p) = p := fun p => propext ⟨fun h => h w4 (Kept.refl [] w4), fun h _ _ => h⟩
          have HRt := hide ((unhide H).old (unhide HK4) (by simp))
          have HRt2 := hide (by have h9 := Rd.take (unhide HRt) hmp; rw [unhide HPT] at h9; exact h9)
          have HSA := hide (fun w' (hw' : Kept [] w4 w') => (ssum_any g PT w' ((unhide HS4).kept hw' (by simp)) (by rw [unhide HPl]; omega) ((unhide HT).k ((unhide HK4).trans hw' (by simp)))).mono (fun e w2 (h2 : _ ∧ _) => (⟨h2.1, hw'.trans h2.2 (by simp)⟩ : _ ∧ Kept [] w4 w2)))
          have HRA := hide (fun w' (hw' : Kept [] w4 w') => (sum256_any _ PT w' ((unhide HRt2).old hw' (by simp)) (by rw [unhide HPl]; omega) ((unhide HT).k ((unhide HK4).trans hw' (by simp)))).mono (fun e w2 (h2 : _ ∧ _) => (⟨h2.1, hw'.trans h2.2 (by simp)⟩ : _ ∧ Kept [] w4 w2)))
          have HCC := hide (fun w' (hw' : Kept [] w4 w') => hw'.cell cs4 (by simp))
          refine wp_region_keep (by kernel_rfl) (by kernel_rfl) ?_
          go_big_quiet_step (fail)
          go_big_quiet_step (fail)
          go_big_quiet_step (fail)
          refine wpQuiet_val rfl (.int .u8 (x : Int)) (fun w' hw' => run_load1 5 (.tmp 63) rfl ⟨b, o + i, none⟩ rfl w' _ .u8 Tryd.underlying5 (unhide HCC w' hw')) ?_
          simp only [Act.put, List.setIfInBounds_toArray, List.set_cons_succ, List.set_cons_zero]
          by_cases hP2 : x % 2 = 1
          · have hP3 : ((x : Int) % 2 == 1) = true := by rw [beq_iff_eq]; omega
            go_big_quiet_step (fail)
            go_big_quiet_step (fail)
            go_big_quiet_step (fail)
            go_big_quiet_step (fail)
            go_big_quiet_want
            go_big_quiet_op
            apply Exists.intro
            refine ⟨fun w' hw' => ?_, ?_⟩
            · exact unhide HSA w' hw'
            go_big_quiet_on
            go_big_quiet_step (fail)
            go_big_quiet_step (fail)
            go_big_quiet_step (fail)
            go_big_quiet_want
            go_big_quiet_op
            apply Exists.intro
            refine ⟨fun w' hw' => ?_, ?_⟩
            · exact unhide HRA w' hw'
            go_big_quiet_on
            refine wpQuiet_val rfl (.bool (!true)) (fun w' _ => run_neq 25 (.tmp 69) (.tmp 73) 25 rfl (brow (hash PT)) (brow (hash PT)) rfl rfl w' true (by kernel_rfl) (by rw [row_eq w' _ _ (hash_len _) (hash_len _), decide_eq_true rfl])) ?_
            simp only [Act.put, List.setIfInBounds_toArray, List.set_cons_succ, List.set_cons_zero, Bool.not_true]
            repeat (go_big_quiet_step (fail))
            refine wpQuiet_nil ?_
            intro w5 hw5
            have HS5 := hide ((unhide HS4).kept hw5 (by simp))
            have HK5 := hide ((unhide HK4).trans hw5 (by simp))
            have cs5 := hw5.cell cs4 (by simp)
            clear hw5 hne
            by_cases hP6 : x % 3 = 1
            · have hP5 : ((x : Int) % 3 == 1) = true := by rw [beq_iff_eq]; omega
              go_wp2_with fail
              refine Calls.mono (scopy_any g PT w5 (unhide HS5)) ?_
              rintro e w6 ⟨rfl, s6, k6⟩
              have HC6 := hide s6
              have HS6 := hide ((unhide HS5).kept k6 (by simp))
              have HK6 := hide ((unhide HK5).trans k6 (by simp))
              have hsz5 := (unhide HK5).size
              have hlt5 := (unhide HS5).lt
              clear s6 k6
              have hltc := (unhide HC6).lt
              obtain ⟨gc, hgc⟩ : ∃ gc, w5.heap.size = gc := ⟨_, rfl⟩
              rw [hgc] at HC6 hltc hlt5 hsz5
              go_wp2_with fail
              refine Calls.mono (write_any gc _ _ [1, 2, 3] _ ((unhide HC6).kept ((Kept.refl [] w6).alloc _) (by simp)) (rd_lit (heap_alloc_new _ _) rfl (by decide) 3 rfl (by decide)) (by intro _; simp [blk]; omega) (by omega) (by rw [unhide HPl]; simp; omega) ((unhide HT).kept ((unhide HK6).alloc _) (by simp) (by simp))) ?_
              rintro e w7 ⟨rfl, s7, k7⟩
              have HC7 := hide s7
              have HS7 := hide (((unhide HS6).kept ((Kept.refl [] w6).alloc _) (by simp)).kept k7 (by simp; omega))
              have HK7 := hide (((unhide HK6).alloc _).trans k7 (by simp; omega))
              clear s7 k7
              go_wp2_with fail
              have HRt7 := hide (by have h9 := Rd.take ((unhide H).old (unhide HK7) (by simp)) hmp; rw [unhide HPT] at h9; exact h9)
              have HPb := hide (fun x hx => by rcases List.mem_append.1 hx with h | h; rw [← unhide HPT] at h; exact (unhide H).byte x (List.mem_of_mem_take h); simp at h; omega : ∀ x ∈ PT ++ [1, 2, 3], x < 256)
              have hPl := unhide HPl
              have hL3 : (PT ++ [1, 2, 3]).length = p.length + 3 := by rw [List.length_append, hPl]; rfl
              have HT7 := hide ((unhide HT).k (unhide HK7))
              have HR9 := hide (fun (W' : World) (kk : Kept [] w7 W') => (unhide HT7).k kk)
              refine wp_sapp10 (by kernel_rfl) (by kernel_rfl) (by kernel_rfl) (by kernel_rfl) (by kernel_rfl) (by kernel_rfl) (by kernel_rfl) (by kernel_rfl) (by kernel_rfl) (by kernel_rfl) (by kernel_rfl) (by kernel_rfl) (by kernel_rfl) (by kernel_rfl) (by kernel_rfl) (by kernel_rfl) (by kernel_rfl) (by kernel_rfl) (by kernel_rfl) (by kernel_rfl) rfl rfl rfl rfl rfl (.pointer (some ⟨gc, 0, none⟩)) (.slice va p.length vc) (.int .i64 (p.length : Int)) (.slice va p.length vc)
                _ _ _ _ (by (try simp only [Act.put, List.setIfInBounds_toArray, List.set_cons_zero, List.set_cons_succ]); try rfl) (by (try simp only [Act.put, List.setIfInBounds_toArray, List.set_cons_zero, List.set_cons_succ]); try rfl) (by (try simp only [Act.put, List.setIfInBounds_toArray, List.set_cons_zero, List.set_cons_succ]); try rfl) (by (try simp only [Act.put, List.setIfInBounds_toArray, List.set_cons_zero, List.set_cons_succ]); try rfl)
                (by exact Or.inl ⟨by rfl, fun W' hW' => by go_simp⟩) (by exact Or.inl ⟨by rfl, fun W' hW' => by go_simp⟩) (by exact Or.inl ⟨by rfl, fun W' hW' => by go_simp⟩) (by exact Or.inl ⟨by rfl, fun W' hW' => by go_simp⟩)
                (.agg (brow (hash (PT ++ [1, 2, 3])))) (.bool false)
                (fun u w' => ∃ ao cap B, u = .slice ao PT.length cap ∧ w7.heap.size ≤ B ∧ B ≤ w'.heap.size ∧ w'.ownsRow B 5 1 u PT.length (PT.map Go.Proofs.YtjiijfcfapfmeaaDoor.u8))
                (fun b w' => ∃ g9, b = .slice (some ⟨g9, 0, none⟩) 3 3 ∧ Rd w' b [1, 2, 3]) (fun r w' => Rd w' r (PT ++ [1, 2, 3]))
                (by rintro u z1 z2 ⟨ao, cap, B, e, h1, h2, h3⟩ kk; exact ⟨ao, cap, B, e, h1, Nat.le_trans h2 kk.size, kk.owns h3 (by simp)⟩)
                (by rintro u z1 z2 ⟨g9, e, h1⟩ kk; exact ⟨g9, e, h1.old kk (by simp)⟩)
                (fun X => X.eval (.tmp 87) = .pointer (some ⟨gc, 0, none⟩)) (fun X => X.eval (.tmp 91) = .slice va p.length vc)
                (by (try simp only [Act.put, List.setIfInBounds_toArray, List.set_cons_zero, List.set_cons_succ]); try rfl) (by intro b; (try simp only [Act.put, List.setIfInBounds_toArray, List.set_cons_zero, List.set_cons_succ]); try rfl) (by (try simp only [Act.put, List.setIfInBounds_toArray, List.set_cons_zero, List.set_cons_succ]); try rfl) (by intro b; (try simp only [Act.put, List.setIfInBounds_toArray, List.set_cons_zero, List.set_cons_succ]); try rfl) (by intro b; (try simp only [Act.put, List.setIfInBounds_toArray, List.set_cons_zero, List.set_cons_succ]); try rfl)
                (by intro X z1 hX kk K hK; exact wp_ssum (.tmp 87) _ rfl gc (PT ++ [1, 2, 3]) hX ((unhide HC7).kept kk (by simp)) (by rw [hL3]; omega) (unhide HR9 z1 kk) hK)
                (by intro X z1 hX kk K hK; refine wp_ttwin (.tmp 91) _ rfl _ PT hX ((unhide HRt7).old kk (by simp)) (by rw [hPl]; omega) (fun u z2 hu kz => ?_); obtain ⟨ao, cap, B, e, h1, h2, h3⟩ := hu; exact hK u z2 ⟨ao, cap, B, e, Nat.le_trans kk.size h1, h2, h3⟩ kz)
                (by intro X z1 kk K hK; exact wp_build3 rfl (hK _ _ ⟨_, rfl, rd_lit (heap_alloc_new _ _) rfl (by decide) 3 rfl (by decide)⟩ ((Kept.refl [] z1).alloc _)))
                _ (by intro u b; (try simp only [Act.put, List.setIfInBounds_toArray, List.set_cons_zero, List.set_cons_succ]); try rfl) (by intro u b; (try simp only [Act.put, List.setIfInBounds_toArray, List.set_cons_zero, List.set_cons_succ]); try rfl) (by intro u b; (try simp only [Act.put, List.setIfInBounds_toArray, List.set_cons_zero, List.set_cons_succ]); try rfl)
                (by rintro u b z1 ⟨ao, cap, B, rfl, h1, h2, h3⟩ ⟨g9, rfl, hb9⟩ kk K hK; exact wp_appB (.tmp 92) (.tmp 93) rfl rfl B _ PT [1, 2, 3] _ 3 3 h3 hb9 (by rw [hPl]; simp; omega) h2 (by (try simp only [Act.put, List.setIfInBounds_toArray, List.set_cons_zero, List.set_cons_succ]); try rfl) (by (try simp only [Act.put, List.setIfInBounds_toArray, List.set_cons_zero, List.set_cons_succ]); try rfl) (fun ao' cap' z2 o2 g2 => hK _ z2 (rd_owns o2 (unhide HPb) (by rw [hL3]; omega)) (kk.grown g2 (by intro k hk; right; exact Nat.le_trans h1 (h3.lt k hk).1))))
                (by rintro u b r z1 hr kk K hK; exact wp_sum256 (.tmp 94) _ rfl r (PT ++ [1, 2, 3]) (by (try simp only [Act.put, List.setIfInBounds_toArray, List.set_cons_zero, List.set_cons_succ]); try rfl) hr (by rw [hL3]; omega) (unhide HR9 z1 kk) (fun z2 kz => hK z2 (kk.trans kz (by simp))))
                (by intro u b r; exact Or.inl ⟨by rfl, fun W' _ => run_neq 25 (.tmp 88) (.tmp 95) 25 rfl (brow (hash (PT ++ [1, 2, 3]))) (brow (hash (PT ++ [1, 2, 3]))) (by (try simp only [Act.put, List.setIfInBounds_toArray, List.set_cons_zero, List.set_cons_succ]); try rfl) (by (try simp only [Act.put, List.setIfInBounds_toArray, List.set_cons_zero, List.set_cons_succ]); try rfl) W' true (by kernel_rfl) (by rw [row_eq W' _ _ (hash_len _) (hash_len _), decide_eq_true rfl])⟩)
                ?_
              intro u b r w8 k8
              have HS8 := hide ((unhide HS7).kept k8 (by simp))
              have HK8 := hide ((unhide HK7).trans k8 (by simp))
              clear k8
              simp only [Act.put, List.setIfInBounds_toArray, List.set_cons_zero, List.set_cons_succ]
              go_wp2
              refine ⟨⟨_, i + 1, hmp, by omega, rfl, by go_num, hide (by rw [unhide HPT]; exact unhide HS8), HK8⟩, ?_⟩
              simp [intOf]; omega
            · have hP5 : ((x : Int) % 3 == 1) = false := by rw [beq_eq_false_iff_ne]; omega
              go_wp2
              refine ⟨⟨_, i + 1, hmp, by omega, rfl, by go_num, hide (by rw [unhide HPT]; exact unhide HS5), HK5⟩, ?_⟩
              simp [intOf]; omega
          · have hP3 : ((x : Int) % 2 == 1) = false := by rw [beq_eq_false_iff_ne]; omega
            repeat (go_big_quiet_step (fail))
            refine wpQuiet_nil ?_
            intro w5 hw5
            have HS5 := hide ((unhide HS4).kept hw5 (by simp))
            have HK5 := hide ((unhide HK4).trans hw5 (by simp))
            have cs5 := hw5.cell cs4 (by simp)
            clear hw5 hne
            by_cases hP6 : x % 3 = 1
            · have hP5 : ((x : Int) % 3 == 1) = true := by rw [beq_iff_eq]; omega
              go_wp2_with fail
              refine Calls.mono (scopy_any g PT w5 (unhide HS5)) ?_
              rintro e w6 ⟨rfl, s6, k6⟩
              have HC6 := hide s6
              have HS6 := hide ((unhide HS5).kept k6 (by simp))
              have HK6 := hide ((unhide HK5).trans k6 (by simp))
              have hsz5 := (unhide HK5).size
              have hlt5 := (unhide HS5).lt
              clear s6 k6
              have hltc := (unhide HC6).lt
              obtain ⟨gc, hgc⟩ : ∃ gc, w5.heap.size = gc := ⟨_, rfl⟩
              rw [hgc] at HC6 hltc hlt5 hsz5
              go_wp2_with fail
              refine Calls.mono (write_any gc _ _ [1, 2, 3] _ ((unhide HC6).kept ((Kept.refl [] w6).alloc _) (by simp)) (rd_lit (heap_alloc_new _ _) rfl (by decide) 3 rfl (by decide)) (by intro _; simp [blk]; omega) (by omega) (by rw [unhide HPl]; simp; omega) ((unhide HT).kept ((unhide HK6).alloc _) (by simp) (by simp))) ?_
              rintro e w7 ⟨rfl, s7, k7⟩
              have HC7 := hide s7
              have HS7 := hide (((unhide HS6).kept ((Kept.refl [] w6).alloc _) (by simp)).kept k7 (by simp; omega))
              have HK7 := hide (((unhide HK6).alloc _).trans k7 (by simp; omega))
              clear s7 k7
              go_wp2_with fail
              have HRt7 := hide (by have h9 := Rd.take ((unhide H).old (unhide HK7) (by simp)) hmp; rw [unhide HPT] at h9; exact h9)
              have HPb := hide (fun x hx => by rcases List.mem_append.1 hx with h | h; rw [← unhide HPT] at h; exact (unhide H).byte x (List.mem_of_mem_take h); simp at h; omega : ∀ x ∈ PT ++ [1, 2, 3], x < 256)
              have hPl := unhide HPl
              have hL3 : (PT ++ [1, 2, 3]).length = p.length + 3 := by rw [List.length_append, hPl]; rfl
              have HT7 := hide ((unhide HT).k (unhide HK7))
              have HR9 := hide (fun (W' : World) (kk : Kept [] w7 W') => (unhide HT7).k kk)
              refine wp_sapp10 (by kernel_rfl) (by kernel_rfl) (by kernel_rfl) (by kernel_rfl) (by kernel_rfl) (by kernel_rfl) (by kernel_rfl) (by kernel_rfl) (by kernel_rfl) (by kernel_rfl) (by kernel_rfl) (by kernel_rfl) (by kernel_rfl) (by kernel_rfl) (by kernel_rfl) (by kernel_rfl) (by kernel_rfl) (by kernel_rfl) (by kernel_rfl) (by kernel_rfl) rfl rfl rfl rfl rfl (.pointer (some ⟨gc, 0, none⟩)) (.slice va p.length vc) (.int .i64 (p.length : Int)) (.slice va p.length vc)
                _ _ _ _ (by (try simp only [Act.put, List.setIfInBounds_toArray, List.set_cons_zero, List.set_cons_succ]); try rfl) (by (try simp only [Act.put, List.setIfInBounds_toArray, List.set_cons_zero, List.set_cons_succ]); try rfl) (by (try simp only [Act.put, List.setIfInBounds_toArray, List.set_cons_zero, List.set_cons_succ]); try rfl) (by (try simp only [Act.put, List.setIfInBounds_toArray, List.set_cons_zero, List.set_cons_succ]); try rfl)
                (by exact Or.inl ⟨by rfl, fun W' hW' => by go_simp⟩) (by exact Or.inl ⟨by rfl, fun W' hW' => by go_simp⟩) (by exact Or.inl ⟨by rfl, fun W' hW' => by go_simp⟩) (by exact Or.inl ⟨by rfl, fun W' hW' => by go_simp⟩)
                (.agg (brow (hash (PT ++ [1, 2, 3])))) (.bool false)
                (fun u w' => ∃ ao cap B, u = .slice ao PT.length cap ∧ w7.heap.size ≤ B ∧ B ≤ w'.heap.size ∧ w'.ownsRow B 5 1 u PT.length (PT.map Go.Proofs.YtjiijfcfapfmeaaDoor.u8))
                (fun b w' => ∃ g9, b = .slice (some ⟨g9, 0, none⟩) 3 3 ∧ Rd w' b [1, 2, 3]) (fun r w' => Rd w' r (PT ++ [1, 2, 3]))
                (by rintro u z1 z2 ⟨ao, cap, B, e, h1, h2, h3⟩ kk; exact ⟨ao, cap, B, e, h1, Nat.le_trans h2 kk.size, kk.owns h3 (by simp)⟩)
                (by rintro u z1 z2 ⟨g9, e, h1⟩ kk; exact ⟨g9, e, h1.old kk (by simp)⟩)
                (fun X => X.eval (.tmp 87) = .pointer (some ⟨gc, 0, none⟩)) (fun X => X.eval (.tmp 91) = .slice va p.length vc)
                (by (try simp only [Act.put, List.setIfInBounds_toArray, List.set_cons_zero, List.set_cons_succ]); try rfl) (by intro b; (try simp only [Act.put, List.setIfInBounds_toArray, List.set_cons_zero, List.set_cons_succ]); try rfl) (by (try simp only [Act.put, List.setIfInBounds_toArray, List.set_cons_zero, List.set_cons_succ]); try rfl) (by intro b; (try simp only [Act.put, List.setIfInBounds_toArray, List.set_cons_zero, List.set_cons_succ]); try rfl) (by intro b; (try simp only [Act.put, List.setIfInBounds_toArray, List.set_cons_zero, List.set_cons_succ]); try rfl)
                (by intro X z1 hX kk K hK; exact wp_ssum (.tmp 87) _ rfl gc (PT ++ [1, 2, 3]) hX ((unhide HC7).kept kk (by simp)) (by rw [hL3]; omega) (unhide HR9 z1 kk) hK)
                (by intro X z1 hX kk K hK; refine wp_ttwin (.tmp 91) _ rfl _ PT hX ((unhide HRt7).old kk (by simp)) (by rw [hPl]; omega) (fun u z2 hu kz => ?_); obtain ⟨ao, cap, B, e, h1, h2, h3⟩ := hu; exact hK u z2 ⟨ao, cap, B, e, Nat.le_trans kk.size h1, h2, h3⟩ kz)
                (by intro X z1 kk K hK; exact wp_build3 rfl (hK _ _ ⟨_, rfl, rd_lit (heap_alloc_new _ _) rfl (by decide) 3 rfl (by decide)⟩ ((Kept.refl [] z1).alloc _)))
                _ (by intro u b; (try simp only [Act.put, List.setIfInBounds_toArray, List.set_cons_zero, List.set_cons_succ]); try rfl) (by intro u b; (try simp only [Act.put, List.setIfInBounds_toArray, List.set_cons_zero, List.set_cons_succ]); try rfl) (by intro u b; (try simp only [Act.put, List.setIfInBounds_toArray, List.set_cons_zero, List.set_cons_succ]); try rfl)
                (by rintro u b z1 ⟨ao, cap, B, rfl, h1, h2, h3⟩ ⟨g9, rfl, hb9⟩ kk K hK; exact wp_appB (.tmp 92) (.tmp 93) rfl rfl B _ PT [1, 2, 3] _ 3 3 h3 hb9 (by rw [hPl]; simp; omega) h2 (by (try simp only [Act.put, List.setIfInBounds_toArray, List.set_cons_zero, List.set_cons_succ]); try rfl) (by (try simp only [Act.put, List.setIfInBounds_toArray, List.set_cons_zero, List.set_cons_succ]); try rfl) (fun ao' cap' z2 o2 g2 => hK _ z2 (rd_owns o2 (unhide HPb) (by rw [hL3]; omega)) (kk.grown g2 (by intro k hk; right; exact Nat.le_trans h1 (h3.lt k hk).1))))
                (by rintro u b r z1 hr kk K hK; exact wp_sum256 (.tmp 94) _ rfl r (PT ++ [1, 2, 3]) (by (try simp only [Act.put, List.setIfInBounds_toArray, List.set_cons_zero, List.set_cons_succ]); try rfl) hr (by rw [hL3]; omega) (unhide HR9 z1 kk) (fun z2 kz => hK z2 (kk.trans kz (by simp))))
                (by intro u b r; exact Or.inl ⟨by rfl, fun W' _ => run_neq 25 (.tmp 88) (.tmp 95) 25 rfl (brow (hash (PT ++ [1, 2, 3]))) (brow (hash (PT ++ [1, 2, 3]))) (by (try simp only [Act.put, List.setIfInBounds_toArray, List.set_cons_zero, List.set_cons_succ]); try rfl) (by (try simp only [Act.put, List.setIfInBounds_toArray, List.set_cons_zero, List.set_cons_succ]); try rfl) W' true (by kernel_rfl) (by rw [row_eq W' _ _ (hash_len _) (hash_len _), decide_eq_true rfl])⟩)
                ?_
              intro u b r w8 k8
              have HS8 := hide ((unhide HS7).kept k8 (by simp))
              have HK8 := hide ((unhide HK7).trans k8 (by simp))
              clear k8
              simp only [Act.put, List.setIfInBounds_toArray, List.set_cons_zero, List.set_cons_succ]
              go_wp2
              refine ⟨⟨_, i + 1, hmp, by omega, rfl, by go_num, hide (by rw [unhide HPT]; exact unhide HS8), HK8⟩, ?_⟩
              simp [intOf]; omega
            · have hP5 : ((x : Int) % 3 == 1) = false := by rw [beq_eq_false_iff_ne]; omega
              go_wp2
              refine ⟨⟨_, i + 1, hmp, by omega, rfl, by go_num, hide (by rw [unhide HPT]; exact unhide HS5), HK5⟩, ?_⟩
              simp [intOf]; omega
        · clear HRs0
          go_wp2_with fail
          refine Calls.mono (write_any g _ _ Q wr (unhide HS) (unhide HRs1) (unhide HB1) hg2 (by rw [unhide HQl]; simp; omega) ((unhide HT).k (unhide HK))) ?_
          rintro e w4 ⟨rfl, s4, k4⟩
          rw [unhide HQt] at s4
          have HS4 := hide s4
          have HK4 := hide ((unhide HK).trans k4 (by have := unhide Hge; simp; omega))
          clear s4 k4
          have cs4 := unhide HC _ (unhide HK4)
          go_wp2_with fail
          have hne : ∀ p : Prop, (∀ w', Kept [] w4 w' → p) = p := fun p => propext ⟨fun h => h w4 (Kept.refl [] w4), fun h _ _ => h⟩
          have HRt := hide ((unhide H).old (unhide HK4) (by simp))
          have HRt2 := hide (by have h9 := Rd.take (unhide HRt) hmp; rw [unhide HPT] at h9; exact h9)
          have HSA := hide (fun w' (hw' : Kept [] w4 w') => (ssum_any g PT w' ((unhide HS4).kept hw' (by simp)) (by rw [unhide HPl]; omega) ((unhide HT).k ((unhide HK4).trans hw' (by simp)))).mono (fun e w2 (h2 : _ ∧ _) => (⟨h2.1, hw'.trans h2.2 (by simp)⟩ : _ ∧ Kept [] w4 w2)))
          have HRA := hide (fun w' (hw' : Kept [] w4 w') => (sum256_any _ PT w' ((unhide HRt2).old hw' (by simp)) (by rw [unhide HPl]; omega) ((unhide HT).k ((unhide HK4).trans hw' (by simp)))).mono (fun e w2 (h2 : _ ∧ _) => (⟨h2.1, hw'.trans h2.2 (by simp)⟩ : _ ∧ Kept [] w4 w2)))
          have HCC := hide (fun w' (hw' : Kept [] w4 w') => hw'.cell cs4 (by simp))
          refine wp_region_keep (by kernel_rfl) (by kernel_rfl) ?_
          go_big_quiet_step (fail)
          go_big_quiet_step (fail)
          go_big_quiet_step (fail)
          refine wpQuiet_val rfl (.int .u8 (x : Int)) (fun w' hw' => run_load1 5 (.tmp 63) rfl ⟨b, o + i, none⟩ rfl w' _ .u8 Tryd.underlying5 (unhide HCC w' hw')) ?_
          simp only [Act.put, List.setIfInBounds_toArray, List.set_cons_succ, List.set_cons_zero]
          by_cases hP2 : x % 2 = 1
          · have hP3 : ((x : Int) % 2 == 1) = true := by rw [beq_iff_eq]; omega
            go_big_quiet_step (fail)
            go_big_quiet_step (fail)
            go_big_quiet_step (fail)
            go_big_quiet_step (fail)
            go_big_quiet_want
            go_big_quiet_op
            apply Exists.intro
            refine ⟨fun w' hw' => ?_, ?_⟩
            · exact unhide HSA w' hw'
            go_big_quiet_on
            go_big_quiet_step (fail)
            go_big_quiet_step (fail)
            go_big_quiet_step (fail)
            go_big_quiet_want
            go_big_quiet_op
            apply Exists.intro
            refine ⟨fun w' hw' => ?_, ?_⟩
            · exact unhide HRA w' hw'
            go_big_quiet_on
            refine wpQuiet_val rfl (.bool (!true)) (fun w' _ => run_neq 25 (.tmp 69) (.tmp 73) 25 rfl (brow (hash PT)) (brow (hash PT)) rfl rfl w' true (by kernel_rfl) (by rw [row_eq w' _ _ (hash_len _) (hash_len _), decide_eq_true rfl])) ?_
            simp only [Act.put, List.setIfInBounds_toArray, List.set_cons_succ, List.set_cons_zero, Bool.not_true]
            repeat (go_big_quiet_step (fail))
            refine wpQuiet_nil ?_
            intro w5 hw5
            have HS5 := hide ((unhide HS4).kept hw5 (by simp))
            have HK5 := hide ((unhide HK4).trans hw5 (by simp))
            have cs5 := hw5.cell cs4 (by simp)
            clear hw5 hne
            by_cases hP6 : x % 3 = 1
            · have hP5 : ((x : Int) % 3 == 1) = true := by rw [beq_iff_eq]; omega
              go_wp2_with fail
              refine Calls.mono (scopy_any g PT w5 (unhide HS5)) ?_
              rintro e w6 ⟨rfl, s6, k6⟩
              have HC6 := hide s6
              have HS6 := hide ((unhide HS5).kept k6 (by simp))
              have HK6 := hide ((unhide HK5).trans k6 (by simp))
              have hsz5 := (unhide HK5).size
              have hlt5 := (unhide HS5).lt
              clear s6 k6
              have hltc := (unhide HC6).lt
              obtain ⟨gc, hgc⟩ : ∃ gc, w5.heap.size = gc := ⟨_, rfl⟩
              rw [hgc] at HC6 hltc hlt5 hsz5
              go_wp2_with fail
              refine Calls.mono (write_any gc _ _ [1, 2, 3] _ ((unhide HC6).kept ((Kept.refl [] w6).alloc _) (by simp)) (rd_lit (heap_alloc_new _ _) rfl (by decide) 3 rfl (by decide)) (by intro _; simp [blk]; omega) (by omega) (by rw [unhide HPl]; simp; omega) ((unhide HT).kept ((unhide HK6).alloc _) (by simp) (by simp))) ?_
              rintro e w7 ⟨rfl, s7, k7⟩
              have HC7 := hide s7
              have HS7 := hide (((unhide HS6).kept ((Kept.refl [] w6).alloc _) (by simp)).kept k7 (by simp; omega))
              have HK7 := hide (((unhide HK6).alloc _).trans k7 (by simp; omega))
              clear s7 k7
              go_wp2_with fail
              have HRt7 := hide (by have h9 := Rd.take ((unhide H).old (unhide HK7) (by simp)) hmp; rw [unhide HPT] at h9; exact h9)
              have HPb := hide (fun x hx => by rcases List.mem_append.1 hx with h | h; rw [← unhide HPT] at h; exact (unhide H).byte x (List.mem_of_mem_take h); simp at h; omega : ∀ x ∈ PT ++ [1, 2, 3], x < 256)
              have hPl := unhide HPl
              have hL3 : (PT ++ [1, 2, 3]).length = p.length + 3 := by rw [List.length_append, hPl]; rfl
              have HT7 := hide ((unhide HT).k (unhide HK7))
              have HR9 := hide (fun (W' : World) (kk : Kept [] w7 W') => (unhide HT7).k kk)
              refine wp_sapp10 (by kernel_rfl) (by kernel_rfl) (by kernel_rfl) (by kernel_rfl) (by kernel_rfl) (by kernel_rfl) (by kernel_rfl) (by kernel_rfl) (by kernel_rfl) (by kernel_rfl) (by kernel_rfl) (by kernel_rfl) (by kernel_rfl) (by kernel_rfl) (by kernel_rfl) (by kernel_rfl) (by kernel_rfl) (by kernel_rfl) (by kernel_rfl) (by kernel_rfl) rfl rfl rfl rfl rfl (.pointer (some ⟨gc, 0, none⟩)) (.slice va p.length vc) (.int .i64 (p.length : Int)) (.slice va p.length vc)
                _ _ _ _ (by (try simp only [Act.put, List.setIfInBounds_toArray, List.set_cons_zero, List.set_cons_succ]); try rfl) (by (try simp only [Act.put, List.setIfInBounds_toArray, List.set_cons_zero, List.set_cons_succ]); try rfl) (by (try simp only [Act.put, List.setIfInBounds_toArray, List.set_cons_zero, List.set_cons_succ]); try rfl) (by (try simp only [Act.put, List.setIfInBounds_toArray, List.set_cons_zero, List.set_cons_succ]); try rfl)
                (by exact Or.inl ⟨by rfl, fun W' hW' => by go_simp⟩) (by exact Or.inl ⟨by rfl, fun W' hW' => by go_simp⟩) (by exact Or.inl ⟨by rfl, fun W' hW' => by go_simp⟩) (by exact Or.inl ⟨by rfl, fun W' hW' => by go_simp⟩)
                (.agg (brow (hash (PT ++ [1, 2, 3])))) (.bool false)
                (fun u w' => ∃ ao cap B, u = .slice ao PT.length cap ∧ w7.heap.size ≤ B ∧ B ≤ w'.heap.size ∧ w'.ownsRow B 5 1 u PT.length (PT.map Go.Proofs.YtjiijfcfapfmeaaDoor.u8))
                (fun b w' => ∃ g9, b = .slice (some ⟨g9, 0, none⟩) 3 3 ∧ Rd w' b [1, 2, 3]) (fun r w' => Rd w' r (PT ++ [1, 2, 3]))
                (by rintro u z1 z2 ⟨ao, cap, B, e, h1, h2, h3⟩ kk; exact ⟨ao, cap, B, e, h1, Nat.le_trans h2 kk.size, kk.owns h3 (by simp)⟩)
                (by rintro u z1 z2 ⟨g9, e, h1⟩ kk; exact ⟨g9, e, h1.old kk (by simp)⟩)
                (fun X => X.eval (.tmp 87) = .pointer (some ⟨gc, 0, none⟩)) (fun X => X.eval (.tmp 91) = .slice va p.length vc)
                (by (try simp only [Act.put, List.setIfInBounds_toArray, List.set_cons_zero, List.set_cons_succ]); try rfl) (by intro b; (try simp only [Act.put, List.setIfInBounds_toArray, List.set_cons_zero, List.set_cons_succ]); try rfl) (by (try simp only [Act.put, List.setIfInBounds_toArray, List.set_cons_zero, List.set_cons_succ]); try rfl) (by intro b; (try simp only [Act.put, List.setIfInBounds_toArray, List.set_cons_zero, List.set_cons_succ]); try rfl) (by intro b; (try simp only [Act.put, List.setIfInBounds_toArray, List.set_cons_zero, List.set_cons_succ]); try rfl)
                (by intro X z1 hX kk K hK; exact wp_ssum (.tmp 87) _ rfl gc (PT ++ [1, 2, 3]) hX ((unhide HC7).kept kk (by simp)) (by rw [hL3]; omega) (unhide HR9 z1 kk) hK)
                (by intro X z1 hX kk K hK; refine wp_ttwin (.tmp 91) _ rfl _ PT hX ((unhide HRt7).old kk (by simp)) (by rw [hPl]; omega) (fun u z2 hu kz => ?_); obtain ⟨ao, cap, B, e, h1, h2, h3⟩ := hu; exact hK u z2 ⟨ao, cap, B, e, Nat.le_trans kk.size h1, h2, h3⟩ kz)
                (by intro X z1 kk K hK; exact wp_build3 rfl (hK _ _ ⟨_, rfl, rd_lit (heap_alloc_new _ _) rfl (by decide) 3 rfl (by decide)⟩ ((Kept.refl [] z1).alloc _)))
                _ (by intro u b; (try simp only [Act.put, List.setIfInBounds_toArray, List.set_cons_zero, List.set_cons_succ]); try rfl) (by intro u b; (try simp only [Act.put, List.setIfInBounds_toArray, List.set_cons_zero, List.set_cons_succ]); try rfl) (by intro u b; (try simp only [Act.put, List.setIfInBounds_toArray, List.set_cons_zero, List.set_cons_succ]); try rfl)
                (by rintro u b z1 ⟨ao, cap, B, rfl, h1, h2, h3⟩ ⟨g9, rfl, hb9⟩ kk K hK; exact wp_appB (.tmp 92) (.tmp 93) rfl rfl B _ PT [1, 2, 3] _ 3 3 h3 hb9 (by rw [hPl]; simp; omega) h2 (by (try simp only [Act.put, List.setIfInBounds_toArray, List.set_cons_zero, List.set_cons_succ]); try rfl) (by (try simp only [Act.put, List.setIfInBounds_toArray, List.set_cons_zero, List.set_cons_succ]); try rfl) (fun ao' cap' z2 o2 g2 => hK _ z2 (rd_owns o2 (unhide HPb) (by rw [hL3]; omega)) (kk.grown g2 (by intro k hk; right; exact Nat.le_trans h1 (h3.lt k hk).1))))
                (by rintro u b r z1 hr kk K hK; exact wp_sum256 (.tmp 94) _ rfl r (PT ++ [1, 2, 3]) (by (try simp only [Act.put, List.setIfInBounds_toArray, List.set_cons_zero, List.set_cons_succ]); try rfl) hr (by rw [hL3]; omega) (unhide HR9 z1 kk) (fun z2 kz => hK z2 (kk.trans kz (by simp))))
                (by intro u b r; exact Or.inl ⟨by rfl, fun W' _ => run_neq 25 (.tmp 88) (.tmp 95) 25 rfl (brow (hash (PT ++ [1, 2, 3]))) (brow (hash (PT ++ [1, 2, 3]))) (by (try simp only [Act.put, List.setIfInBounds_toArray, List.set_cons_zero, List.set_cons_succ]); try rfl) (by (try simp only [Act.put, List.setIfInBounds_toArray, List.set_cons_zero, List.set_cons_succ]); try rfl) W' true (by kernel_rfl) (by rw [row_eq W' _ _ (hash_len _) (hash_len _), decide_eq_true rfl])⟩)
                ?_
              intro u b r w8 k8
              have HS8 := hide ((unhide HS7).kept k8 (by simp))
              have HK8 := hide ((unhide HK7).trans k8 (by simp))
              clear k8
              simp only [Act.put, List.setIfInBounds_toArray, List.set_cons_zero, List.set_cons_succ]
              go_wp2
              refine ⟨⟨_, i + 1, hmp, by omega, rfl, by go_num, hide (by rw [unhide HPT]; exact unhide HS8), HK8⟩, ?_⟩
              simp [intOf]; omega
            · have hP5 : ((x : Int) % 3 == 1) = false := by rw [beq_eq_false_iff_ne]; omega
              go_wp2
              refine ⟨⟨_, i + 1, hmp, by omega, rfl, by go_num, hide (by rw [unhide HPT]; exact unhide HS5), HK5⟩, ?_⟩
              simp [intOf]; omega
          · have hP3 : ((x : Int) % 2 == 1) = false := by rw [beq_eq_false_iff_ne]; omega
            repeat (go_big_quiet_step (fail))
            refine wpQuiet_nil ?_
            intro w5 hw5
            have HS5 := hide ((unhide HS4).kept hw5 (by simp))
            have HK5 := hide ((unhide HK4).trans hw5 (by simp))
            have cs5 := hw5.cell cs4 (by simp)
            clear hw5 hne
            by_cases hP6 : x % 3 = 1
            · have hP5 : ((x : Int) % 3 == 1) = true := by rw [beq_iff_eq]; omega
              go_wp2_with fail
              refine Calls.mono (scopy_any g PT w5 (unhide HS5)) ?_
              rintro e w6 ⟨rfl, s6, k6⟩
              have HC6 := hide s6
              have HS6 := hide ((unhide HS5).kept k6 (by simp))
              have HK6 := hide ((unhide HK5).trans k6 (by simp))
              have hsz5 := (unhide HK5).size
              have hlt5 := (unhide HS5).lt
              clear s6 k6
              have hltc := (unhide HC6).lt
              obtain ⟨gc, hgc⟩ : ∃ gc, w5.heap.size = gc := ⟨_, rfl⟩
              rw [hgc] at HC6 hltc hlt5 hsz5
              go_wp2_with fail
              refine Calls.mono (write_any gc _ _ [1, 2, 3] _ ((unhide HC6).kept ((Kept.refl [] w6).alloc _) (by simp)) (rd_lit (heap_alloc_new _ _) rfl (by decide) 3 rfl (by decide)) (by intro _; simp [blk]; omega) (by omega) (by rw [unhide HPl]; simp; omega) ((unhide HT).kept ((unhide HK6).alloc _) (by simp) (by simp))) ?_
              rintro e w7 ⟨rfl, s7, k7⟩
              have HC7 := hide s7
              have HS7 := hide (((unhide HS6).kept ((Kept.refl [] w6).alloc _) (by simp)).kept k7 (by simp; omega))
              have HK7 := hide (((unhide HK6).alloc _).trans k7 (by simp; omega))
              clear s7 k7
              go_wp2_with fail
              have HRt7 := hide (by have h9 := Rd.take ((unhide H).old (unhide HK7) (by simp)) hmp; rw [unhide HPT] at h9; exact h9)
              have HPb := hide (fun x hx => by rcases List.mem_append.1 hx with h | h; rw [← unhide HPT] at h; exact (unhide H).byte x (List.mem_of_mem_take h); simp at h; omega : ∀ x ∈ PT ++ [1, 2, 3], x < 256)
              have hPl := unhide HPl
              have hL3 : (PT ++ [1, 2, 3]).length = p.length + 3 := by rw [List.length_append, hPl]; rfl
              have HT7 := hide ((unhide HT).k (unhide HK7))
              have HR9 := hide (fun (W' : World) (kk : Kept [] w7 W') => (unhide HT7).k kk)
              refine wp_sapp10 (by kernel_rfl) (by kernel_rfl) (by kernel_rfl) (by kernel_rfl) (by kernel_rfl) (by kernel_rfl) (by kernel_rfl) (by kernel_rfl) (by kernel_rfl) (by kernel_rfl) (by kernel_rfl) (by kernel_rfl) (by kernel_rfl) (by kernel_rfl) (by kernel_rfl) (by kernel_rfl) (by kernel_rfl) (by kernel_rfl) (by kernel_rfl) (by kernel_rfl) rfl rfl rfl rfl rfl (.pointer (some ⟨gc, 0, none⟩)) (.slice va p.length vc) (.int .i64 (p.length : Int)) (.slice va p.length vc)
                _ _ _ _ (by (try simp only [Act.put, List.setIfInBounds_toArray, List.set_cons_zero, List.set_cons_succ]); try rfl) (by (try simp only [Act.put, List.setIfInBounds_toArray, List.set_cons_zero, List.set_cons_succ]); try rfl) (by (try simp only [Act.put, List.setIfInBounds_toArray, List.set_cons_zero, List.set_cons_succ]); try rfl) (by (try simp only [Act.put, List.setIfInBounds_toArray, List.set_cons_zero, List.set_cons_succ]); try rfl)
                (by exact Or.inl ⟨by rfl, fun W' hW' => by go_simp⟩) (by exact Or.inl ⟨by rfl, fun W' hW' => by go_simp⟩) (by exact Or.inl ⟨by rfl, fun W' hW' => by go_simp⟩) (by exact Or.inl ⟨by rfl, fun W' hW' => by go_simp⟩)
                (.agg (brow (hash (PT ++ [1, 2, 3])))) (.bool false)
                (fun u w' => ∃ ao cap B, u = .slice ao PT.length cap ∧ w7.heap.size ≤ B ∧ B ≤ w'.heap.size ∧ w'.ownsRow B 5 1 u PT.length (PT.map Go.Proofs.YtjiijfcfapfmeaaDoor.u8))
                (fun b w' => ∃ g9, b = .slice (some ⟨g9, 0, none⟩) 3 3 ∧ Rd w' b [1, 2, 3]) (fun r w' => Rd w' r (PT ++ [1, 2, 3]))
                (by rintro u z1 z2 ⟨ao, cap, B, e, h1, h2, h3⟩ kk; exact ⟨ao, cap, B, e, h1, Nat.le_trans h2 kk.size, kk.owns h3 (by simp)⟩)
                (by rintro u z1 z2 ⟨g9, e, h1⟩ kk; exact ⟨g9, e, h1.old kk (by simp)⟩)
                (fun X => X.eval (.tmp 87) = .pointer (some ⟨gc, 0, none⟩)) (fun X => X.eval (.tmp 91) = .slice va p.length vc)
                (by (try simp only [Act.put, List.setIfInBounds_toArray, List.set_cons_zero, List.set_cons_succ]); try rfl) (by intro b; (try simp only [Act.put, List.setIfInBounds_toArray, List.set_cons_zero, List.set_cons_succ]); try rfl) (by (try simp only [Act.put, List.setIfInBounds_toArray, List.set_cons_zero, List.set_cons_succ]); try rfl) (by intro b; (try simp only [Act.put, List.setIfInBounds_toArray, List.set_cons_zero, List.set_cons_succ]); try rfl) (by intro b; (try simp only [Act.put, List.setIfInBounds_toArray, List.set_cons_zero, List.set_cons_succ]); try rfl)
                (by intro X z1 hX kk K hK; exact wp_ssum (.tmp 87) _ rfl gc (PT ++ [1, 2, 3]) hX ((unhide HC7).kept kk (by simp)) (by rw [hL3]; omega) (unhide HR9 z1 kk) hK)
                (by intro X z1 hX kk K hK; refine wp_ttwin (.tmp 91) _ rfl _ PT hX ((unhide HRt7).old kk (by simp)) (by rw [hPl]; omega) (fun u z2 hu kz => ?_); obtain ⟨ao, cap, B, e, h1, h2, h3⟩ := hu; exact hK u z2 ⟨ao, cap, B, e, Nat.le_trans kk.size h1, h2, h3⟩ kz)
                (by intro X z1 kk K hK; exact wp_build3 rfl (hK _ _ ⟨_, rfl, rd_lit (heap_alloc_new _ _) rfl (by decide) 3 rfl (by decide)⟩ ((Kept.refl [] z1).alloc _)))
                _ (by intro u b; (try simp only [Act.put, List.setIfInBounds_toArray, List.set_cons_zero, List.set_cons_succ]); try rfl) (by intro u b; (try simp only [Act.put, List.setIfInBounds_toArray, List.set_cons_zero, List.set_cons_succ]); try rfl) (by intro u b; (try simp only [Act.put, List.setIfInBounds_toArray, List.set_cons_zero, List.set_cons_succ]); try rfl)
                (by rintro u b z1 ⟨ao, cap, B, rfl, h1, h2, h3⟩ ⟨g9, rfl, hb9⟩ kk K hK; exact wp_appB (.tmp 92) (.tmp 93) rfl rfl B _ PT [1, 2, 3] _ 3 3 h3 hb9 (by rw [hPl]; simp; omega) h2 (by (try simp only [Act.put, List.setIfInBounds_toArray, List.set_cons_zero, List.set_cons_succ]); try rfl) (by (try simp only [Act.put, List.setIfInBounds_toArray, List.set_cons_zero, List.set_cons_succ]); try rfl) (fun ao' cap' z2 o2 g2 => hK _ z2 (rd_owns o2 (unhide HPb) (by rw [hL3]; omega)) (kk.grown g2 (by intro k hk; right; exact Nat.le_trans h1 (h3.lt k hk).1))))
                (by rintro u b r z1 hr kk K hK; exact wp_sum256 (.tmp 94) _ rfl r (PT ++ [1, 2, 3]) (by (try simp only [Act.put, List.setIfInBounds_toArray, List.set_cons_zero, List.set_cons_succ]); try rfl) hr (by rw [hL3]; omega) (unhide HR9 z1 kk) (fun z2 kz => hK z2 (kk.trans kz (by simp))))
                (by intro u b r; exact Or.inl ⟨by rfl, fun W' _ => run_neq 25 (.tmp 88) (.tmp 95) 25 rfl (brow (hash (PT ++ [1, 2, 3]))) (brow (hash (PT ++ [1, 2, 3]))) (by (try simp only [Act.put, List.setIfInBounds_toArray, List.set_cons_zero, List.set_cons_succ]); try rfl) (by (try simp only [Act.put, List.setIfInBounds_toArray, List.set_cons_zero, List.set_cons_succ]); try rfl) W' true (by kernel_rfl) (by rw [row_eq W' _ _ (hash_len _) (hash_len _), decide_eq_true rfl])⟩)
                ?_
              intro u b r w8 k8
              have HS8 := hide ((unhide HS7).kept k8 (by simp))
              have HK8 := hide ((unhide HK7).trans k8 (by simp))
              clear k8
              simp only [Act.put, List.setIfInBounds_toArray, List.set_cons_zero, List.set_cons_succ]
              go_wp2
              refine ⟨⟨_, i + 1, hmp, by omega, rfl, by go_num, hide (by rw [unhide HPT]; exact unhide HS8), HK8⟩, ?_⟩
              simp [intOf]; omega
            · have hP5 : ((x : Int) % 3 == 1) = false := by rw [beq_eq_false_iff_ne]; omega
              go_wp2
              refine ⟨⟨_, i + 1, hmp, by omega, rfl, by go_num, hide (by rw [unhide HPT]; exact unhide HS5), HK5⟩, ?_⟩
              simp [intOf]; omega
    · have hlt' : ¬ (i : Int) < zs.length := by omega
      have HD := hide (List.take_append_drop a p)
      have hdl : (p.drop a).length = p.length - a := by simp
      have HRs0 := hide (fun (e : vc = a) => by have h9 := (unhide HRp).sub0 (x := p.length - a) e (by omega); rw [List.take_of_length_le (by simp)] at h9; exact h9 : vc = a → Rd wr (.slice va (p.length - a) 0) (p.drop a))
      have HRs1 := hide (by have h9 := (unhide HRp).sub (s := a) (x := p.length - a) (by omega); rw [List.take_of_length_le (by simp)] at h9; exact h9 : Rd wr (.slice (Option.map (fun x => x.add a) va) (p.length - a) (vc - a)) (p.drop a))
      have HB0 := hide (fun (h0 : 0 < (p.drop a).length) => unhide HBv (by rw [hdl] at h0; omega) (p.length - a) 0)
      have HB1 := hide (fun (h0 : 0 < (p.drop a).length) hx => unhide HBv (by rw [hdl] at h0; omega) (p.length - a) 0 (blk_drop _ hx) : 0 < (p.drop a).length → g ∉ blk (.slice (Option.map (fun x => x.add a) va) (p.length - a) (vc - a)))
      by_cases hcs : vc = a
      · subst hcs
        have HRs2 := hide (unhide HRs0 (Eq.refl vc))
        have hz0 : p.length - vc = 0 := by omega
        rw [hz0] at HRs2 HB0
        clear HRs0
        go_wp2_with fail
        refine Calls.mono (write_any g _ _ (p.drop vc) wr (unhide HS) (unhide HRs2) (unhide HB0) hg2 (by rw [hdl]; simp; omega) ((unhide HT).k (unhide HK))) ?_
        rintro e w4 ⟨rfl, s4, k4⟩
        rw [unhide HD] at s4
        have HS4 := hide s4
        have HK4 := hide ((unhide HK).trans k4 (by have := unhide Hge; simp; omega))
        clear s4 k4
        go_wp2_with fail
        refine Calls.mono (padding_any p.length _ (by omega)) ?_
        rintro e w5 ⟨rfl, q5, k5⟩
        have HS5 := hide ((unhide HS4).kept k5 (by simp))
        have HK5 := hide ((unhide HK4).trans k5 (by simp))
        have HQ5 := hide q5
        clear q5 k5
        have hpl := pad_len p.length
        have hpf := pad_full p.length
        have hz9 : padZ p.length ≤ 63 := by unfold padZ; split <;> omega
        have hp0 : (pad p.length).getD 0 0 = 128 := rfl
        have c0 := brow_cell (unhide HQ5) 0 (by rw [hpl]; omega)
        rw [hp0] at c0
        obtain ⟨Z, hZ⟩ : ∃ Z, padZ p.length = Z := ⟨_, rfl⟩
        rw [hZ] at hpl hz9
        rw [hpl] at hpf ⊢
        have hm1 : ((p.length : Int) + ((Z : Int) + 9)) % 64 = 0 := by omega
        have hm2 : ((p.length : Int) + ((Z : Int) + 9)).tmod 64 = 0 := by rw [Int.tmod_eq_emod_of_nonneg (by omega)]; omega
        have hm3 : IntKind.i64.wrap ((p.length : Int) + ((Z : Int) + 9)) = (p.length : Int) + ((Z : Int) + 9) := by simp [IntKind.wrap, IntKind.signed, IntKind.bits]; omega
        have hm4 : ((p.length : Int) + ((Z + 9 : Nat) : Int)) % 64 = 0 := by omega
        have hm5 : ((p.length : Int) + ((Z + 9 : Nat) : Int)).tmod 64 = 0 := by rw [Int.tmod_eq_emod_of_nonneg (by omega)]; omega
        have hm6 : IntKind.i64.wrap ((p.length : Int) + ((Z + 9 : Nat) : Int)) = (p.length : Int) + ((Z + 9 : Nat) : Int) := by simp [IntKind.wrap, IntKind.signed, IntKind.bits]; omega
        have hm7 : decide ((9 : Int) ≤ (Z : Int) + 9) = true := decide_eq_true (by omega)
        have hm8 : decide ((Z : Int) + 9 ≤ 72) = true := decide_eq_true (by omega)
        have hrow : ∀ W, (Op.equalIn 10000 25 (.agg (brow (hash p))) (.agg (brow (hash p)))).run Tryd.prog W = .ok true W := by
          intro W
          rw [row_eq W _ _ (hash_len _) (hash_len _), decide_eq_true rfl]
        clear hZ
        go_wp2_with fail
        refine Calls.mono (ssum_any g p w5 (unhide HS5) (by omega) ((unhide HT).k (unhide HK5))) ?_
        rintro e w6 ⟨rfl, k6⟩
        have HK6 := hide ((unhide HK5).trans k6 (by simp))
        have c06 := k6.cell c0 (by simp)
        clear k6
        go_wp2_with fail
        refine Calls.mono (sum256_any _ p w6 ((unhide H).old (unhide HK6) (by simp)) (by omega) ((unhide HT).k (unhide HK6))) ?_
        rintro e w7 ⟨rfl, k7⟩
        have HK7 := hide ((unhide HK6).trans k7 (by simp))
        have c07 := k7.cell c06 (by simp)
        clear k7
        go_wp2
        go_ret
        exact ⟨rfl, (unhide HK7).below (Nat.le_refl _) (by simp)⟩
      · clear HRs0
        go_wp2_with fail
        refine Calls.mono (write_any g _ _ (p.drop a) wr (unhide HS) (unhide HRs1) (unhide HB1) hg2 (by rw [hdl]; simp; omega) ((unhide HT).k (unhide HK))) ?_
        rintro e w4 ⟨rfl, s4, k4⟩
        rw [unhide HD] at s4
        have HS4 := hide s4
        have HK4 := hide ((unhide HK).trans k4 (by have := unhide Hge; simp; omega))
        clear s4 k4
        go_wp2_with fail
        refine Calls.mono (padding_any p.length _ (by omega)) ?_
        rintro e w5 ⟨rfl, q5, k5⟩
        have HS5 := hide ((unhide HS4).kept k5 (by simp))
        have HK5 := hide ((unhide HK4).trans k5 (by simp))
        have HQ5 := hide q5
        clear q5 k5
        have hpl := pad_len p.length
        have hpf := pad_full p.length
        have hz9 : padZ p.length ≤ 63 := by unfold padZ; split <;> omega
        have hp0 : (pad p.length).getD 0 0 = 128 := rfl
        have c0 := brow_cell (unhide HQ5) 0 (by rw [hpl]; omega)
        rw [hp0] at c0
        obtain ⟨Z, hZ⟩ : ∃ Z, padZ p.length = Z := ⟨_, rfl⟩
        rw [hZ] at hpl hz9
        rw [hpl] at hpf ⊢
        have hm1 : ((p.length : Int) + ((Z : Int) + 9)) % 64 = 0 := by omega
        have hm2 : ((p.length : Int) + ((Z : Int) + 9)).tmod 64 = 0 := by rw [Int.tmod_eq_emod_of_nonneg (by omega)]; omega
        have hm3 : IntKind.i64.wrap ((p.length : Int) + ((Z : Int) + 9)) = (p.length : Int) + ((Z : Int) + 9) := by simp [IntKind.wrap, IntKind.signed, IntKind.bits]; omega
        have hm4 : ((p.length : Int) + ((Z + 9 : Nat) : Int)) % 64 = 0 := by omega
        have hm5 : ((p.length : Int) + ((Z + 9 : Nat) : Int)).tmod 64 = 0 := by rw [Int.tmod_eq_emod_of_nonneg (by omega)]; omega
        have hm6 : IntKind.i64.wrap ((p.length : Int) + ((Z + 9 : Nat) : Int)) = (p.length : Int) + ((Z + 9 : Nat) : Int) := by simp [IntKind.wrap, IntKind.signed, IntKind.bits]; omega
        have hm7 : decide ((9 : Int) ≤ (Z : Int) + 9) = true := decide_eq_true (by omega)
        have hm8 : decide ((Z : Int) + 9 ≤ 72) = true := decide_eq_true (by omega)
        have hrow : ∀ W, (Op.equalIn 10000 25 (.agg (brow (hash p))) (.agg (brow (hash p)))).run Tryd.prog W = .ok true W := by
          intro W
          rw [row_eq W _ _ (hash_len _) (hash_len _), decide_eq_true rfl]
        clear hZ
        go_wp2_with fail
        refine Calls.mono (ssum_any g p w5 (unhide HS5) (by omega) ((unhide HT).k (unhide HK5))) ?_
        rintro e w6 ⟨rfl, k6⟩
        have HK6 := hide ((unhide HK5).trans k6 (by simp))
        have c06 := k6.cell c0 (by simp)
        clear k6
        go_wp2_with fail
        refine Calls.mono (sum256_any _ p w6 ((unhide H).old (unhide HK6) (by simp)) (by omega) ((unhide HT).k (unhide HK6))) ?_
        rintro e w7 ⟨rfl, k7⟩
        have HK7 := hide ((unhide HK6).trans k7 (by simp))
        have c07 := k7.cell c06 (by simp)
        clear k7
        go_wp2
        go_ret
        exact ⟨rfl, (unhide HK7).below (Nat.le_refl _) (by simp)⟩
end Go.Proofs.YtjiijfcfapfmeaaDoor
