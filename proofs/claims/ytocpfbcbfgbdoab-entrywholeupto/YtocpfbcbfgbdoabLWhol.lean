import Derived.Test.YtocpfbcbfgbdoabEMath
import Derived.Test.YtocpfbcbfgbdoabEBatD
import Derived.Test.YtocpfbcbfgbdoabEAw
import Derived.Test.YtocpfbcbfgbdoabEOne
namespace Go.Proofs.Ytocpfbcbfgbdoab
open Go.RowKit Go.BigFrame
set_option linter.unusedVariables false
set_option linter.unusedSimpArgs false

theorem owns_row {w : World} {g base : Nat} {bs : List Nat} (h : w.heap[g]? = some (.cells (bs.map u8).toArray 5 (0, 0))) (hb : base ≤ g) (hl : bs.length ≤ 140737488355328) : w.ownsRow base 5 1 (.slice (some ⟨g, 0, none⟩) bs.length bs.length) bs.length (bs.map u8) :=
  ⟨by simp, .inr ⟨g, bs.length, (bs.map u8).toArray, rfl, hb, h, Nat.le_refl _, by unfold maxLen; omega, by simp, by rw [List.toList_toArray, List.take_of_length_le (by simp)]⟩⟩

theorem batB_len {f : Nat} {es : List En} (h : chkB f es = 0) (hf : f < 18446744073709551616) : (batB f es).length + [0].length ≤ 140737488355328 := by
  obtain ⟨h1, h2, h3, h4⟩ := chkB_zero h
  have h5 := entB_len es h4
  have h6 := uv_len f hf
  have h7 := uv_len es.length (by omega)
  simp only [batB, List.length_append, List.length_cons, List.length_nil]
  omega

set_option maxRecDepth 100000 in
set_option maxHeartbeats 2000000 in
theorem entryWhole_walk (f : Nat) (v : Value) (es : List En) (mo : Nat) (w : World) (hf : f < 18446744073709551616) (h : RdN w v es) (hl : es.length ≤ 1048576) (hm : mo < 256) :
    Calls Try.prog 3 #[.agg #[.int .u64 f, v], .int .u8 mo] w fun r w' => r = .returned (.bool true) ∧ Below w.heap.size w w' := by
  have H := hide h
  obtain ⟨a1, m1, c1, _, _, rfl, _⟩ := h
  have HK0 := hide ((Kept.refl [] w).alloc (.cells #[.int .u64 (f : Int), .slice a1 m1 c1] 25))
  have HG0 := hide (heap_alloc_new w (.cells #[.int .u64 (f : Int), .slice a1 m1 c1] 25))
  go_enter Try.func3, Try.ntmps3
  go_wp2_with fail
  refine Calls.mono (eawake_any _) ?_
  rintro r w1 ⟨rfl, k1⟩
  have HG1 := hide (k1.heap (unhide HG0) (by simp))
  have HK1 := hide ((unhide HK0).trans k1 (by simp))
  clear k1
  go_wp2_with (refine wpList_load_row rfl 25 _ rfl w.heap.size rfl _ _ (0, 0) _ (unhide HG1) Try.underlying25 rfl Try.size_batch ?_)
  refine Calls.mono (twinBatch_any f _ es w1 ((unhide H).old (unhide HK1)) hl) ?_
  rintro r w2 ⟨v2, rfl, n2, k2⟩
  have HG2 := hide (k2.heap (unhide HG1) (by simp))
  have HK2 := hide ((unhide HK1).trans k2 (by simp))
  have HN2 := hide n2.rdN
  clear k2 n2
  go_wp2_with fail
  refine Calls.mono (encodeBatch_any f v2 es w2 hf (unhide HN2)) ?_
  rintro r w3 ⟨v3, rfl, n3, k3⟩
  have HG3 := hide (k3.heap (unhide HG2) (by simp))
  have HK3 := hide ((unhide HK2).trans k3 (by simp))
  obtain ⟨a3, m3, c3, hu3, hm3, hq1, ⟨hq2, hq3⟩, _⟩ := id n3.1
  subst hu3
  by_cases hE : chkB f es ≠ 0
  · have hE' : ((chkB f es : Int) != 0) = true := by rw [bne_iff_ne]; omega
    go_wp2
    go_ret
    exact ⟨rfl, (unhide HK3).below (Nat.le_refl _) (by simp)⟩
  replace hE : chkB f es = 0 := Decidable.not_not.1 hE
  rw [hE] at n3 hm3 ⊢
  rw [if_pos rfl] at n3 hm3
  subst hm3
  have HE := hide hE
  have HR3 := hide n3.1
  clear hE n3 k3
  obtain ⟨B, hB⟩ : ∃ B, batB f es = B := ⟨_, rfl⟩
  have HB3 := hide (unhide HR3).byte
  have HL3 := hide (unhide HR3).len
  have HMORE := hide (decB_more (r := [mo]) (unhide HE) hf (by simp))
  have HLESS := hide (fun n (hn : n < (batB f es).length) => decB_less (unhide HE) hf (unhide HB3) hn)
  have HEN := hide (chkB_zero (unhide HE))
  have HLB := hide (batB_len (unhide HE) hf)
  rw [hB] at HR3 HB3 HL3 HMORE HLESS HLB hq1 hq3 ⊢
  clear hB
  go_wp2_with fail
  go_loopw [7] (fun t wr => ∃ (i : Nat), i ≤ B.length + 1 ∧ t = .int .i64 i ∧ Hid (Kept [] w3 wr)) (fun t _ => B.length + 1 - (intOf t).toNat)
  case atStart => exact ⟨0, Nat.zero_le _, rfl, hide (Kept.refl [] w3)⟩
  case round =>
    obtain ⟨i, hi, rfl, HK⟩ := hrel
    by_cases hlt : i ≤ B.length
    · have hlt' : (i : Int) ≤ B.length := by omega
      have hci : i ≤ c3 := by omega
      have HT := hide (((unhide HR3).old (unhide HK) (by simp)).take (n := i) hlt)
      go_wp2_with fail
      refine Calls.mono (twin_any _ (B.take i) wr (unhide HT)) ?_
      rintro r w4 ⟨rfl, k4, g4⟩
      have hil : (B.take i).length = i := by rw [List.length_take]; omega
      have HK4 := hide ((unhide HK).trans k4 (by simp))
      have HG4 := hide g4
      have hs4 : wr.heap.size < w4.heap.size := lt_of_block g4
      clear k4 g4
      by_cases hii : i = B.length
      · have hie : ((i : Int) == (B.length : Int)) = true := by rw [hii]; simp
        have ht : B.take i = B := by rw [hii, List.take_length]
        rw [ht] at HG4 hil ⊢
        have HO4 := hide (owns_row (base := wr.heap.size) (unhide HG4) (Nat.le_refl _) (unhide HL3))
        have ka := (Kept.refl [] w4).alloc (.cells #[.int .u8 (mo : Int)] 5)
        have HO5 := hide (ka.owns (unhide HO4) (by simp))
        have HM5 := hide (rd_fresh (w := w4.alloc (.cells #[.int .u8 (mo : Int)] 5)) (bs := [mo]) (g := w4.heap.size) (heap_alloc_new _ _) (by simpa using hm) (by simp))
        have HK5 := hide ((unhide HK4).trans ka (by simp))
        clear ka
        have HBM := hide (show ∀ x ∈ B ++ [mo], x < 256 from fun x hx => by rcases List.mem_append.1 hx with h | h; exact unhide HB3 x h; rw [List.mem_singleton] at h; omega)
        have hil2 := hide hil
        have hii2 := hide hii
        clear hil hii ht
        go_wp2_with (at_builtin; refine wpList_appendAll rfl (.tmp 40) (.tmp 42) rfl rfl _ wr.heap.size (.slice (some ⟨wr.heap.size, 0, none⟩) B.length B.length) B [mo] (some ⟨w4.heap.size, 0, none⟩) 1 1 (by exact unhide HO5) (by exact unhide HM5) (by exact unhide HLB) (by simp; omega) rfl rfl ?_; intro ao6 cap6 w6 HO6 HG6 HA6)
        have HK6 := hide ((unhide HK5).grown (unhide HG6) (by intro k hk; right; have h9 := (unhide HK).size; simp [Value.ownBlock] at hk; omega))
        have HR6 := hide (rd_owns (unhide HO6) (unhide HBM) (by rw [List.length_append]; exact unhide HLB))
        clear HG6 HA6
        refine Calls.mono (decodeBatch_any _ (B ++ [mo]) w6 (unhide HR6)) ?_
        rintro r w7 ⟨bv, rfl, n7, k7⟩
        rw [unhide HMORE]
        have HK7 := hide ((unhide HK6).trans k7 (by simp))
        obtain ⟨a7, m7, c7, _, _, hu7, _⟩ := n7.rdN
        subst hu7
        clear n7 k7
        generalize (decB (B ++ [mo])).1 = f7
        have HK8 := hide ((unhide HK7).alloc (.cells #[.int .u64 (f7 : Int), .slice a7 m7 c7] 25))
        go_wp2
        refine ⟨⟨i + 1, by omega, by go_num, HK8⟩, ?_⟩
        simp [intOf]; omega
      · have hie : ((i : Int) == (B.length : Int)) = false := by rw [beq_eq_false_iff_ne]; omega
        have HR4 := hide (rd_fresh (unhide HG4) (fun x hx => unhide HB3 x (List.mem_of_mem_take hx)) (by rw [hil]; omega))
        rw [hil] at HR4 ⊢
        have hne := unhide HLESS i (by omega)
        obtain ⟨D, hD⟩ : ∃ D, decB (B.take i) = D := ⟨_, rfl⟩
        rw [hD] at hne
        have hne' : ((D.2.2 : Int) == 0) = false := by rw [beq_eq_false_iff_ne]; omega
        have HD := hide hD
        have HIL := hide hil
        have HNE := hide hne
        clear hD hil hne
        go_wp2_with fail
        refine Calls.mono (decodeBatch_any _ (B.take i) w4 (unhide HR4)) ?_
        rintro r w7 ⟨bv, rfl, n7, k7⟩
        rw [unhide HD] at n7 ⊢
        have HK7 := hide ((unhide HK4).trans k7 (by simp))
        obtain ⟨a7, m7, c7, _, _, hu7, _⟩ := n7.rdN
        subst hu7
        clear n7 k7
        generalize D.1 = f7
        have HK8 := hide ((unhide HK7).alloc (.cells #[.int .u64 (f7 : Int), .slice a7 m7 c7] 25))
        go_wp2
        refine ⟨⟨i + 1, by omega, by go_num, HK8⟩, ?_⟩
        simp [intOf]; omega
    · have hlt' : ¬ (i : Int) ≤ B.length := by omega
      have HKW := hide ((unhide HK3).trans (unhide HK) (by simp))
      have d1 : wr.cell? ⟨w.heap.size, 1, none⟩ = some (.slice a1 m1 c1) := by rw [cell_of_row _ _ _ _ _ _ ((unhide HK).heap (unhide HG3) (by simp))]; rfl
      obtain ⟨_, _, _, kv, vv, hv, hm1, _, _, h4, h5⟩ := unhide H
      injection hv with hv1 hv2 hv3
      subst hv1 hv2 hv3
      have hpos := (unhide HEN).2.1
      have hck := (unhide HEN).2.2.2 es[0] (List.getElem_mem hpos)
      obtain ⟨b, off, rfl, hcc⟩ := h5 (by omega)
      have hr := hcc 0 hpos
      have q0 := (unhide HKW).cell (hr 0 _ rfl) (by simp)
      have q1 := (unhide HKW).cell (hr 1 _ rfl) (by simp)
      have q2 := (unhide HKW).cell (hr 2 _ rfl) (by simp)
      simp only [Nat.zero_mul, Nat.add_zero] at q0 q1 q2
      have HO := hide ((h4 0 hpos).old (unhide HKW))
      clear hcc hr h4 h5
      generalize kv 0 = kvi at q1 HO
      generalize vv 0 = vvi at q2 HO
      generalize es[0] = e at q0 HO hck
      obtain ⟨a8, m8, c8, rfl, _⟩ := id (unhide HO).key
      obtain ⟨a9, m9, c9, rfl, _⟩ := id (unhide HO).val
      have hm1' : 0 < m1 := by omega
      have HCK := hide hck
      clear hck
      go_wp2_with fail
      have HKA := hide ((unhide HKW).alloc (.cells #[.int .u8 (e.k : Int), .slice a8 m8 c8, .slice a9 m9 c9] 36))
      have HOA := hide ((unhide HO).old ((Kept.refl [] wr).alloc (.cells #[.int .u8 (e.k : Int), .slice a8 m8 c8, .slice a9 m9 c9] 36)))
      refine Calls.mono (twinEntry_any e (.slice a8 m8 c8) (.slice a9 m9 c9) _ (unhide HOA)) ?_
      rintro r x1 ⟨kv', vv', rfl, ok1, k1, _⟩
      have HX1 := hide ((unhide HKA).trans k1 (by simp))
      have HOX := hide ok1
      clear ok1 k1
      go_wp2_with fail
      refine Calls.mono (eencode_any e kv' vv' x1 (unhide HOX)) ?_
      rintro r x2 ⟨v5, rfl, n5, k5⟩
      have HX2 := hide ((unhide HX1).trans k5 (by simp))
      rw [unhide HCK] at n5 ⊢
      rw [if_pos rfl] at n5
      obtain ⟨a5, m5, c5, hu5, hm5, hs1, ⟨hs2, hs3⟩, _⟩ := id n5.1
      subst hu5
      subst hm5
      have HR5 := hide n5.1
      clear n5 k5
      have HC5 := hide (unhide HR5).byte
      have HEL := hide (enB_len (unhide HCK))
      have HMOR2 := hide (decE_more (r := [mo]) (unhide HCK) (by simp))
      have HLES2 := hide (fun n (hn : n < (enB e).length) => decE_less (unhide HCK) (unhide HC5) hn)
      obtain ⟨C, hC⟩ : ∃ C, enB e = C := ⟨_, rfl⟩
      rw [hC] at HR5 HC5 HEL HMOR2 HLES2 hs1 hs3 ⊢
      clear hC
      go_wp2_with fail
      go_loopw [12] (fun t wq => ∃ (i : Nat), i ≤ C.length + 1 ∧ t = .int .i64 i ∧ Hid (Kept [] x2 wq)) (fun t _ => C.length + 1 - (intOf t).toNat)
      case atStart => exact ⟨0, Nat.zero_le _, rfl, hide (Kept.refl [] x2)⟩
      case round =>
        obtain ⟨j, hj, rfl, HKQ⟩ := hrel
        by_cases hjt : j ≤ C.length
        · have hjt' : (j : Int) ≤ C.length := by omega
          have hcj : j ≤ c5 := by omega
          have HT := hide (((unhide HR5).old (unhide HKQ) (by simp)).take (n := j) hjt)
          go_wp2_with fail
          refine Calls.mono (twin_any _ (C.take j) wr (unhide HT)) ?_
          rintro r w4 ⟨rfl, k4, g4⟩
          have hil : (C.take j).length = j := by rw [List.length_take]; omega
          have HK4 := hide ((unhide HKQ).trans k4 (by simp))
          have HG4 := hide g4
          have hs4 : wr.heap.size < w4.heap.size := lt_of_block g4
          clear k4 g4
          by_cases hii : j = C.length
          · have hie : ((j : Int) == (C.length : Int)) = true := by rw [hii]; simp
            have ht : C.take j = C := by rw [hii, List.take_length]
            rw [ht] at HG4 hil ⊢
            have HO4 := hide (owns_row (base := wr.heap.size) (unhide HG4) (Nat.le_refl _) hs3)
            have ka := (Kept.refl [] w4).alloc (.cells #[.int .u8 (mo : Int)] 5)
            have HO5 := hide (ka.owns (unhide HO4) (by simp))
            have HM5 := hide (rd_fresh (w := w4.alloc (.cells #[.int .u8 (mo : Int)] 5)) (bs := [mo]) (g := w4.heap.size) (heap_alloc_new _ _) (by simpa using hm) (by simp))
            have HK5 := hide ((unhide HK4).trans ka (by simp))
            clear ka
            have HBM := hide (show ∀ x ∈ C ++ [mo], x < 256 from fun x hx => by rcases List.mem_append.1 hx with h | h; exact unhide HC5 x h; rw [List.mem_singleton] at h; omega)
            have HLC := hide (by have h9 := unhide HEL; simp; omega : C.length + [mo].length ≤ 140737488355328)
            have hil2 := hide hil
            have hii2 := hide hii
            clear hil hii ht
            go_wp2_with (at_builtin; refine wpList_appendAll rfl (.tmp 77) (.tmp 79) rfl rfl _ wr.heap.size (.slice (some ⟨wr.heap.size, 0, none⟩) C.length C.length) C [mo] (some ⟨w4.heap.size, 0, none⟩) 1 1 (by exact unhide HO5) (by exact unhide HM5) (by exact unhide HLC) (by simp; omega) rfl rfl ?_; intro ao6 cap6 w6 HO6 HG6 HA6)
            have HK6 := hide ((unhide HK5).grown (unhide HG6) (by intro k hk; right; have h9 := (unhide HKQ).size; simp [Value.ownBlock] at hk; omega))
            have HR6 := hide (rd_owns (unhide HO6) (unhide HBM) (by rw [List.length_append]; exact unhide HLC))
            clear HG6 HA6
            refine Calls.mono (decode_any _ (C ++ [mo]) w6 (unhide HR6)) ?_
            rintro r w7 ⟨kv7, vv7, rfl, ok7, k7, _⟩
            rw [unhide HMOR2]
            have HK7 := hide ((unhide HK6).trans k7 (by simp))
            obtain ⟨a7, m7, c7, hu7, _⟩ := id ok7.key
            subst hu7
            obtain ⟨a0, m0, c0, hu0, _⟩ := id ok7.val
            subst hu0
            clear ok7 k7
            generalize (decE (C ++ [mo])).1 = e7
            have HK8 := hide ((unhide HK7).alloc (.cells #[.int .u8 (e7.k : Int), .slice a7 m7 c7, .slice a0 m0 c0] 36))
            rw [show enC e7 (.slice a7 m7 c7) (.slice a0 m0 c0) = #[.int .u8 (e7.k : Int), .slice a7 m7 c7, .slice a0 m0 c0] from rfl]
            go_wp2
            refine ⟨⟨j + 1, by omega, by go_num, HK8⟩, ?_⟩
            simp [intOf]; omega
          · have hie : ((j : Int) == (C.length : Int)) = false := by rw [beq_eq_false_iff_ne]; omega
            have HR4 := hide (rd_fresh (unhide HG4) (fun x hx => unhide HC5 x (List.mem_of_mem_take hx)) (by rw [hil]; omega))
            rw [hil] at HR4 ⊢
            have hne := unhide HLES2 j (by omega)
            obtain ⟨D, hD⟩ : ∃ D, decE (C.take j) = D := ⟨_, rfl⟩
            rw [hD] at hne
            have hne' : ((D.2 : Int) == 0) = false := by rw [beq_eq_false_iff_ne]; omega
            have HD := hide hD
            have HIL := hide hil
            have HNE := hide hne
            clear hD hil hne
            go_wp2_with fail
            refine Calls.mono (decode_any _ (C.take j) w4 (unhide HR4)) ?_
            rintro r w7 ⟨kv7, vv7, rfl, ok7, k7, _⟩
            rw [unhide HD] at ok7 ⊢
            have HK7 := hide ((unhide HK4).trans k7 (by simp))
            obtain ⟨a7, m7, c7, hu7, _⟩ := id ok7.key
            subst hu7
            obtain ⟨a0, m0, c0, hu0, _⟩ := id ok7.val
            subst hu0
            clear ok7 k7
            generalize D.1 = e7
            have HK8 := hide ((unhide HK7).alloc (.cells #[.int .u8 (e7.k : Int), .slice a7 m7 c7, .slice a0 m0 c0] 36))
            rw [show enC e7 (.slice a7 m7 c7) (.slice a0 m0 c0) = #[.int .u8 (e7.k : Int), .slice a7 m7 c7, .slice a0 m0 c0] from rfl]
            go_wp2
            refine ⟨⟨j + 1, by omega, by go_num, HK8⟩, ?_⟩
            simp [intOf]; omega
        · have hjt' : ¬ (j : Int) ≤ C.length := by omega
          go_wp2
          go_ret
          exact ⟨rfl, ((unhide HX2).trans (unhide HKQ) (by simp)).below (Nat.le_refl _) (by simp)⟩
end Go.Proofs.Ytocpfbcbfgbdoab
