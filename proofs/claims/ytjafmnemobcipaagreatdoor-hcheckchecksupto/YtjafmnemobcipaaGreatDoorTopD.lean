import Derived.Test.YtjafmnemobcipaaGreatDoorTopC
import Derived.Test.YtjafmnemobcipaaGreatDoorNFn
import Derived.Test.YtjafmnemobcipaaGreatDoorRowz
import Derived.Deep.RegionHeld3
namespace Go.Proofs.YtjafmnemobcipaaGreatDoor
open Go.RowKit Go.BigFrame
set_option linter.unusedVariables false
set_option linter.unusedSimpArgs false

set_option maxRecDepth 100000 in
set_option maxHeartbeats 4000000 in
theorem htwin_any (sv pv : Value) (ss : List (Nat × List (List Nat))) (ps : List (List Nat × List Nat)) (w : World) (hs : RdS w sv ss) (hp : RdK w pv ps) (hsl : ss.length ≤ 1048576) (hpl : ps.length ≤ 1048576) (hkl : ∀ s ∈ ss, s.2.length ≤ 1048576) :
    Calls Tryz.prog 7 #[.agg #[sv, pv]] w fun e w' => (∃ sv' pv', e = .returned (.agg #[sv', pv']) ∧ RdS w' sv' ss ∧ RdK w' pv' ps) ∧ Kept [] w w' := by
  obtain ⟨sa, sn, sc, vs, rfl, s1, s2, s3, s4, s5⟩ := id hs
  obtain ⟨pa, pn, pc, _, _, rfl, p1, _⟩ := id hp
  have HP4 := hide hp.cells.2.2.2
  have S4 := hide s4
  have S5 := hide s5
  have HS1 := hide s1
  have HP1 := hide p1
  have HKL := hide hkl
  have hsn : sn ≤ 1048576 := by omega
  have hpn : pn ≤ 1048576 := by omega
  clear s4 s5 hs hp s1 p1 hsl hpl hkl
  have HK0 := hide ((((Kept.refl [] w).alloc (.cells #[.slice sa sn sc, .slice pa pn pc] 26)).alloc (.cells #[.slice none 0 0, .slice none 0 0] 26)).alloc (.cells #[.slice none 0 0, .slice none 0 0] 26))
  have HG0 := hide (((Kept.refl [] ((w.alloc (.cells #[.slice sa sn sc, .slice pa pn pc] 26)).alloc (.cells #[.slice none 0 0, .slice none 0 0] 26))).alloc (.cells #[.slice none 0 0, .slice none 0 0] 26)).heap (heap_alloc2_old w (.cells #[.slice sa sn sc, .slice pa pn pc] 26) (.cells #[.slice none 0 0, .slice none 0 0] 26)) (by simp))
  have HZ0 := hide (((Kept.refl [] ((w.alloc (.cells #[.slice sa sn sc, .slice pa pn pc] 26)).alloc (.cells #[.slice none 0 0, .slice none 0 0] 26))).alloc (.cells #[.slice none 0 0, .slice none 0 0] 26)).heap (heap_alloc2_new w (.cells #[.slice sa sn sc, .slice pa pn pc] 26) (.cells #[.slice none 0 0, .slice none 0 0] 26)) (by simp))
  have HQ0 := hide (alloc3_at w (.cells #[.slice sa sn sc, .slice pa pn pc] 26) (.cells #[.slice none 0 0, .slice none 0 0] 26) (.cells #[.slice none 0 0, .slice none 0 0] 26))
  obtain ⟨W, hW⟩ : ∃ W, ((w.alloc (.cells #[.slice sa sn sc, .slice pa pn pc] 26)).alloc (.cells #[.slice none 0 0, .slice none 0 0] 26)).alloc (.cells #[.slice none 0 0, .slice none 0 0] 26) = W := ⟨_, rfl⟩
  have hsz : w.heap.size + 3 = W.heap.size := by rw [← hW]; simp
  rw [hW] at HK0 HG0 HZ0 HQ0
  have c0 : W.cell? ⟨w.heap.size, 0, none⟩ = some (.slice sa sn sc) := cell_of_row _ _ 0 _ _ _ (unhide HG0)
  go_enter Tryz.func7, Tryz.ntmps7
  go_wp2_with (rw [hW])
  clear hW c0
  obtain ⟨base, hbase⟩ : ∃ base, w.heap.size + 3 = base := ⟨_, rfl⟩
  have HW1 := hide (by omega : base ≤ W.heap.size)
  clear hsz
  go_loopw [11] (fun t11 wr => ∃ (i : Nat) (v : Value) (ts : List ((Nat × List (List Nat)) × Value × Value)), i ≤ sn ∧ t11 = .int .i64 i ∧ ts.length = i ∧ base ≤ wr.heap.size ∧ Hid (ts.map (·.1) = ss.take i) ∧ Hid (Own2 kStep base wr v ts) ∧ Hid (wr.heap[w.heap.size + 1 + 1]? = some (.cells #[v, .slice none 0 0] 26 (0, 0))) ∧ Hid (Kept [] w wr) ∧ Hid (wr.heap[w.heap.size]? = some (.cells #[.slice sa sn sc, .slice pa pn pc] 26 (0, 0))) ∧ Hid (wr.heap[w.heap.size + 1]? = some (.cells #[.slice none 0 0, .slice none 0 0] 26 (0, 0)))) (fun t _ => sn - (intOf t).toNat)
  case atStart => exact ⟨0, _, [], Nat.zero_le _, rfl, rfl, unhide HW1, hide (by simp), hide (Own2.start kStep base W), HQ0, HK0, HG0, HZ0⟩
  case round =>
    obtain ⟨i, v, ts, hi, rfl, htl, hbr, HTS, HO, HQ, HK, HG, HZ⟩ := hrel
    have HTL := hide htl
    clear htl
    have hvb : ∀ b, v.ownBlock = some b → base ≤ b ∧ b < wr.heap.size := fun b hb => (unhide HO).own.lt b hb
    by_cases hlt : i < sn
    · have hlt' : (i : Int) < sn := by omega
      obtain ⟨b, o, rfl, hcell⟩ := unhide S5 (by omega)
      have q1 := (unhide HK).cell (hcell i hlt).1 (by simp)
      have q2 := (unhide HK).cell (hcell i hlt).2 (by simp)
      have HDD0 := hide (unhide S4 i hlt)
      have HNX := hide (by rw [List.take_succ_eq_append_getElem (by rw [unhide HS1]; exact hlt), ← unhide HTS]; rw [List.getD_eq_getElem?_getD, List.getElem?_eq_getElem (by rw [unhide HS1]; exact hlt)]; rfl : ss.take (i + 1) = ts.map (·.1) ++ [ss.getD i (0, [])])
      have hsk := unhide HKL (ss.getD i (0, [])) (by rw [List.getD_eq_getElem?_getD, List.getElem?_eq_getElem (by rw [unhide HS1]; exact hlt)]; exact List.getElem_mem _)
      clear hcell
      generalize ss.getD i (0, []) = s at q1 HDD0 HNX hsk
      generalize vs.getD i undef = vi at q2 HDD0
      obtain ⟨sb, sk⟩ := s
      simp only at q1 HDD0 HNX hsk
      have HSB := hide (unhide HDD0).1
      have HDD := hide (unhide HDD0).2
      obtain ⟨a8, m8, c8, rfl, hm8, _⟩ := id (unhide HDD)
      clear hm8 HDD0
      have kX := (Kept.refl [] wr).alloc (.cells #[.int .u16 sb, .slice a8 m8 c8] 49)
      have HFX := hide (heap_alloc_new wr (.cells #[.int .u16 sb, .slice a8 m8 c8] 49))
      have HKX := hide ((unhide HK).trans kX (by simp))
      have HQX := hide (kX.heap (unhide HQ) (by simp))
      have HGX := hide (kX.heap (unhide HG) (by simp))
      have HZX := hide (kX.heap (unhide HZ) (by simp))
      have HOX := hide ((unhide HO).pass kX (by simp))
      go_wp2_with fail
      obtain ⟨X, hX⟩ : ∃ X, wr.alloc (.cells #[.int .u16 sb, .slice a8 m8 c8] 49) = X := ⟨_, rfl⟩
      rw [hX] at HFX HKX HQX HGX HZX HOX kX ⊢
      have hbX : base ≤ X.heap.size := Nat.le_trans hbr kX.size
      have f0 : X.cell? ⟨wr.heap.size, 0, none⟩ = some (.int .u16 sb) := cell_of_row _ _ 0 _ _ _ (unhide HFX)
      have f1 : X.cell? ⟨wr.heap.size, 1, none⟩ = some (.slice a8 m8 c8) := cell_of_row _ _ 1 _ _ _ (unhide HFX)
      have cq : X.cell? ⟨w.heap.size + 1 + 1, 0, none⟩ = some v := cell_of_row _ _ 0 _ _ _ (unhide HQX)
      have hXs := lt_of_block (unhide HFX)
      clear hX kX q1 q2
      refine wp_tw13 (by kernel_rfl) (by kernel_rfl) (by kernel_rfl) (by kernel_rfl) (by kernel_rfl) (by kernel_rfl) (by kernel_rfl) (by kernel_rfl) (by kernel_rfl) (by kernel_rfl) (by kernel_rfl) (by kernel_rfl) (by kernel_rfl) (by kernel_rfl) (by kernel_rfl) (by kernel_rfl) (by kernel_rfl) (by kernel_rfl) (by kernel_rfl) (by kernel_rfl) (by kernel_rfl) rfl (by kernel_rfl) rfl (by kernel_rfl) rfl (by kernel_rfl) rfl (by kernel_rfl) rfl (by kernel_rfl) rfl (by kernel_rfl) rfl (by kernel_rfl)
        (.pointer (some ⟨w.heap.size + 1 + 1, 0, none⟩)) v (.pointer (some ⟨wr.heap.size, 0, none⟩)) (.int .u16 sb) (.pointer (some ⟨wr.heap.size, 1, none⟩)) (.slice a8 m8 c8) _ _ _ _ _ _
        (fun w' => Kept v.ownBlock.toList X w')
        (fun w' => Kept [] X w')
        (fun u0 w' => (∃ g, u0 = .slice (some ⟨g, 0, none⟩) 0 0) ∧ w'.ownsRow X.heap.size 28 32 u0 ([] : List (List Nat)).length (flatD []) ∧ Kept [] X w')
        (fun u0 u1 w' => ((∃ aa nn cc, u1 = .slice aa nn cc) ∧ RdD w' u1 sk ∧ (∀ b ∈ dblk u1 sk, X.heap.size ≤ b ∧ b < w'.heap.size)) ∧ Kept [] X w')
        (fun u0 u1 u2 w' => u2 = .agg #[.int .u16 (sb : Int), u1] ∧ ((∃ aa nn cc, u1 = .slice aa nn cc) ∧ RdD w' u1 sk ∧ (∀ b ∈ dblk u1 sk, X.heap.size ≤ b ∧ b < w'.heap.size)) ∧ Kept [] X w')
        (fun u0 u1 u2 u3 w' => (∃ H, u3 = .slice (some ⟨H, 0, none⟩) 1 1 ∧ w'.heap[H]? = some (.cells #[.int .u16 (sb : Int), u1] 49 (0, 0))) ∧ ((∃ aa nn cc, u1 = .slice aa nn cc) ∧ RdD w' u1 sk ∧ (∀ b ∈ dblk u1 sk, X.heap.size ≤ b ∧ b < w'.heap.size)) ∧ Kept [] X w')
        (fun u0 u1 u2 u3 u4 w' => (∃ g cap, u4 = .slice (some ⟨g, 0, none⟩) (ts.length + 1) cap) ∧ Own2 kStep base w' u4 (ts ++ [((sb, sk), .int .u16 (sb : Int), u1)]) ∧ Kept v.ownBlock.toList X w')
        (fun u0 u1 u2 u3 u4 u5 w' => u5 = .pointer (some ⟨w.heap.size + 1 + 1, 0, none⟩) ∧ (∃ g cap, u4 = .slice (some ⟨g, 0, none⟩) (ts.length + 1) cap) ∧ Own2 kStep base w' u4 (ts ++ [((sb, sk), .int .u16 (sb : Int), u1)]) ∧ Kept v.ownBlock.toList X w')
        (fun u0 u1 u2 u3 u4 u5 w' => (∃ g cap, u4 = .slice (some ⟨g, 0, none⟩) (ts.length + 1) cap) ∧ Own2 kStep base w' u4 (ts ++ [((sb, sk), .int .u16 (sb : Int), u1)]) ∧ w'.heap[w.heap.size + 1 + 1]? = some (.cells #[u4, .slice none 0 0] 26 (0, 0)) ∧ Kept ((w.heap.size + 1 + 1) :: v.ownBlock.toList) X w')
        (by simp only [Act.put, List.setIfInBounds_toArray, List.set_cons_zero, List.set_cons_succ]; rfl) (by exact Or.inl ⟨by rfl, fun W' hW' => by go_simp⟩)
        (by simp only [Act.put, List.setIfInBounds_toArray, List.set_cons_zero, List.set_cons_succ]; rfl) (by exact Or.inl ⟨by rfl, fun W' hW' => by have h9 := hW'.cell cq (by intro hm; simp only [Option.mem_toList] at hm; have := hvb _ hm; omega); go_simp⟩)
        (by simp only [Act.put, List.setIfInBounds_toArray, List.set_cons_zero, List.set_cons_succ]; rfl) (by exact Or.inl ⟨by rfl, fun W' hW' => by go_simp⟩)
        (by simp only [Act.put, List.setIfInBounds_toArray, List.set_cons_zero, List.set_cons_succ]; rfl) (by exact Or.inl ⟨by rfl, fun W' hW' => by have h9 := hW'.cell f0 (by intro hm; simp only [Option.mem_toList] at hm; have := hvb _ hm; omega); go_simp⟩)
        (by simp only [Act.put, List.setIfInBounds_toArray, List.set_cons_zero, List.set_cons_succ]; rfl) (by exact Or.inl ⟨by rfl, fun W' hW' => by go_simp⟩)
        (by simp only [Act.put, List.setIfInBounds_toArray, List.set_cons_zero, List.set_cons_succ]; rfl) (by exact Or.inl ⟨by rfl, fun W' hW' => by have h9 := hW'.cell f1 (by intro hm; simp only [Option.mem_toList] at hm; have := hvb _ hm; omega); go_simp⟩)
        (Kept.refl [] X).drew
        ⟨fun w' h => h.mono (by simp), fun u0 w' h => h.2.2.mono (by simp), fun u0 u1 w' h => h.2.mono (by simp), fun u0 u1 u2 w' h => h.2.2.mono (by simp), fun u0 u1 u2 u3 w' h => h.2.2.mono (by simp), fun u0 u1 u2 u3 u4 w' h => h.2.2, fun u0 u1 u2 u3 u4 u5 w' h => h.2.2.2⟩
        (by intro w' i K hK; unfold Oper.wp execOp; go_simp; exact hK _ _ ⟨⟨_, rfl⟩, World.ownsRow_made (base := X.heap.size) (e := 28) (size := 32) w' #[] 0 i.size (by unfold maxLen; omega) (by simp), i.alloc _⟩)
        (by
          rintro u0 w' ⟨⟨g, rfl⟩, ho, i⟩ K hK
          obtain ⟨ao1, cap1, w1, hrun, h2, h3⟩ := appendD w' X.heap.size (.slice (some ⟨g, 0, none⟩) 0 0) [] sk a8 m8 c8 ho ((unhide HDD).old ((unhide HKX).trans i (by simp))) (by simp; omega) i.size
          have hg9 := ho.lt g rfl
          refine wp_append rfl rfl rfl rfl hrun (hK _ _ ⟨⟨⟨_, _, _, rfl⟩, ?_, ?_⟩, i.grown h3 (by intro k hk; right; simp only [Value.ownBlock, Option.some.injEq] at hk; subst hk; exact hg9.1)⟩)
          · simp only [List.nil_append, List.length_nil, Nat.zero_add] at h2 ⊢
            exact rdd_owns h2 (fun d hd => (unhide HDD).dg hd)
          · intro b hb
            have h9 := h2.lt b (by unfold dblk at hb; split at hb; simp at hb; cases ao1 with | none => simp [blk] at hb | some ad => simp only [blk, List.mem_singleton] at hb; subst hb; rfl)
            exact h9)
        (by rintro u0 u1 w' ⟨⟨⟨aa, nn, cc, rfl⟩, h1, h2⟩, i⟩ K hK; unfold Oper.wp execOp; go_simp; exact hK _ _ ⟨rfl, ⟨⟨_, _, _, rfl⟩, h1, h2⟩, i⟩)
        (by rintro u0 u1 u2 w' ⟨rfl, ⟨⟨aa, nn, cc, rfl⟩, h1, h2⟩, i⟩ K hK; unfold Oper.wp execOp; go_simp; exact hK _ _ ⟨⟨_, rfl, heap_alloc_new _ _⟩, ⟨⟨_, _, _, rfl⟩, h1.old ((Kept.refl [] w').alloc _), fun b hb => ⟨(h2 b hb).1, by have := (h2 b hb).2; simp; omega⟩⟩, i.alloc _⟩)
        (by
          rintro u0 u1 u2 u3 w' ⟨⟨H, rfl, hH⟩, ⟨⟨aa, nn, cc, rfl⟩, h1, h2⟩, i⟩ K hK
          have hO := (unhide HOX).pass i (by simp)
          obtain ⟨g, cap, w1, hrun, h3, h4, h5⟩ := pushS w' base v ts _ _ H hO.own hH rfl rfl (by have := unhide HTL; omega) (Nat.le_trans hbX i.size)
          exact wp_append rfl rfl rfl rfl hrun (hK _ _ ⟨⟨_, _, rfl⟩, hO.push (a := (sb, sk)) (x := .int .u16 (sb : Int)) (y := .slice aa nn cc) ⟨unhide HSB, rfl, h1⟩ (fun b hb => ⟨fun e => by have := hvb b e; have := (h2 b hb).1; omega, by have := (h2 b hb).1; omega, (h2 b hb).2⟩) h3 h4 h5, (i.mono (by simp)).grown h4 (by intro k hk; left; simp [hk])⟩))
        (by rintro u0 u1 u2 u3 u4 w' ⟨⟨g, cap, rfl⟩, h1, i⟩ K hK; unfold Oper.wp execOp; go_simp; exact hK _ _ ⟨rfl, ⟨_, _, rfl⟩, h1, i⟩)
        (by
          rintro u0 u1 u2 u3 u4 u5 w' ⟨rfl, ⟨g, cap, rfl⟩, h1, i⟩ K hK
          have hq := i.heap (unhide HQX) (by intro hm; simp only [Option.mem_toList] at hm; have := hvb _ hm; omega)
          have cq9 := cell_of_row _ _ 0 _ _ _ hq
          have fz9 : w'.frozen? ⟨w.heap.size + 1 + 1, 0, none⟩ = false := by simp [World.frozen?, hq]
          have hset := heap_setCell_same w' (w.heap.size + 1 + 1) 0 _ 26 (.slice (some ⟨g, 0, none⟩) (ts.length + 1) cap) hq
          have kS := (Kept.refl [w.heap.size + 1 + 1] w').setCell (p := ⟨w.heap.size + 1 + 1, 0, none⟩) (Or.inl (by simp)) (.slice (some ⟨g, 0, none⟩) (ts.length + 1) cap)
          unfold Oper.wp execOp
          go_simp
          exact hK _ ⟨⟨_, _, rfl⟩, h1.pass kS (by simp; omega), hset, (i.mono (by simp; intro x hx; right; exact hx)).setCell (Or.inl (by simp)) _⟩)
        ?_
      rintro u0 u1 u2 u3 u4 u5 Y ⟨⟨g, cap, rfl⟩, hO, hq, kY⟩
      simp only [Act.put, List.setIfInBounds_toArray, List.set_cons_zero, List.set_cons_succ]
      have HOY := hide hO
      have HQY := hide hq
      have hny : ∀ x, x < base → x ≠ w.heap.size + 1 + 1 → x ∉ ((w.heap.size + 1 + 1) :: v.ownBlock.toList) := fun x h1 h2 hm => by
        rcases List.mem_cons.1 hm with h | h
        · exact h2 h
        · simp only [Option.mem_toList] at h; have := hvb _ h; omega
      have HKY := hide ((unhide HKX).trans kY (by intro x hx; right; rcases List.mem_cons.1 hx with h | h; omega; simp only [Option.mem_toList] at h; have := hvb _ h; omega))
      have HGY := hide (kY.heap (unhide HGX) (hny _ (by omega) (by omega)))
      have HZY := hide (kY.heap (unhide HZX) (hny _ (by omega) (by omega)))
      have hbY : base ≤ Y.heap.size := Nat.le_trans hbX kY.size
      have htl2 : (ts ++ [((sb, sk), Value.int .u16 (sb : Int), u1)]).length = i + 1 := by simp [unhide HTL]
      have HTY := hide (by rw [unhide HNX]; simp : (ts ++ [((sb, sk), Value.int .u16 (sb : Int), u1)]).map (·.1) = ss.take (i + 1))
      clear hO hq kY f0 f1 cq hny
      go_wp2
      go_roundw
      case rel => exact ⟨i + 1, _, _, hlt, by go_num, htl2, hbY, HTY, HOY, HQY, HKY, HGY, HZY⟩
      case measure => simp [intOf]; omega
    · have hlt' : ¬ (i : Int) < sn := by omega
      have HSS := hide (by have h9 := unhide HTS; rw [List.take_of_length_le (by rw [unhide HS1]; omega)] at h9; exact h9 : ts.map (·.1) = ss)
      have HO1 := HO
      have hb1 := hbase
      obtain ⟨sv', hsv⟩ : ∃ sv', sv' = v := ⟨_, rfl⟩
      subst hsv
      obtain ⟨ts1, hts1⟩ : ∃ ts1, ts1 = ts := ⟨_, rfl⟩
      subst hts1
      obtain ⟨wm, hwm⟩ : ∃ wm, wm = wr := ⟨_, rfl⟩
      subst hwm
      obtain ⟨base1, hbs1⟩ : ∃ base1, base1 = base := ⟨_, rfl⟩
      subst hbs1
      have c1 : wm.cell? ⟨w.heap.size, 1, none⟩ = some (.slice pa pn pc) := cell_of_row _ _ 1 _ _ _ (unhide HG)
      go_wp2_with fail
      clear c1
      obtain ⟨base, hbase2⟩ : ∃ base, wm.heap.size = base := ⟨_, rfl⟩
      have hbb : w.heap.size + 3 ≤ base := by omega
      go_loopw [31] (fun t31 wr => ∃ (i : Nat) (v : Value) (ts : List ((List Nat × List Nat) × Value × Value)), i ≤ pn ∧ t31 = .int .i64 i ∧ ts.length = i ∧ base ≤ wr.heap.size ∧ Hid (ts.map (·.1) = ps.take i) ∧ Hid (Own2 kPair base wr v ts) ∧ Hid (wr.heap[w.heap.size + 1 + 1]? = some (.cells #[sv', v] 26 (0, 0))) ∧ Hid (Kept [w.heap.size + 1 + 1] wm wr) ∧ Hid (Kept [] w wr) ∧ Hid (wr.heap[w.heap.size + 1]? = some (.cells #[.slice none 0 0, .slice none 0 0] 26 (0, 0)))) (fun t _ => pn - (intOf t).toNat)
      case atStart => exact ⟨0, _, [], Nat.zero_le _, rfl, rfl, by omega, hide (by simp), hide (Own2.start kPair base wm), HQ, hide (Kept.refl _ _), HK, HZ⟩
      case round =>
        obtain ⟨i, v, ts, hi2, rfl, htl, hbr2, HTS2, HO2, HQ2, HKm, HK2, HZ2⟩ := hrel
        have HTL := hide htl
        clear htl
        have hvb : ∀ b, v.ownBlock = some b → base ≤ b ∧ b < wr.heap.size := fun b hb => (unhide HO2).own.lt b hb
        by_cases hlt2 : i < pn
        · have hlt2' : (i : Int) < pn := by omega
          obtain ⟨b, o, x, y, rfl, d1, d2, r1, r2⟩ := unhide HP4 i hlt2
          have q1 := (unhide HK2).cell d1 (by simp)
          have q2 := (unhide HK2).cell d2 (by simp)
          have HX := hide r1
          have HY := hide r2
          have HNX := hide (by rw [List.take_succ_eq_append_getElem (by rw [unhide HP1]; exact hlt2), ← unhide HTS2]; rw [List.getD_eq_getElem?_getD, List.getElem?_eq_getElem (by rw [unhide HP1]; exact hlt2)]; rfl : ps.take (i + 1) = ts.map (·.1) ++ [ps.getD i ([], [])])
          clear d1 d2 r1 r2
          generalize ps.getD i ([], []) = pi at HX HY HNX
          obtain ⟨pk, pw⟩ := pi
          simp only at HX HY HNX
          obtain ⟨a8, m8, c8, rfl, hm8, _⟩ := id (unhide HX)
          obtain ⟨a9, m9, c9, rfl, hm9, _⟩ := id (unhide HY)
          clear hm8 hm9
          have kX := (Kept.refl [] wr).alloc (.cells #[.slice a8 m8 c8, .slice a9 m9 c9] 51)
          have HFX := hide (heap_alloc_new wr (.cells #[.slice a8 m8 c8, .slice a9 m9 c9] 51))
          have HKX := hide ((unhide HK2).trans kX (by simp))
          have HMX := hide ((unhide HKm).trans kX (by simp))
          have HQX := hide (kX.heap (unhide HQ2) (by simp))
          have HZX := hide (kX.heap (unhide HZ2) (by simp))
          have HOX := hide ((unhide HO2).pass kX (by simp))
          go_wp2_with fail
          obtain ⟨X, hX⟩ : ∃ X, wr.alloc (.cells #[.slice a8 m8 c8, .slice a9 m9 c9] 51) = X := ⟨_, rfl⟩
          rw [hX] at HFX HKX HMX HQX HZX HOX kX ⊢
          have hbX : base ≤ X.heap.size := Nat.le_trans hbr2 kX.size
          have f0 : X.cell? ⟨wr.heap.size, 0, none⟩ = some (.slice a8 m8 c8) := cell_of_row _ _ 0 _ _ _ (unhide HFX)
          have f1 : X.cell? ⟨wr.heap.size, 1, none⟩ = some (.slice a9 m9 c9) := cell_of_row _ _ 1 _ _ _ (unhide HFX)
          have cq : X.cell? ⟨w.heap.size + 1 + 1, 1, none⟩ = some v := cell_of_row _ _ 1 _ _ _ (unhide HQX)
          have hXs := lt_of_block (unhide HFX)
          clear hX kX q1 q2
          refine wp_tw13 (by kernel_rfl) (by kernel_rfl) (by kernel_rfl) (by kernel_rfl) (by kernel_rfl) (by kernel_rfl) (by kernel_rfl) (by kernel_rfl) (by kernel_rfl) (by kernel_rfl) (by kernel_rfl) (by kernel_rfl) (by kernel_rfl) (by kernel_rfl) (by kernel_rfl) (by kernel_rfl) (by kernel_rfl) (by kernel_rfl) (by kernel_rfl) (by kernel_rfl) (by kernel_rfl) rfl (by kernel_rfl) rfl (by kernel_rfl) rfl (by kernel_rfl) rfl (by kernel_rfl) rfl (by kernel_rfl) rfl (by kernel_rfl) rfl (by kernel_rfl)
            (.pointer (some ⟨w.heap.size + 1 + 1, 1, none⟩)) v (.pointer (some ⟨wr.heap.size, 0, none⟩)) (.slice a8 m8 c8) (.pointer (some ⟨wr.heap.size, 1, none⟩)) (.slice a9 m9 c9) _ _ _ _ _ _
            (fun w' => Kept v.ownBlock.toList X w')
            (fun w' => Kept [] X w')
            (fun u0 w' => (∃ aa nn cc, u0 = .slice aa nn cc) ∧ Rd w' u0 pk ∧ (∀ b ∈ eblk u0 pk, X.heap.size ≤ b ∧ b < w'.heap.size) ∧ Kept [] X w')
            (fun u0 u1 w' => (((∃ aa nn cc, u0 = .slice aa nn cc) ∧ ∃ aa nn cc, u1 = .slice aa nn cc) ∧ (Rd w' u0 pk ∧ Rd w' u1 pw) ∧ (∀ b ∈ eblk u0 pk ++ eblk u1 pw, X.heap.size ≤ b ∧ b < w'.heap.size)) ∧ Kept [] X w')
            (fun u0 u1 u2 w' => u2 = .agg #[u0, u1] ∧ (((∃ aa nn cc, u0 = .slice aa nn cc) ∧ ∃ aa nn cc, u1 = .slice aa nn cc) ∧ (Rd w' u0 pk ∧ Rd w' u1 pw) ∧ (∀ b ∈ eblk u0 pk ++ eblk u1 pw, X.heap.size ≤ b ∧ b < w'.heap.size)) ∧ Kept [] X w')
            (fun u0 u1 u2 u3 w' => (∃ H, u3 = .slice (some ⟨H, 0, none⟩) 1 1 ∧ w'.heap[H]? = some (.cells #[u0, u1] 51 (0, 0))) ∧ (((∃ aa nn cc, u0 = .slice aa nn cc) ∧ ∃ aa nn cc, u1 = .slice aa nn cc) ∧ (Rd w' u0 pk ∧ Rd w' u1 pw) ∧ (∀ b ∈ eblk u0 pk ++ eblk u1 pw, X.heap.size ≤ b ∧ b < w'.heap.size)) ∧ Kept [] X w')
            (fun u0 u1 u2 u3 u4 w' => (∃ g cap, u4 = .slice (some ⟨g, 0, none⟩) (ts.length + 1) cap) ∧ Own2 kPair base w' u4 (ts ++ [((pk, pw), u0, u1)]) ∧ Kept v.ownBlock.toList X w')
            (fun u0 u1 u2 u3 u4 u5 w' => u5 = .pointer (some ⟨w.heap.size + 1 + 1, 1, none⟩) ∧ (∃ g cap, u4 = .slice (some ⟨g, 0, none⟩) (ts.length + 1) cap) ∧ Own2 kPair base w' u4 (ts ++ [((pk, pw), u0, u1)]) ∧ Kept v.ownBlock.toList X w')
            (fun u0 u1 u2 u3 u4 u5 w' => (∃ g cap, u4 = .slice (some ⟨g, 0, none⟩) (ts.length + 1) cap) ∧ Own2 kPair base w' u4 (ts ++ [((pk, pw), u0, u1)]) ∧ w'.heap[w.heap.size + 1 + 1]? = some (.cells #[sv', u4] 26 (0, 0)) ∧ Kept ((w.heap.size + 1 + 1) :: v.ownBlock.toList) X w')
            (by simp only [Act.put, List.setIfInBounds_toArray, List.set_cons_zero, List.set_cons_succ]; rfl) (by exact Or.inl ⟨by rfl, fun W' hW' => by go_simp⟩)
            (by simp only [Act.put, List.setIfInBounds_toArray, List.set_cons_zero, List.set_cons_succ]; rfl) (by exact Or.inl ⟨by rfl, fun W' hW' => by have h9 := hW'.cell cq (by intro hm; simp only [Option.mem_toList] at hm; have := hvb _ hm; omega); go_simp⟩)
            (by simp only [Act.put, List.setIfInBounds_toArray, List.set_cons_zero, List.set_cons_succ]; rfl) (by exact Or.inl ⟨by rfl, fun W' hW' => by go_simp⟩)
            (by simp only [Act.put, List.setIfInBounds_toArray, List.set_cons_zero, List.set_cons_succ]; rfl) (by exact Or.inl ⟨by rfl, fun W' hW' => by have h9 := hW'.cell f0 (by intro hm; simp only [Option.mem_toList] at hm; have := hvb _ hm; omega); go_simp⟩)
            (by simp only [Act.put, List.setIfInBounds_toArray, List.set_cons_zero, List.set_cons_succ]; rfl) (by exact Or.inl ⟨by rfl, fun W' hW' => by go_simp⟩)
            (by simp only [Act.put, List.setIfInBounds_toArray, List.set_cons_zero, List.set_cons_succ]; rfl) (by exact Or.inl ⟨by rfl, fun W' hW' => by have h9 := hW'.cell f1 (by intro hm; simp only [Option.mem_toList] at hm; have := hvb _ hm; omega); go_simp⟩)
            (Kept.refl [] X).drew
            ⟨fun w' h => h.mono (by simp), fun u0 w' h => h.2.2.2.mono (by simp), fun u0 u1 w' h => h.2.mono (by simp), fun u0 u1 u2 w' h => h.2.2.mono (by simp), fun u0 u1 u2 u3 w' h => h.2.2.mono (by simp), fun u0 u1 u2 u3 u4 w' h => h.2.2, fun u0 u1 u2 u3 u4 u5 w' h => h.2.2.2⟩
            (by
              intro w' i K hK
              refine wp_callN rfl Tryz.call6 [.slice a8 m8 c8] rfl (twin_any _ pk w' ((unhide HX).old ((unhide HKX).trans i (by simp)) (by simp))) ?_
              rintro e w2 ⟨rfl, kv, hrow⟩
              have hR := rd_fresh hrow (unhide HX).byte (by obtain ⟨_, _, _, e9, h9, _, h8, _⟩ := id (unhide HX); cases e9; omega)
              have hs2 := lt_of_block hrow
              exact ⟨_, rfl, hK _ _ ⟨⟨_, _, _, rfl⟩, hR, fun b hb => (by unfold eblk at hb; split at hb; simp at hb; simp only [blk, List.mem_singleton] at hb; subst hb; exact ⟨i.size, hs2⟩), i.trans kv (by simp)⟩⟩)
            (by
              rintro u0 w' ⟨⟨aa, nn, cc, rfl⟩, h1, h2, i⟩ K hK
              refine wp_callN rfl Tryz.call6 [.slice a9 m9 c9] rfl (twin_any _ pw w' ((unhide HY).old ((unhide HKX).trans i (by simp)) (by simp))) ?_
              rintro e w2 ⟨rfl, kv, hrow⟩
              have hR := rd_fresh hrow (unhide HY).byte (by obtain ⟨_, _, _, e9, h9, _, h8, _⟩ := id (unhide HY); cases e9; omega)
              have hs2 := lt_of_block hrow
              refine ⟨_, rfl, hK _ _ ⟨⟨⟨⟨_, _, _, rfl⟩, ⟨_, _, _, rfl⟩⟩, ⟨h1.old kv (by simp), hR⟩, fun b hb => ?_⟩, i.trans kv (by simp)⟩⟩
              rcases List.mem_append.1 hb with hb | hb
              · exact ⟨(h2 b hb).1, by have := (h2 b hb).2; have := kv.size; omega⟩
              · unfold eblk at hb; split at hb; simp at hb; simp only [blk, List.mem_singleton] at hb; subst hb; exact ⟨i.size, hs2⟩)
            (by
              rintro u0 u1 w' ⟨⟨⟨⟨aa, nn, cc, rfl⟩, ⟨ab, nb, cb, rfl⟩⟩, h1, h2⟩, i⟩ K hK
              unfold Oper.wp execOp
              go_simp
              exact hK _ _ ⟨rfl, ⟨⟨⟨_, _, _, rfl⟩, ⟨_, _, _, rfl⟩⟩, h1, h2⟩, i⟩)
            (by
              rintro u0 u1 u2 w' ⟨rfl, ⟨⟨⟨aa, nn, cc, rfl⟩, ⟨ab, nb, cb, rfl⟩⟩, h1, h2⟩, i⟩ K hK
              unfold Oper.wp execOp
              go_simp
              exact hK _ _ ⟨⟨_, rfl, heap_alloc_new _ _⟩, ⟨⟨⟨_, _, _, rfl⟩, ⟨_, _, _, rfl⟩⟩, ⟨h1.1.old ((Kept.refl [] w').alloc _) (by simp), h1.2.old ((Kept.refl [] w').alloc _) (by simp)⟩, fun b hb => ⟨(h2 b hb).1, by have := (h2 b hb).2; simp; omega⟩⟩, i.alloc _⟩)
            (by
              rintro u0 u1 u2 u3 w' ⟨⟨H, rfl, hH⟩, ⟨⟨⟨aa, nn, cc, rfl⟩, ⟨ab, nb, cb, rfl⟩⟩, h1, h2⟩, i⟩ K hK
              have hO := (unhide HOX).pass i (by simp)
              obtain ⟨g, cap, w1, hrun, h3, h4, h5⟩ := pushP w' base v ts _ _ H hO.own hH rfl rfl (by have := unhide HTL; omega) (Nat.le_trans hbX i.size)
              exact wp_append rfl rfl rfl rfl hrun (hK _ _ ⟨⟨_, _, rfl⟩, hO.push (a := (pk, pw)) (x := .slice aa nn cc) (y := .slice ab nb cb) h1 (fun b hb => ⟨fun e => by have := hvb b e; have := (h2 b hb).1; omega, by have := (h2 b hb).1; omega, (h2 b hb).2⟩) h3 h4 h5, (i.mono (by simp)).grown h4 (by intro k hk; left; simp [hk])⟩))
            (by rintro u0 u1 u2 u3 u4 w' ⟨⟨g, cap, rfl⟩, h1, i⟩ K hK; unfold Oper.wp execOp; go_simp; exact hK _ _ ⟨rfl, ⟨_, _, rfl⟩, h1, i⟩)
            (by
              rintro u0 u1 u2 u3 u4 u5 w' ⟨rfl, ⟨g, cap, rfl⟩, h1, i⟩ K hK
              have hq := i.heap (unhide HQX) (by intro hm; simp only [Option.mem_toList] at hm; have := hvb _ hm; omega)
              have cq9 := cell_of_row _ _ 1 _ _ _ hq
              have fz9 : w'.frozen? ⟨w.heap.size + 1 + 1, 1, none⟩ = false := by simp [World.frozen?, hq]
              have hset := heap_setCell_same w' (w.heap.size + 1 + 1) 1 _ 26 (.slice (some ⟨g, 0, none⟩) (ts.length + 1) cap) hq
              have kS := (Kept.refl [w.heap.size + 1 + 1] w').setCell (p := ⟨w.heap.size + 1 + 1, 1, none⟩) (Or.inl (by simp)) (.slice (some ⟨g, 0, none⟩) (ts.length + 1) cap)
              unfold Oper.wp execOp
              go_simp
              exact hK _ ⟨⟨_, _, rfl⟩, h1.pass kS (by simp; omega), hset, (i.mono (by simp; intro x hx; right; exact hx)).setCell (Or.inl (by simp)) _⟩)
            ?_
          rintro u0 u1 u2 u3 u4 u5 Y ⟨⟨g, cap, rfl⟩, hO, hq, kY⟩
          simp only [Act.put, List.setIfInBounds_toArray, List.set_cons_zero, List.set_cons_succ]
          have HOY := hide hO
          have HQY := hide hq
          have HKY := hide ((unhide HKX).trans kY (by intro x hx; right; rcases List.mem_cons.1 hx with h | h; omega; simp only [Option.mem_toList] at h; have := hvb _ h; omega))
          have HMY := hide ((unhide HMX).trans kY (by intro x hx; rcases List.mem_cons.1 hx with h | h; left; simp [h]; right; simp only [Option.mem_toList] at h; have := hvb _ h; omega))
          have HZY := hide (kY.heap (unhide HZX) (by intro hm; rcases List.mem_cons.1 hm with h | h; omega; simp only [Option.mem_toList] at h; have := hvb _ h; omega))
          have hbY : base ≤ Y.heap.size := Nat.le_trans hbX kY.size
          have htl2 : (ts ++ [((pk, pw), u0, u1)]).length = i + 1 := by simp [unhide HTL]
          have HTY := hide (by rw [unhide HNX]; simp : (ts ++ [((pk, pw), u0, u1)]).map (·.1) = ps.take (i + 1))
          clear hO hq kY f0 f1 cq
          go_wp2
          go_roundw
          case rel => exact ⟨i + 1, _, _, hlt2, by go_num, htl2, hbY, HTY, HOY, HQY, HMY, HKY, HZY⟩
          case measure => simp [intOf]; omega
        · have hlt2' : ¬ (i : Int) < pn := by omega
          have HPP := hide (by have h9 := unhide HTS2; rw [List.take_of_length_le (by rw [unhide HP1]; omega)] at h9; exact h9 : ts.map (·.1) = ps)
          go_wp2_with (first
            | (refine wpList_load_row rfl 26 _ rfl (w.heap.size + 1 + 1) rfl _ #[sv', v] (0, 0) _ (unhide HQ2) Tryz.underlying26 rfl (by kernel_rfl) ?_)
            | (refine wpList_store_row rfl 26 _ _ rfl (w.heap.size + 1) #[sv', v] rfl rfl _ #[.slice none 0 0, .slice none 0 0] (unhide HZ2) (by kernel_rfl) rfl (by obtain ⟨a1, c1, e1⟩ := owns_form (unhide HO1).own; obtain ⟨a2, c2, e2⟩ := owns_form (unhide HO2).own; subst e1; subst e2; simp [Value.oneCell']) ?_))
          have kF := (Kept.refl [w.heap.size + 1] wr).setRow (g := w.heap.size + 1) (Or.inl (by simp)) #[sv', v]
          refine bodyPost_ret (v := .agg #[sv', v]) ?_ rfl ⟨⟨sv', v, rfl, ?_, ?_⟩, (unhide HK2).setRow (g := w.heap.size + 1) (Or.inr (by omega)) _⟩
          · exact results_cell_row rfl _ _ (w.heap.size + 1) _ #[sv', v] (0, 0) _ rfl (setRow_heap _ _ _ _ _ _ (unhide HZ2)) Tryz.underlying26 rfl (by kernel_rfl)
          · have h9 := (((unhide HO1).pass (unhide HKm) (by simp; omega)).pass kF (by simp; omega)).rdS
            rw [unhide HSS] at h9
            exact h9
          · have h9 := ((unhide HO2).pass kF (by simp; omega)).rdK
            rw [unhide HPP] at h9
            exact h9
end Go.Proofs.YtjafmnemobcipaaGreatDoor
namespace Go.Proofs.YtjafmnemobcipaaGreatDoor
open Go.RowKit Go.BigFrame
set_option linter.unusedVariables false
set_option linter.unusedSimpArgs false

set_option maxRecDepth 100000 in
set_option maxHeartbeats 2000000 in
theorem rput_any (v : Value) (ds : List (List Nat)) (r : Nat) (d : List Nat) (w : World) (hv : RdD w v ds) (hr : r ≤ ds.length) (hd : Dg d) (hl : ds.length ≤ 1000000000) :
    Calls Tryz.prog 58 #[v, .int .i64 r, .agg (brow d)] w fun e w' => ∃ v', e = .returned v' ∧ RdD w' v' (ds.take r ++ d :: ds.drop r) ∧ Kept [] w w' := by
  obtain ⟨ao, len, cap, rfl, h1, h2, h3, h4, h5⟩ := id hv
  subst h1
  have hdl := hd.1
  have HDG := hide hd
  have HSZ := hide (Tryz.szD hdl)
  have hrc : (r : Int) ≤ cap := by omega
  have hr0 : (0 : Int) ≤ r := by omega
  have hrl : (r : Int) ≤ ds.length := by omega
  have hlc : (ds.length : Int) ≤ cap := by omega
  obtain ⟨V9, h39, r9⟩ : ∃ V9 : Value, ((ds.length = 0 ∧ r = 0 ∧ V9 = .slice ao 0 cap) ∨ (0 < ds.length ∧ ∃ b' o', ao = some ⟨b', o', none⟩ ∧ ((cap = r ∧ V9 = .slice ao (ds.length - r) 0) ∨ (¬ cap = r ∧ V9 = .slice (some ⟨b', o' + r * 32, none⟩) (ds.length - r) (cap - r))))) ∧ RdD w V9 (ds.drop r) := by
    rcases Nat.eq_zero_or_pos ds.length with h9 | h9
    · have hnil : ds = [] := List.eq_nil_of_length_eq_zero h9
      subst hnil
      exact ⟨_, Or.inl ⟨h9, by omega, rfl⟩, by simpa using hv⟩
    · obtain ⟨b', o', e9, _⟩ := h5 h9
      subst e9
      by_cases hc9 : cap = r
      · exact ⟨_, Or.inr ⟨h9, b', o', rfl, Or.inl ⟨hc9, rfl⟩⟩, hv.from' hr ⟨by omega, by omega⟩ (fun h9 => by omega)⟩
      · exact ⟨_, Or.inr ⟨h9, b', o', rfl, Or.inr ⟨hc9, rfl⟩⟩, hv.from' hr ⟨by omega, by omega⟩ (fun _ => rfl)⟩
  have HU := hide (hv.upto r hr)
  have HV := hide r9
  have HDD := hide (fun x (hx : x ∈ ds.take r ++ [d] ++ ds.drop r) => (by
    rcases List.mem_append.1 hx with h | h
    · rcases List.mem_append.1 h with h | h
      · exact h4 x (List.mem_of_mem_take h)
      · simp at h; subst h; exact hd
    · exact h4 x (List.mem_of_mem_drop h) : Dg x))
  have hl1 : (ds.take r).length = r := by simp; omega
  have hl9 : (ds.drop r).length = ds.length - r := by simp
  have HL1 := hide hl1
  have HL9 := hide hl9
  generalize ds.take r = T at *
  generalize ds.drop r = U at *
  clear h4 h5 hv r9 hd hl1 hl9
  have HK0 := hide ((Kept.refl [] w).alloc (.cells (brow d) 28))
  have HG0 := hide (heap_alloc_new w (.cells (brow d) 28))
  obtain ⟨W, hW⟩ : ∃ W, w.alloc (.cells (brow d) 28) = W := ⟨_, rfl⟩
  rw [hW] at HK0 HG0
  have hgW : w.heap.size < W.heap.size := lt_of_block (unhide HG0)
  have hfs : ∀ A : Array Value, (List.foldl (fun cs x => cs.setIfInBounds x.snd x.fst) A (List.map u8 d).zipIdx).size = A.size := fun A => fold_size _ A 0
  have hTn : ([] : List (List Nat)).length + T.length = r := by have := unhide HL1; simp; omega
  have HK1f : ∀ w1 (x : Option Nat), (∀ k, x = some k → W.heap.size ≤ k) → ∀ y, Kept [] w y → y.grownBy w1 x → Kept [] w w1 := fun w1 x hx y ky g => ky.grown g (by intro k hk; right; have := hx k hk; have := (unhide HK0).size; omega)
  have HLU := hide (by have := unhide HL9; omega : U.length ≤ 1000000000)
  go_enter Tryz.func58, Tryz.ntmps58
  obtain ⟨h90, h91, h92⟩ | ⟨h90, b', o', h91, ⟨h92, h93⟩⟩ | ⟨h90, b', o', h91, ⟨h92, h93⟩⟩ : (ds.length = 0 ∧ r = 0 ∧ V9 = .slice ao 0 cap) ∨ (0 < ds.length ∧ ∃ b' o', ao = some ⟨b', o', none⟩ ∧ (cap = r ∧ V9 = .slice ao (ds.length - r) 0)) ∨ (0 < ds.length ∧ ∃ b' o', ao = some ⟨b', o', none⟩ ∧ (¬ cap = r ∧ V9 = .slice (some ⟨b', o' + r * 32, none⟩) (ds.length - r) (cap - r))) := by
    rcases h39 with h | ⟨h, b', o', h1, h2 | h2⟩
    · exact Or.inl h
    · exact Or.inr (Or.inl ⟨h, b', o', h1, h2⟩)
    · exact Or.inr (Or.inr ⟨h, b', o', h1, h2⟩)
  case' inl => subst h91; subst h92
  case' inr.inl =>
    subst h91
    subst h93
    subst h92
    rw [show ds.length - cap = 0 by omega] at HV
  case' inr.inr => subst h91; subst h93
  all_goals
    clear h39
    go_wp2_with (first
      | (rw [hW])
      | (at_builtin; refine wpList_appendD rfl _ _ rfl rfl W W.heap.size (.slice none 0 0) [] T _ _ _ (World.ownsRow_nil _ _ _ _) (by exact (unhide HU).old (unhide HK0)) (by have := unhide HL1; simp; omega) (Nat.le_refl _) rfl rfl ?_; intro ao1 cap1 w1 HO1 HG1; rw [hTn] at HO1 ⊢; simp only [List.nil_append] at HO1; have k1 := (Kept.refl [] W).grown (unhide HG1) (by intro k hk; cases hk); have HKW1 := hide k1; have HGd := hide (k1.heap (unhide HG0) (by simp)); have hb1 := k1.size; have HLT := hide ((unhide HO1).lt); clear HG1 k1 hTn)
      | (refine wpList_load_mid rfl 28 _ rfl w.heap.size 0 rfl (d.map u8) _ (range_row (unhide HGd)) Tryz.underlying28 rfl (by rw [List.length_map, hdl]; exact Tryz.size_dig) ?_)
      | (at_builtin; rw [zb32, one_dig d hdl]; refine wpList_appendD rfl _ _ rfl rfl (w1.alloc (.cells (brow d) 28)) W.heap.size (.slice ao1 _ cap1) T [d] (some ⟨w1.heap.size, 0, none⟩) 1 1 (by have h9 := ((Kept.refl [] w1).alloc (.cells (brow d) 28)).owns (unhide HO1) (by simp); exact h9) (by exact RdD.one (heap_alloc_new w1 _) (unhide HDG)) (by have := unhide HL1; simp; omega) (by simp; omega) rfl rfl ?_; intro ao3 cap3 w3 HO3 HG3; have HKW3 := hide ((((unhide HK0).trans (unhide HKW1) (by simp)).alloc (.cells (brow d) 28)).grown (unhide HG3) (by intro k hk; right; have h9 := (unhide HLT k hk).1; have := (unhide HK0).size; omega)); have hb3 := (unhide HG3).size; have HLT3 := hide ((unhide HO3).lt); clear HG3 HO1 HLT HGd)
      | (at_builtin; refine wpList_appendD rfl _ _ rfl rfl w3 W.heap.size (.slice ao3 _ cap3) (T ++ [d]) U _ _ _ (by have h9 := unhide HO3; rw [List.length_append] at h9 ⊢; exact h9) (by exact (unhide HV).old (unhide HKW3)) (by have := unhide HL1; have := unhide HLU; simp; omega) (by simp at hb3; omega) rfl rfl ?_; intro ao5 cap5 w5 HO5 HG5; have HKW5 := hide ((unhide HKW3).grown (unhide HG5) (by intro k hk; right; have h9 := (unhide HLT3 k hk).1; have := (unhide HK0).size; omega)); clear HG5 HO3 HLT3))
    go_ret
    refine ⟨_, rfl, ?_, unhide HKW5⟩
    have h9 := rdd_owns (unhide HO5) (unhide HDD)
    rw [List.length_append, List.length_singleton] at h9
    rw [show T ++ d :: U = T ++ [d] ++ U by simp]
    exact h9
end Go.Proofs.YtjafmnemobcipaaGreatDoor
namespace Go.Proofs.YtjafmnemobcipaaGreatDoor
open Go.RowKit Go.BigFrame
set_option linter.unusedVariables false
set_option linter.unusedSimpArgs false

abbrev iv (n : Nat) : Value := .int .i64 (n : Int)
theorem iv_one (bs : List Nat) : ∀ v ∈ bs.map iv, v.oneCell' = true := by
  intro v hv; obtain ⟨x, _, rfl⟩ := List.mem_map.1 hv; rfl

theorem Tryz.infoI : (Tryz.prog.info? 3).map (fun i => (i.zero, i.size, i.bytes)) = some (some (.int .i64 0), 1, 8) := by kernel_rfl

/-- The slice value v reads as the numbers xs. -/
def RdZ (w : World) (v : Value) (xs : List Nat) : Prop :=
  ∃ (ao : Option Addr) (cap : Nat), v = .slice ao xs.length cap ∧ xs.length ≤ cap ∧ cap ≤ 9223372036854775807 ∧
    (0 < xs.length → ∃ b off, ao = some ⟨b, off, none⟩ ∧ ∀ i, i < xs.length → w.cell? ⟨b, off + i, none⟩ = some (iv (xs.getD i 0)))
theorem RdZ.old {w0 w : World} {v : Value} {xs : List Nat} (h : RdZ w0 v xs) (k : Kept [] w0 w) : RdZ w v xs := by
  obtain ⟨ao, cap, rfl, h1, h2, h3⟩ := h
  refine ⟨ao, cap, rfl, h1, h2, fun hp => ?_⟩
  obtain ⟨b, off, rfl, hc⟩ := h3 hp
  exact ⟨b, off, rfl, fun i hi => k.cell (hc i hi) (by simp)⟩
/-- Numbers in memory of their own. -/
structure OwnZ (w0 w : World) (v : Value) (xs : List Nat) : Prop where
  own : w.ownsRow w0.heap.size 3 1 v xs.length (xs.map iv)
  kept : Kept [] w0 w
theorem OwnZ.start {w0 w : World} (k : Kept [] w0 w) : OwnZ w0 w (.slice none 0 0) [] := ⟨World.ownsRow_nil _ _ _ _, k⟩
theorem OwnZ.pass {w0 w w' : World} {v : Value} {xs : List Nat} (h : OwnZ w0 w v xs) (k : Kept [] w w') : OwnZ w0 w' v xs := ⟨k.owns h.own (by simp), h.kept.trans k (by simp)⟩
theorem OwnZ.rd {w0 w : World} {v : Value} {xs : List Nat} (h : OwnZ w0 w v xs) : RdZ w v xs := by
  rcases h.own.2 with ⟨rfl, h0⟩ | ⟨g, cap, cur, rfl, _, hg, hc, hm', hs, ht⟩
  · have : xs = [] := List.eq_nil_of_length_eq_zero h0
    subst this
    exact ⟨none, 0, rfl, Nat.le_refl _, by omega, fun h => by simp at h⟩
  · refine ⟨some ⟨g, 0, none⟩, cap, rfl, hc, by unfold maxLen at hm'; omega, fun _ => ⟨g, 0, rfl, fun i hi => ?_⟩⟩
    have c1 := h.own.cells (g := g) rfl i (iv (xs.getD i 0)) (by rw [List.getElem?_map, List.getD_eq_getElem?_getD, List.getElem?_eq_getElem hi]; rfl)
    rw [Addr.add_mid] at c1
    exact c1

theorem pushZ (w : World) (base : Nat) (v : Value) (xs ys : List Nat) (H n : Nat) (h : w.ownsRow base 3 1 v xs.length (xs.map iv)) (hnew : w.heap[H]? = some (.cells (ys.map iv).toArray 3 (0, 0))) (hn : ys.length = n) (hn0 : 0 < n) (hl : xs.length + n ≤ 1000000000000) (hb : base ≤ w.heap.size) :
    ∃ g cap w1, (Builtin.append_ #[67, 67] 67 #[v, .slice (some ⟨H, 0, none⟩) n n]).run Tryz.prog w = .ok (.slice (some ⟨g, 0, none⟩) (xs.length + n) cap) w1 ∧
      w1.ownsRow base 3 1 (.slice (some ⟨g, 0, none⟩) (xs.length + n) cap) (xs.length + n) (xs.map iv ++ ys.map iv) ∧ w.grownBy w1 v.ownBlock := by
  obtain ⟨i0, hi, hz0, hz1, hz2⟩ := info_parts Tryz.infoI
  obtain ⟨g, cap, w1, hr, hown, hgrow, hat, hlt⟩ := run_append_lies (P := Tryz.prog) w 67 67 base 3 i0 (.int .i64 0) 1 8 Tryz.underlying67 hi hz0 hz1 hz2 rfl (by decide)
    v xs.length (xs.map iv) h ⟨H, 0, none⟩ n n (ys.map iv) (by simp [hn]) (World.news_of_block hnew) (iv_one ys) hn0 (by unfold maxLen; omega) (by omega) hb _ rfl
  exact ⟨g, cap, w1, hr, hown, hgrow⟩

theorem wpList_pushZ {ops : Array Oper} {rest : List Oper} {o : Oper} {a : Act} {Q : Exit → Act → World → Prop} (hgd : o.guard = none) (s x : Operand)
    (ho : o.op = .call { callee := .builtin .append, args := #[s, x], argTypes := #[67, 67] }) (hty : o.type = 67)
    (w0 w : World) (v : Value) (xs ys : List Nat) (H n : Nat) (h : OwnZ w0 w v xs) (hnew : w.heap[H]? = some (.cells (ys.map iv).toArray 3 (0, 0))) (hn : ys.length = n) (hn0 : 0 < n) (hl : xs.length + n ≤ 1000000000000)
    (hs : a.eval s = v) (hx : a.eval x = .slice (some ⟨H, 0, none⟩) n n)
    (hK : ∀ g cap w1, Hid (OwnZ w0 w1 (.slice (some ⟨g, 0, none⟩) (xs.length + n) cap) (xs ++ ys)) → wpList Tryz.prog ops Q rest (a.put o.dst (.slice (some ⟨g, 0, none⟩) (xs.length + n) cap)) w1) :
    wpList Tryz.prog ops Q (o :: rest) a w := by
  obtain ⟨g, cap, w1, hrun, h2, h3⟩ := pushZ w w0.heap.size v xs ys H n h.own hnew hn hn0 hl h.kept.size
  refine wpList_plain hgd fun K hK' => ?_
  unfold Oper.wp execOp
  simp only [ho, hty, resolve, invoke, builtin, Sem.run_bind, Sem.run_pure, Result.andThen_ok, List.map_toArray, List.map_cons, List.map_nil, hs, hx, hrun]
  refine hK' _ _ (hK g cap w1 ⟨?_, ?_⟩)
  · rw [List.map_append, List.length_append, hn]; exact h2
  · exact h.kept.grown h3 (by intro k hk; right; exact (h.own.lt k hk).1)
end Go.Proofs.YtjafmnemobcipaaGreatDoor
namespace Go.Proofs.YtjafmnemobcipaaGreatDoor
open Go.RowKit Go.BigFrame
set_option linter.unusedVariables false
set_option linter.unusedSimpArgs false

theorem wpList_shl16 {P : Program} {ops : Array Oper} {rest : List Oper} {o : Oper} {a : Act} {w : World} {Q : Exit → Act → World → Prop} (hgd : o.guard = none) (t t2 : TypeId) (y : Operand)
    (ho : o.op = .binOp .shl t (.const (.int .u16 1)) y t2) (k : Nat) (hk : k ≤ 15) (hy : a.eval y = .int .i64 (k : Int)) (hK : wpList P ops Q rest (a.put o.dst (.int .u16 ((al (k : Int) : Nat) : Int))) w) : wpList P ops Q (o :: rest) a w := by
  have e : (Op.shift .shl .u16 1 .i64 (k : Int)).run P w = .ok (.int .u16 ((al (k : Int) : Nat) : Int)) w := by
    rw [shift_shl .u16 .i64 1 (k : Int) (by omega) (by simp [IntKind.bits]; omega), al_in hk]
    have h9 : 2 ^ k ≤ 2 ^ 15 := Nat.pow_le_pow_right (by decide) hk
    rw [Int.toNat_natCast, Int.one_mul]
    have h8 : (2 ^ k : Int) = ((2 ^ k : Nat) : Int) := by simp
    rw [h8]
    obtain ⟨y, hy⟩ : ∃ y, 2 ^ k = y := ⟨_, rfl⟩
    rw [hy] at h9 ⊢
    have h7 : IntKind.u16.wrap (y : Int) = y := by simp [IntKind.wrap, IntKind.signed, IntKind.bits]; omega
    rw [h7]
    rfl
  have h1 : a.eval (.const (.int .u16 1)) = .int .u16 1 := rfl
  refine wpList_plain hgd fun K hK' => ?_
  unfold Oper.wp execOp
  simp only [ho, hy, h1, eqGuard_shl, binOp_shl, Sem.run_bind, Sem.run_pure, Result.andThen_ok, e]
  exact hK' _ _ hK
theorem setB_succ (b i : Nat) : setB b (i + 1) = if b.testBit i then setB b i ++ [i] else setB b i := rfl
theorem wpList_shrN {P : Program} {ops : Array Oper} {rest : List Oper} {o : Oper} {a : Act} {w : World} {Q : Exit → Act → World → Prop} (hgd : o.guard = none) (t t2 : TypeId) (x y : Operand)
    (ho : o.op = .binOp .shr t x y t2) (b i q : Nat) (hi : i < 16) (hx : a.eval x = .int .u16 (b : Int)) (hy : a.eval y = .int .i64 (i : Int)) (hq : (b : Int) / 2 ^ i = (q : Int)) (hK : wpList P ops Q rest (a.put o.dst (.int .u16 (q : Int))) w) : wpList P ops Q (o :: rest) a w := by
  have e : (Op.shift .shr .u16 (b : Int) .i64 (i : Int)).run P w = .ok (.int .u16 (q : Int)) w := by
    rw [shift_shr .u16 .i64 (b : Int) (i : Int) (by omega) (by simp [IntKind.bits]; omega), Int.toNat_natCast, hq]
    rfl
  refine wpList_plain hgd fun K hK' => ?_
  unfold Oper.wp execOp
  simp only [ho, hx, hy, binOp, eqGuard, Sem.run_bind, Bool.not_false, if_true, Sem.run_pure, Result.andThen_ok, e]
  exact hK' _ _ hK

set_option maxRecDepth 100000 in
set_option maxHeartbeats 1000000 in
theorem rset_any (b : Nat) (w : World) (hb : b < 65536) :
    Calls Tryz.prog 53 #[.int .u16 b] w fun e w' => ∃ v, e = .returned v ∧ RdZ w' v (setB b 16) ∧ Kept [] w w' := by
  go_enter Tryz.func53, Tryz.ntmps53
  go_wp2_with fail
  go_loopw [3, 4] (fun t2 t3 wr => ∃ (i : Nat), i ≤ 16 ∧ t3 = .int .i64 i ∧ Hid (OwnZ w wr t2 (setB b i))) (fun _ t _ => 16 - (intOf t).toNat)
  case atStart => exact ⟨0, by omega, rfl, hide (OwnZ.start (Kept.refl _ _))⟩
  case round =>
    obtain ⟨i, hi, rfl, HO⟩ := hrel
    by_cases hlt : i < 16
    · have hlt' : (i : Int) < 16 := by omega
      have hdb : b.testBit i = decide (b / 2 ^ i % 2 = 1) := Nat.testBit_eq_decide_div_mod_eq
      have HS := hide (setB_succ b i : setB b (i + 1) = if b.testBit i then setB b i ++ [i] else setB b i)
      have HC := hide (cnt_le b i)
      obtain ⟨q, hq⟩ : ∃ q, b / 2 ^ i = q := ⟨_, rfl⟩
      rw [hq] at hdb
      have HQ := hide (by rw [← hq, Int.natCast_ediv]; simp : (b : Int) / 2 ^ i = (q : Int))
      by_cases hbit : q % 2 = 1
      · rw [hdb, if_pos (by simpa using hbit)] at HS
        have hq2 : (q : Int) % 2 = 1 := by omega
        have hq3 : (q : Int).tmod 2 = 1 := by rw [Int.tmod_eq_emod_of_nonneg (by omega)]; omega
        clear hdb hq
        have HC1 := hide (by have h9 := unhide HC; unfold cnt at h9; omega : (setB b i).length + 1 ≤ 1000000000000)
        have HN := hide (heap_alloc_new wr (.cells #[.int .i64 (i : Int)] 3))
        have HO1 := hide ((unhide HO).pass ((Kept.refl [] wr).alloc (.cells #[.int .i64 (i : Int)] 3)))
        go_wp2_with (first
          | (refine wpList_shrN rfl _ _ _ _ rfl b i _ hlt rfl rfl (unhide HQ) ?_)
          | (refine wpList_pushZ rfl _ _ rfl rfl w _ _ (setB b i) [i] wr.heap.size 1 (unhide HO1) (unhide HN) rfl (by decide) (unhide HC1) rfl rfl ?_; intro g cap w1 HO2))
        refine ⟨⟨i + 1, by omega, by simp, hide (by rw [unhide HS]; exact unhide HO2)⟩, ?_⟩
        simp [intOf]; omega
      · rw [hdb, if_neg (by simpa using hbit)] at HS
        have hq2 : (q : Int) % 2 = 0 := by omega
        have hq3 : (q : Int).tmod 2 = 0 := by rw [Int.tmod_eq_emod_of_nonneg (by omega)]; omega
        clear hdb hq
        go_wp2_with (refine wpList_shrN rfl _ _ _ _ rfl b i _ hlt rfl rfl (unhide HQ) ?_)
        go_roundw
        case rel => exact ⟨i + 1, by omega, by go_num, hide (by rw [unhide HS]; exact unhide HO)⟩
        case measure => simp [intOf]; omega
    · have hlt' : ¬ (i : Int) < 16 := by omega
      obtain rfl : i = 16 := by omega
      go_wp2
      go_ret
      exact ⟨_, rfl, (unhide HO).rd, (unhide HO).kept⟩

set_option maxRecDepth 100000 in
set_option maxHeartbeats 1000000 in
theorem rhas_any (b : Nat) (z : Int) (w : World) (hb : b < 65536) (hz : -9223372036854775808 ≤ z ∧ z ≤ 9223372036854775807) :
    Calls Tryz.prog 54 #[.int .u16 b, .int .i64 z] w fun e w' => e = .returned (.bool (hasB b z)) ∧ Kept [] w w' := by
  have HM := hide (fun j => setB_mem b 16 j)
  go_enter Tryz.func54, Tryz.ntmps54
  go_wp2_with fail
  refine Calls.mono (rset_any b _ hb) ?_
  rintro e w1 ⟨v1, rfl, r1, k1⟩
  have HR := hide r1
  have HK := hide k1
  obtain ⟨ao, cap, rfl, hc1, hc2, _⟩ := id r1
  clear r1 k1
  generalize setB b 16 = S at *
  go_wp2_with fail
  go_loopw [10] (fun t7 wr => ∃ (i : Nat), i ≤ S.length ∧ t7 = .int .i64 i ∧ Hid (∀ j, j < i → (S.getD j 0 : Int) ≠ z) ∧ Hid (Kept [] w1 wr)) (fun t _ => S.length - (intOf t).toNat)
  case atStart => exact ⟨0, by omega, rfl, hide (by omega), hide (Kept.refl _ _)⟩
  case round =>
    obtain ⟨i, hi, rfl, HA, HK1⟩ := hrel
    by_cases hlt : i < S.length
    · have hlt' : (i : Int) < S.length := by omega
      obtain ⟨a2, c2, e2, _, _, h2⟩ := id (unhide HR)
      cases e2
      obtain ⟨g, off, rfl, hcell⟩ := h2 (by omega)
      have ci := (unhide HK1).cell (hcell i hlt) (by simp)
      clear hcell h2
      have hmem : S.getD i 0 ∈ S := by rw [List.getD_eq_getElem?_getD, List.getElem?_eq_getElem hlt]; exact List.getElem_mem hlt
      obtain ⟨x, hx⟩ : ∃ x, S.getD i 0 = x := ⟨_, rfl⟩
      rw [hx] at ci hmem
      by_cases hxz : (x : Int) = z
      · have HE := hide (by
          have h9 := (unhide HM x).1 hmem
          unfold hasB; rw [← hxz, Int.toNat_natCast, h9.2]; simp; omega : hasB b z = true)
        clear hx hmem
        subst hxz
        go_wp2
        go_ret
        exact ⟨by rw [unhide HE]; rfl, (unhide HK).trans (unhide HK1) (by simp)⟩
      · have HN := hide (fun j (hj : j < i + 1) => by
          rcases Nat.lt_or_ge j i with g | g
          · exact unhide HA j g
          · rw [show j = i by omega, hx]; exact hxz : ∀ j, j < i + 1 → (S.getD j 0 : Int) ≠ z)
        clear hx hmem
        go_wp2
        go_roundw
        case rel => exact ⟨i + 1, by omega, by go_num, HN, HK1⟩
        case measure => simp [intOf]; omega
    · have hlt' : ¬ (i : Int) < S.length := by omega
      have HE := hide (by
        cases hh : hasB b z with
        | false => rfl
        | true =>
          unfold hasB at hh
          simp only [Bool.and_eq_true, decide_eq_true_eq] at hh
          have h9 := (unhide HM z.toNat).2 ⟨by omega, hh.2.2⟩
          obtain ⟨j, hj, he⟩ := List.getElem_of_mem h9
          exact absurd (by rw [List.getD_eq_getElem?_getD, List.getElem?_eq_getElem hj, Option.getD_some, he]; omega) (unhide HA j (by omega)) : hasB b z = false)
      go_wp2
      go_ret
      exact ⟨by rw [unhide HE]; rfl, (unhide HK).trans (unhide HK1) (by simp)⟩

theorem cnt_take : ∀ (l : List Nat) (z : Int) (i : Nat), i < l.length → ((l.take (i + 1)).filter (fun (j : Nat) => decide ((j : Int) < z))).length = ((l.take i).filter (fun (j : Nat) => decide ((j : Int) < z))).length + if (l.getD i 0 : Int) < z then 1 else 0 := by
  intro l z i hi
  rw [List.take_succ_eq_append_getElem hi, List.filter_append, List.length_append, List.getD_eq_getElem?_getD, List.getElem?_eq_getElem hi]
  simp only [Option.getD_some, List.filter_cons, List.filter_nil]
  split <;> simp_all
theorem setB_below (b : Nat) (z : Int) : ∀ k : Nat, ((setB b k).filter (fun (j : Nat) => decide ((j : Int) < z))).length = if z < 0 then 0 else cnt b (min k z.toNat)
  | 0 => by simp [setB, cnt]
  | k + 1 => by
    have ih := setB_below b z k
    unfold setB
    by_cases hz : z < 0
    · rw [if_pos hz] at ih ⊢
      split
      · rw [List.filter_append, List.length_append, ih]; simp; omega
      · exact ih
    · rw [if_neg hz] at ih ⊢
      by_cases hk : (k : Int) < z
      · rw [show min (k + 1) z.toNat = k + 1 by omega, cnt_succ]
        rw [show min k z.toNat = k by omega] at ih
        split
        · rw [List.filter_append, List.length_append, ih]; simp [hk]
        · rw [ih]; simp
      · rw [show min (k + 1) z.toNat = z.toNat by omega]
        rw [show min k z.toNat = z.toNat by omega] at ih
        split
        · rw [List.filter_append, List.length_append, ih]; simp; omega
        · exact ih
theorem rankB_set (b : Nat) (z : Int) : ((setB b 16).filter (fun (j : Nat) => decide ((j : Int) < z))).length = rankB b z := by
  rw [setB_below]
  unfold rankB
  split
  · rfl
  · split
    · rw [show min 16 z.toNat = z.toNat by omega]
    · rw [show min 16 z.toNat = 16 by omega]

set_option maxRecDepth 100000 in
set_option maxHeartbeats 1000000 in
theorem rrank_any (b : Nat) (z : Int) (w : World) (hb : b < 65536) (hz : -9223372036854775808 ≤ z ∧ z ≤ 9223372036854775807) :
    Calls Tryz.prog 59 #[.int .u16 b, .int .i64 z] w fun e w' => e = .returned (.int .i64 (rankB b z : Int)) ∧ Kept [] w w' := by
  have HM := hide (rankB_set b z)
  have HL := hide (cnt_le b 16)
  unfold cnt at HL
  go_enter Tryz.func59, Tryz.ntmps59
  go_wp2_with fail
  refine Calls.mono (rset_any b _ hb) ?_
  rintro e w1 ⟨v1, rfl, r1, k1⟩
  have HR := hide r1
  have HK := hide k1
  obtain ⟨ao, cap, rfl, hc1, hc2, _⟩ := id r1
  clear r1 k1
  generalize setB b 16 = S at *
  go_wp2_with fail
  have HT := hide (cnt_take S z)
  go_loopw [5, 11] (fun t3 t11 wr => ∃ (i c : Nat), i ≤ S.length ∧ t11 = .int .i64 i ∧ t3 = .int .i64 c ∧ c ≤ i ∧ Hid (c = ((S.take i).filter (fun (j : Nat) => decide ((j : Int) < z))).length) ∧ Hid (Kept [] w1 wr)) (fun _ t _ => S.length - (intOf t).toNat)
  case atStart => exact ⟨0, 0, by omega, rfl, rfl, by omega, hide (by simp), hide (Kept.refl _ _)⟩
  case round =>
    obtain ⟨i, c, hi, rfl, rfl, hci, HA, HK1⟩ := hrel
    by_cases hlt : i < S.length
    · have hlt' : (i : Int) < S.length := by omega
      have hl16 := unhide HL
      obtain ⟨a2, c2, e2, _, _, h2⟩ := id (unhide HR)
      cases e2
      obtain ⟨g, off, rfl, hcell⟩ := h2 (by omega)
      have ci := (unhide HK1).cell (hcell i hlt) (by simp)
      have HT1 := hide (unhide HT i hlt)
      clear hcell h2
      obtain ⟨x, hx⟩ : ∃ x, S.getD i 0 = x := ⟨_, rfl⟩
      rw [hx] at ci HT1
      by_cases hxz : (x : Int) < z
      · rw [if_pos hxz] at HT1
        go_wp2
        go_roundw
        case rel => exact ⟨i + 1, c + 1, by omega, by go_num, by go_num, by omega, hide (by rw [unhide HT1, ← unhide HA]), HK1⟩
        case measure => simp [intOf]; omega
      · rw [if_neg hxz] at HT1
        go_wp2
        go_roundw
        case rel => exact ⟨i + 1, c, by omega, by go_num, rfl, by omega, hide (by rw [unhide HT1, ← unhide HA]; rfl), HK1⟩
        case measure => simp [intOf]; omega
    · have hlt' : ¬ (i : Int) < S.length := by omega
      have hie : i = S.length := by omega
      subst hie
      rw [List.take_length] at HA
      go_wp2
      go_ret
      exact ⟨by rw [← unhide HM, ← unhide HA]; rfl, (unhide HK).trans (unhide HK1) (by simp)⟩

end Go.Proofs.YtjafmnemobcipaaGreatDoor
namespace Go.Proofs.YtjafmnemobcipaaGreatDoor
open Go.RowKit Go.BigFrame
set_option linter.unusedVariables false
set_option linter.unusedSimpArgs false

/-- What steps asks of the step i, of so many pairs m. -/
def okR (path : List Nat) (ss : List (Nat × List (List Nat))) (m i : Nat) : Bool :=
  decide (cnt (ss.getD i (0, [])).1 16 ≠ 0) && (if hasB (ss.getD i (0, [])).1 (path.getD i 0 : Nat) then decide ((ss.getD i (0, [])).2.length + 1 = cnt (ss.getD i (0, [])).1 16) && !(decide (i + 1 = ss.length) && (decide (m = 0) || decide (cnt (ss.getD i (0, [])).1 16 = 1)))
    else decide (i + 1 = ss.length) && (decide ((ss.getD i (0, [])).2.length = cnt (ss.getD i (0, [])).1 16) && decide (m = 0)))
def stpR (path : List Nat) (ss : List (Nat × List (List Nat))) (m : Nat) : Nat → Bool
  | 0 => true
  | i + 1 => stpR path ss m i && okR path ss m i
theorem stpR_down {path : List Nat} {ss : List (Nat × List (List Nat))} {m i : Nat} : ∀ (n : Nat), i ≤ n → stpR path ss m i = false → stpR path ss m n = false
  | 0, h, e => by obtain rfl : i = 0 := by omega
                  exact e
  | n + 1, h, e => by
    rcases Nat.lt_or_ge n i with h9 | h9
    · obtain rfl : i = n + 1 := by omega
      exact e
    · rw [stpR, stpR_down n h9 e, Bool.false_and]

theorem cnt_set (b : Nat) : (setB b 16).length = cnt b 16 := rfl

set_option maxRecDepth 100000 in
set_option maxHeartbeats 2000000 in
theorem rsteps_any (k : Nat) (pathv sv pv : Value) (path : List Nat) (ss : List (Nat × List (List Nat))) (ps : List (List Nat × List Nat)) (w : World) (hk : 1 ≤ k ∧ k ≤ 32) (hpa : RdZ w pathv path) (hpl : path.length = 2 * k) (hpx : ∀ x ∈ path, x < 16) (hs : RdS w sv ss) (hp : RdK w pv ps) (hkl : ∀ s ∈ ss, s.2.length ≤ 1000000000) :
    Calls Tryz.prog 29 #[.int .i64 k, pathv, .agg #[sv, pv]] w fun e w' => e = .returned (.bool (decide (ss.length ≤ 2 * k) && stpR path ss ps.length ss.length)) ∧ Kept [] w w' := by
  obtain ⟨sa, ls, sc, vs, rfl, s1, s2, s3, s4, s5⟩ := hs
  obtain ⟨pa, pn, pc, _, _, rfl, p1, p2, p3, _⟩ := hp
  obtain ⟨ha, hc, rfl, z1, z2, z3⟩ := hpa
  have S4 := hide s4
  have S5 := hide s5
  have Z3 := hide z3
  have HPX := hide hpx
  have HKL := hide hkl
  rw [hpl] at z1 ⊢
  have HPL := hide hpl
  clear s4 s5 z3 hpx hkl hpl
  have HK0 := hide ((Kept.refl [] w).alloc (.cells #[.slice sa ls sc, .slice pa pn pc] 26))
  have HG0 := hide (heap_alloc_new w (.cells #[.slice sa ls sc, .slice pa pn pc] 26))
  obtain ⟨W, hW⟩ : ∃ W, w.alloc (.cells #[.slice sa ls sc, .slice pa pn pc] 26) = W := ⟨_, rfl⟩
  rw [hW] at HK0 HG0
  have c0 : W.cell? ⟨w.heap.size, 0, none⟩ = some (.slice sa ls sc) := cell_of_row _ _ 0 _ _ _ (unhide HG0)
  rw [s1, p1]
  have HS1 := hide s1
  have HP1 := hide p1
  clear s1 p1
  have hm2 : IntKind.i64.wrap (2 * (k : Int)) = 2 * (k : Int) := by simp [IntKind.wrap, IntKind.signed, IntKind.bits]; omega
  go_enter Tryz.func29, Tryz.ntmps29
  by_cases hbig : 2 * k < ls
  · have hbig' : decide (2 * (k : Int) < ls) = true := by simp; omega
    go_wp2_with (rw [hW])
    go_ret
    exact ⟨by rw [decide_eq_false (by omega : ¬ ls ≤ 2 * k)]; rfl, unhide HK0⟩
  · have hbig' : decide (2 * (k : Int) < ls) = false := by simp; omega
    rw [decide_eq_true (by omega : ls ≤ 2 * k), Bool.true_and]
    go_wp2_with (rw [hW])
    clear hW c0 hbig'
    go_loopw [20] (fun t20 wr => ∃ (i : Nat), i ≤ ls ∧ t20 = .int .i64 i ∧ Hid (stpR path ss pn i = true) ∧ Hid (Kept [] w wr) ∧ Hid (wr.heap[w.heap.size]? = some (.cells #[.slice sa ls sc, .slice pa pn pc] 26 (0, 0)))) (fun t _ => ls - (intOf t).toNat)
    case atStart => exact ⟨0, Nat.zero_le _, rfl, hide rfl, HK0, HG0⟩
    case round =>
      obtain ⟨i, hi, rfl, HA, HK, HG⟩ := hrel
      by_cases hlt : i < ls
      · have hlt' : (i : Int) < ls := by omega
        obtain ⟨b, o, rfl, hcell⟩ := unhide S5 (by omega)
        have q1 := (unhide HK).cell (hcell i hlt).1 (by simp)
        have q2 := (unhide HK).cell (hcell i hlt).2 (by simp)
        have HD := hide (unhide S4 i hlt)
        obtain ⟨zb', zo, rfl, zcell⟩ := unhide Z3 (by rw [unhide HPL]; omega)
        have q3 := (unhide HK).cell (zcell i (by rw [unhide HPL]; omega)) (by simp)
        have HOK := hide (by unfold okR; rw [unhide HS1] : okR path ss pn i = (decide (cnt (ss.getD i (0, [])).1 16 ≠ 0) && (if hasB (ss.getD i (0, [])).1 (path.getD i 0 : Nat) then decide ((ss.getD i (0, [])).2.length + 1 = cnt (ss.getD i (0, [])).1 16) && !(decide (i + 1 = ls) && (decide (pn = 0) || decide (cnt (ss.getD i (0, [])).1 16 = 1)))
          else decide (i + 1 = ls) && (decide ((ss.getD i (0, [])).2.length = cnt (ss.getD i (0, [])).1 16) && decide (pn = 0)))))
        have HST := hide (by rw [stpR, unhide HA, Bool.true_and] : stpR path ss pn (i + 1) = okR path ss pn i)
        have HDN := hide (fun h => stpR_down (path := path) (ss := ss) (m := pn) (i := i + 1) ls hlt h)
        have hx16 : path.getD i 0 < 16 := unhide HPX _ (by rw [List.getD_eq_getElem?_getD, List.getElem?_eq_getElem (by rw [unhide HPL]; omega)]; exact List.getElem_mem _)
        have hskl := unhide HKL (ss.getD i (0, [])) (by rw [List.getD_eq_getElem?_getD, List.getElem?_eq_getElem (by rw [unhide HS1]; exact hlt)]; exact List.getElem_mem _)
        clear hcell zcell
        generalize path.getD i 0 = px at *
        generalize ss.getD i (0, []) = s at *
        generalize vs.getD i undef = vi at q2 HD
        obtain ⟨sb, sk⟩ := s
        simp only at q1 HD HOK hskl
        obtain ⟨a8, m8, c8, hv8, hm8, _⟩ := id (unhide HD).2
        subst hv8
        have HM8 := hide hm8
        rw [hm8] at HOK hskl
        clear hm8
        have HKa := hide ((Kept.refl [] wr).alloc (.cells #[.int .u16 sb, .slice a8 m8 c8] 49))
        have HGa := hide (heap_alloc_new wr (.cells #[.int .u16 sb, .slice a8 m8 c8] 49))
        go_wp2_with fail
        refine Calls.mono (rset_any sb _ (unhide HD).1) ?_
        rintro e w1 ⟨v1, rfl, r1, k1⟩
        obtain ⟨a1, cap1, rfl, _, _, _⟩ := id r1
        rw [cnt_set]
        have hc16 := cnt_le sb 16
        generalize cnt sb 16 = C at *
        have HK1 := hide (((unhide HK).trans (unhide HKa) (by simp)).trans k1 (by simp))
        have HGp := hide (k1.heap ((unhide HKa).heap (unhide HG) (by simp)) (by simp))
        have HGs := hide (k1.heap (unhide HGa) (by simp))
        have e3 := k1.cell ((unhide HKa).cell q3 (by simp)) (by simp)
        have e0 : w1.cell? ⟨w.heap.size, 0, none⟩ = some (.slice (some ⟨b, o, none⟩) ls sc) := cell_of_row _ _ 0 _ _ _ (unhide HGp)
        have e1 : w1.cell? ⟨w.heap.size, 1, none⟩ = some (.slice pa pn pc) := cell_of_row _ _ 1 _ _ _ (unhide HGp)
        have f0 : w1.cell? ⟨wr.heap.size, 0, none⟩ = some (.int .u16 sb) := cell_of_row _ _ 0 _ _ _ (unhide HGs)
        have f1 : w1.cell? ⟨wr.heap.size, 1, none⟩ = some (.slice a8 m8 c8) := cell_of_row _ _ 1 _ _ _ (unhide HGs)
        clear r1 k1 q1 q2 q3 HKa HGa
        have hw1 : IntKind.i64.wrap ((ls : Int) - 1) = (ls : Int) - 1 := by simp [IntKind.wrap, IntKind.signed, IntKind.bits]; omega
        have hw2 : IntKind.i64.wrap ((C : Int) - 1) = (C : Int) - 1 := by simp [IntKind.wrap, IntKind.signed, IntKind.bits]; omega
        obtain hL | hL : i + 1 = ls ∨ ¬ i + 1 = ls := by omega
        · have fL : ((i : Int) == (ls : Int) - 1) = true := by simp; omega
          rw [decide_eq_true hL] at HOK
          clear hL
          by_cases hC0 : C = 0
          · have fC : ((C : Int) == 0) = true := by simp; omega
            have HF := hide (unhide HDN (by rw [unhide HST, unhide HOK, hC0]; rfl))
            clear hC0
            go_wp2
            go_ret
            exact ⟨by rw [unhide HF]; rfl, unhide HK1⟩
          · have fC : ((C : Int) == 0) = false := by simp; omega
            rw [decide_eq_true hC0, Bool.true_and] at HOK
            clear hC0
            have hne : ∀ p : Prop, (∀ w', Kept [] w1 w' → p) = p := fun p => propext ⟨fun h => h w1 (Kept.refl [] w1), fun h _ _ => h⟩
            have HHS := hide (fun w' (hw' : Kept [] w1 w') => (rhas_any sb (px : Int) w' (unhide HD).1 (by omega)).mono (fun e w2 (h2 : _ ∧ _) => (⟨h2.1, hw'.trans h2.2 (by simp)⟩ : _ ∧ Kept [] w1 w2)))
            have hik : (i : Int) < ((2 * k : Nat) : Int) := by omega
            generalize hasB sb (px : Int) = H at HOK HHS
            go_wp2_with fail
            refine wp_region_keep (by kernel_rfl) (by kernel_rfl) ?_
            go_big_quiet_step (fail)
            refine wpQuiet_val rfl (.int .u16 sb) (fun w' hw' => by have h9 := hw'.cell f0 (by simp); go_simp) ?_
            simp only [Act.put, List.setIfInBounds_toArray, List.set_cons_succ, List.set_cons_zero]
            iterate 3 (go_big_quiet_step (fail))
            refine wpQuiet_val rfl (.int .i64 px) (fun w' hw' => by have h9 := hw'.cell e3 (by simp); go_simp) ?_
            simp only [Act.put, List.setIfInBounds_toArray, List.set_cons_succ, List.set_cons_zero]
            go_big_quiet_want
            go_big_quiet_op
            apply Exists.intro
            refine ⟨fun w' hw' => ?_, ?_⟩
            · exact unhide HHS w' hw'
            go_big_quiet_on
            repeat (go_big_quiet_step (fail))
            refine wpQuiet_nil ?_
            intro w2 k2
            have HK2 := hide ((unhide HK1).trans k2 (by simp))
            have HG2 := hide (k2.heap (unhide HGp) (by simp))
            have d1 := k2.cell e1 (by simp)
            have d2 := k2.cell f1 (by simp)
            clear k2 e0 e1 e3 f0 f1 HK1 HGp HGs
            clear HHS hne
            cases H with
            | true =>
              by_cases h1 : m8 + 1 = C
              · have g1 : ((m8 : Int) != (C : Int) - 1) = false := by simp; omega
                by_cases hm : pn = 0
                · have gm : ((pn : Int) == 0) = true := by simp; omega
                  have HF := hide (unhide HDN (by rw [unhide HST, unhide HOK]; simp [h1, hm]))
                  clear hm h1
                  go_wp2
                  go_ret
                  exact ⟨by rw [unhide HF]; rfl, unhide HK2⟩
                · have gm : ((pn : Int) == 0) = false := by simp; omega
                  by_cases hC1 : C = 1
                  · have gC : ((C : Int) == 1) = true := by simp; omega
                    have HF := hide (unhide HDN (by rw [unhide HST, unhide HOK]; simp [h1, hm, hC1]))
                    clear hm h1 hC1
                    go_wp2
                    go_ret
                    exact ⟨by rw [unhide HF]; rfl, unhide HK2⟩
                  · have gC : ((C : Int) == 1) = false := by simp; omega
                    have HN := hide (by rw [unhide HST, unhide HOK]; simp [h1, hm, hC1] : stpR path ss pn (i + 1) = true)
                    clear hm h1 hC1
                    go_wp2
                    go_roundw
                    case rel => exact ⟨i + 1, hlt, by go_num, HN, HK2, HG2⟩
                    case measure => simp [intOf]; omega
              · have g1 : ((m8 : Int) != (C : Int) - 1) = true := by simp; omega
                have HF := hide (unhide HDN (by rw [unhide HST, unhide HOK]; simp [h1]))
                clear h1
                go_wp2
                go_ret
                exact ⟨by rw [unhide HF]; rfl, unhide HK2⟩
            | false =>
              by_cases h1 : m8 = C
              · have g1 : ((m8 : Int) != (C : Int)) = false := by simp; omega
                by_cases hm : pn = 0
                · have gm : decide (0 < pn) = false := by simp; omega
                  have HN := hide (by rw [unhide HST, unhide HOK]; simp [h1, hm] : stpR path ss pn (i + 1) = true)
                  clear hm h1
                  go_wp2
                  go_roundw
                  case rel => exact ⟨i + 1, hlt, by go_num, HN, HK2, HG2⟩
                  case measure => simp [intOf]; omega
                · have gm : decide (0 < pn) = true := by simp; omega
                  have HF := hide (unhide HDN (by rw [unhide HST, unhide HOK]; simp [h1, hm]))
                  clear hm h1
                  go_wp2
                  go_ret
                  exact ⟨by rw [unhide HF]; rfl, unhide HK2⟩
              · have g1 : ((m8 : Int) != (C : Int)) = true := by simp; omega
                have HF := hide (unhide HDN (by rw [unhide HST, unhide HOK]; simp [h1]))
                clear h1
                go_wp2
                go_ret
                exact ⟨by rw [unhide HF]; rfl, unhide HK2⟩
        · have fL : ((i : Int) == (ls : Int) - 1) = false := by simp; omega
          rw [decide_eq_false hL] at HOK
          clear hL
          by_cases hC0 : C = 0
          · have fC : ((C : Int) == 0) = true := by simp; omega
            have HF := hide (unhide HDN (by rw [unhide HST, unhide HOK, hC0]; rfl))
            clear hC0
            go_wp2
            go_ret
            exact ⟨by rw [unhide HF]; rfl, unhide HK1⟩
          · have fC : ((C : Int) == 0) = false := by simp; omega
            rw [decide_eq_true hC0, Bool.true_and] at HOK
            clear hC0
            have hne : ∀ p : Prop, (∀ w', Kept [] w1 w' → p) = p := fun p => propext ⟨fun h => h w1 (Kept.refl [] w1), fun h _ _ => h⟩
            have HHS := hide (fun w' (hw' : Kept [] w1 w') => (rhas_any sb (px : Int) w' (unhide HD).1 (by omega)).mono (fun e w2 (h2 : _ ∧ _) => (⟨h2.1, hw'.trans h2.2 (by simp)⟩ : _ ∧ Kept [] w1 w2)))
            have hik : (i : Int) < ((2 * k : Nat) : Int) := by omega
            generalize hasB sb (px : Int) = H at HOK HHS
            go_wp2_with fail
            refine wp_region_keep (by kernel_rfl) (by kernel_rfl) ?_
            go_big_quiet_step (fail)
            refine wpQuiet_val rfl (.int .u16 sb) (fun w' hw' => by have h9 := hw'.cell f0 (by simp); go_simp) ?_
            simp only [Act.put, List.setIfInBounds_toArray, List.set_cons_succ, List.set_cons_zero]
            iterate 3 (go_big_quiet_step (fail))
            refine wpQuiet_val rfl (.int .i64 px) (fun w' hw' => by have h9 := hw'.cell e3 (by simp); go_simp) ?_
            simp only [Act.put, List.setIfInBounds_toArray, List.set_cons_succ, List.set_cons_zero]
            go_big_quiet_want
            go_big_quiet_op
            apply Exists.intro
            refine ⟨fun w' hw' => ?_, ?_⟩
            · exact unhide HHS w' hw'
            go_big_quiet_on
            repeat (go_big_quiet_step (fail))
            refine wpQuiet_nil ?_
            intro w2 k2
            have HK2 := hide ((unhide HK1).trans k2 (by simp))
            have HG2 := hide (k2.heap (unhide HGp) (by simp))
            have d1 := k2.cell e1 (by simp)
            have d2 := k2.cell f1 (by simp)
            clear k2 e0 e1 e3 f0 f1 HK1 HGp HGs
            clear HHS hne
            cases H with
            | true =>
              by_cases h1 : m8 + 1 = C
              · have g1 : ((m8 : Int) != (C : Int) - 1) = false := by simp; omega
                have HN := hide (by rw [unhide HST, unhide HOK]; simp [h1] : stpR path ss pn (i + 1) = true)
                clear h1
                go_wp2
                go_roundw
                case rel => exact ⟨i + 1, hlt, by go_num, HN, HK2, HG2⟩
                case measure => simp [intOf]; omega
              · have g1 : ((m8 : Int) != (C : Int) - 1) = true := by simp; omega
                have HF := hide (unhide HDN (by rw [unhide HST, unhide HOK]; simp [h1]))
                clear h1
                go_wp2
                go_ret
                exact ⟨by rw [unhide HF]; rfl, unhide HK2⟩
            | false =>
              have HF := hide (unhide HDN (by rw [unhide HST, unhide HOK]; simp []))
              go_wp2
              go_ret
              exact ⟨by rw [unhide HF]; rfl, unhide HK2⟩
      · have hlt' : ¬ (i : Int) < ls := by omega
        have HA2 := hide (by have h9 := unhide HA; rw [show i = ls by omega] at h9; exact h9 : stpR path ss pn ls = true)
        go_wp2
        go_ret
        exact ⟨by rw [unhide HA2]; rfl, unhide HK⟩
end Go.Proofs.YtjafmnemobcipaaGreatDoor
namespace Go.Proofs.YtjafmnemobcipaaGreatDoor
open Go.RowKit Go.BigFrame
set_option linter.unusedVariables false
set_option linter.unusedSimpArgs false

theorem cnt_zero_bit {b : Nat} : ∀ {k : Nat}, cnt b k = 0 → ∀ i, i < k → b.testBit i = false
  | 0, _, i, hi => by omega
  | k + 1, h, i, hi => by
    rw [cnt_step] at h
    rcases Nat.lt_or_ge i k with h9 | h9
    · exact cnt_zero_bit (by omega) i h9
    · obtain rfl : i = k := by omega
      cases hb : b.testBit i with
      | false => rfl
      | true => rw [hb] at h; simp at h
theorem cnt_ne {b : Nat} (hb : b < 65536) : decide (b ≠ 0) = decide (cnt b 16 ≠ 0) := by
  by_cases h : cnt b 16 = 0
  · have hz : b = 0 := by
      apply Nat.eq_of_testBit_eq
      intro i
      rw [Nat.zero_testBit]
      rcases Nat.lt_or_ge i 16 with h9 | h9
      · exact cnt_zero_bit h i h9
      · exact Nat.testBit_lt_two_pow (Nat.lt_of_lt_of_le hb (by rw [show 65536 = 2 ^ 16 by decide]; exact Nat.pow_le_pow_right (by omega) h9))
    rw [decide_eq_false (by simp [hz]), decide_eq_false (by simp [h])]
  · have hz : b ≠ 0 := by
      rintro rfl
      have h0 : cnt 0 16 = 0 := by decide
      exact h h0
    rw [decide_eq_true hz, decide_eq_true h]
theorem okR_fit {z : Int} {ks path : List Nat} {ss : List (Nat × List (List Nat))} {m i : Nat} (hb : (ss.getD i (0, [])).1 < 65536) (hi : i < ss.length) (hc : ((path.getD i 0 : Nat) : Int) = ((atC z ks i : Nat) : Int)) :
    okR path ss m i = (fitS (ss.getD i (0, [])).1 (ss.getD i (0, [])).2.length (atC z ks i) (decide (i + 1 < ss.length) || decide (0 < m)) && (decide (i + 1 < ss.length) || (decide (m = 0) || decide (cnt (ss.getD i (0, [])).1 16 ≠ 1)))) := by
  unfold okR fitS
  rw [hc, cnt_ne hb]
  generalize (ss.getD i (0, [])).1 = b
  generalize (ss.getD i (0, [])).2.length = n
  generalize hasB b ((atC z ks i : Nat) : Int) = H
  generalize cnt b 16 = C
  by_cases hl : i + 1 < ss.length
  · rw [decide_eq_true hl, decide_eq_false (by omega : ¬ i + 1 = ss.length)]
    cases H with
    | true => by_cases h1 : C = n + 1 <;> by_cases h2 : C = 0 <;> simp [h1, h2] <;> omega
    | false => simp
  · rw [decide_eq_false hl, decide_eq_true (by omega : i + 1 = ss.length)]
    by_cases hm : m = 0
    · subst hm
      cases H with
      | true => simp
      | false => by_cases h1 : C = n <;> by_cases h2 : C = 0 <;> simp [h1, h2] <;> omega
    · have hm0 : 0 < m := by omega
      cases H with
      | true => by_cases h1 : C = n + 1 <;> by_cases h2 : C = 0 <;> by_cases h3 : C = 1 <;> simp [h1, h2, h3, hm, hm0] <;> omega
      | false => simp [hm, hm0]
theorem stpR_fits {z : Int} {ks path : List Nat} {ss : List (Nat × List (List Nat))} {m : Nat} (hb : ∀ s ∈ ss, s.1 < 65536) (hc : ∀ i, i < ss.length → ((path.getD i 0 : Nat) : Int) = ((atC z ks i : Nat) : Int)) :
    ∀ n, n < ss.length → stpR path ss m n = fitsB z ks ss m n
  | 0, _ => rfl
  | n + 1, h => by
    rw [stpR, fitsB, stpR_fits hb hc n (by omega), okR_fit (hb _ (by rw [List.getD_eq_getElem?_getD, List.getElem?_eq_getElem (by omega)]; exact List.getElem_mem _)) (by omega) (hc n (by omega)), decide_eq_true h]
    simp
theorem stpR_all {z : Int} {ks path : List Nat} {ss : List (Nat × List (List Nat))} {m : Nat} (hb : ∀ s ∈ ss, s.1 < 65536) (hc : ∀ i, i < ss.length → ((path.getD i 0 : Nat) : Int) = ((atC z ks i : Nat) : Int)) :
    stpR path ss m ss.length = (fitsB z ks ss m ss.length && (decide (ss.length = 0) || (decide (m = 0) || decide (cnt (ss.getD (ss.length - 1) (0, [])).1 16 ≠ 1)))) := by
  cases hn : ss.length with
  | zero => simp [stpR, fitsB]
  | succ n =>
    rw [stpR, fitsB, stpR_fits hb hc n (by omega), okR_fit (hb _ (by rw [List.getD_eq_getElem?_getD, List.getElem?_eq_getElem (by omega)]; exact List.getElem_mem _)) (by omega) (hc n (by omega)), hn, decide_eq_false (Nat.lt_irrefl _), Nat.add_sub_cancel, Bool.and_assoc]
    simp

/-- What pairs asks of the pair i. -/
def okP (z : Int) (path : List Nat) (n : Nat) (ps : List (List Nat × List Nat)) (i : Nat) : Bool :=
  decide ((ps.getD i ([], [])).1.length ≤ 64) && (decide ((ps.getD i ([], [])).2.length ≤ 256) && ((decide (i = 0) || decide (ordL (ps.getD (i - 1) ([], [])).1 (ps.getD i ([], [])).1 < 0)) &&
    (decide (keyS z (ps.getD i ([], [])).1 = keyS z (ps.getD 0 ([], [])).1) && (List.range n).all (fun j => decide (dgt (keyS z (ps.getD i ([], [])).1) j = path.getD j 0)))))
def prsR (z : Int) (path : List Nat) (n : Nat) (ps : List (List Nat × List Nat)) : Nat → Bool
  | 0 => true
  | i + 1 => prsR z path n ps i && okP z path n ps i
theorem prsR_down {z : Int} {path : List Nat} {n : Nat} {ps : List (List Nat × List Nat)} {i : Nat} : ∀ (m : Nat), i ≤ m → prsR z path n ps i = false → prsR z path n ps m = false
  | 0, h, e => by obtain rfl : i = 0 := by omega
                  exact e
  | m + 1, h, e => by
    rcases Nat.lt_or_ge m i with h9 | h9
    · obtain rfl : i = m + 1 := by omega
      exact e
    · rw [prsR, prsR_down m h9 e, Bool.false_and]
theorem prsR_iff {z : Int} {path : List Nat} {n : Nat} {ps : List (List Nat × List Nat)} : ∀ (m : Nat), prsR z path n ps m = true ↔ ∀ i, i < m → okP z path n ps i = true
  | 0 => ⟨fun _ i h => by omega, fun _ => rfl⟩
  | m + 1 => by
    rw [prsR, Bool.and_eq_true, prsR_iff m]
    refine ⟨fun h i hi => ?_, fun h => ⟨fun i hi => h i (by omega), h m (by omega)⟩⟩
    rcases Nat.lt_or_ge i m with h9 | h9
    · exact h.1 i h9
    · obtain rfl : i = m := by omega
      exact h.2
theorem risB_iff {ps : List (List Nat × List Nat)} : ∀ (m : Nat), risB ps m = true ↔ ∀ i, i < m → (decide ((ps.getD i ([], [])).1.length ≤ 64) && (decide ((ps.getD i ([], [])).2.length ≤ 256) && (decide (i = 0) || decide (ordL (ps.getD (i - 1) ([], [])).1 (ps.getD i ([], [])).1 < 0)))) = true
  | 0 => ⟨fun _ i h => by omega, fun _ => rfl⟩
  | m + 1 => by
    rw [risB, Bool.and_eq_true, risB_iff m]
    refine ⟨fun h i hi => ?_, fun h => ⟨fun i hi => h i (by omega), h m (by omega)⟩⟩
    rcases Nat.lt_or_ge i m with h9 | h9
    · exact h.1 i h9
    · obtain rfl : i = m := by omega
      exact h.2
theorem prsR_han {z : Int} {ks path : List Nat} {n : Nat} {ps : List (List Nat × List Nat)} (hw : widthB z = true) (hks : formB z ks = true) (hn : n ≤ 2 * z.toNat) (hp : ∀ j, j < n → path.getD j 0 = dgt ks j) (h0 : 0 < ps.length) :
    prsR z path n ps ps.length = (risB ps ps.length && hanB z ks n ps) := by
  rw [Bool.eq_iff_iff, prsR_iff, Bool.and_eq_true, risB_iff]
  unfold hanB
  simp only [Bool.and_eq_true, decide_eq_true_eq, List.all_eq_true]
  have fc := keyS_form hw (ps.getD 0 ([], [])).1
  rw [comC_digits hw fc hks hn]
  have hall : ∀ i, okP z path n ps i = true ↔ ((decide ((ps.getD i ([], [])).1.length ≤ 64) && (decide ((ps.getD i ([], [])).2.length ≤ 256) && (decide (i = 0) || decide (ordL (ps.getD (i - 1) ([], [])).1 (ps.getD i ([], [])).1 < 0)))) = true ∧ keyS z (ps.getD i ([], [])).1 = keyS z (ps.getD 0 ([], [])).1 ∧ ∀ j, j < n → dgt (keyS z (ps.getD i ([], [])).1) j = path.getD j 0) := by
    intro i
    unfold okP
    simp only [Bool.and_eq_true, decide_eq_true_eq, List.all_eq_true, List.mem_range]
    constructor
    · rintro ⟨h1, h2, h3, h4, h5⟩
      exact ⟨⟨h1, h2, h3⟩, h4, h5⟩
    · rintro ⟨⟨h1, h2, h3⟩, h4, h5⟩
      exact ⟨h1, h2, h3, h4, h5⟩
  constructor
  · intro h
    refine ⟨fun i hi => by have h9 := ((hall i).1 (h i hi)).1; simpa using h9, fun x hx => ?_, fun j hj => ?_⟩
    · obtain ⟨i, hi, rfl⟩ := List.getElem_of_mem hx
      rw [List.length_drop] at hi
      have h9 := ((hall (1 + i)).1 (h (1 + i) (by omega))).2.1
      rw [List.getD_eq_getElem?_getD, List.getElem?_eq_getElem (by omega)] at h9
      rw [List.getElem_drop]
      exact h9
    · have h9 := ((hall 0).1 (h 0 h0)).2.2 j hj
      rw [h9, hp j hj]
  · rintro ⟨h1, h2, h3⟩ i hi
    refine (hall i).2 ⟨by have h9 := h1 i hi; simpa using h9, ?_⟩
    have hk : keyS z (ps.getD i ([], [])).1 = keyS z (ps.getD 0 ([], [])).1 := by
      cases i with
      | zero => rfl
      | succ i =>
        have h9 := h2 (ps[i + 1]) (by rw [List.mem_iff_getElem]; exact ⟨i, by rw [List.length_drop]; omega, by rw [List.getElem_drop]; congr 1; omega⟩)
        rw [List.getD_eq_getElem?_getD, List.getElem?_eq_getElem hi]
        exact h9
    refine ⟨hk, fun j hj => ?_⟩
    rw [hk, h3 j hj, hp j hj]
end Go.Proofs.YtjafmnemobcipaaGreatDoor
/-
  Laws for drawn regions, by genreg.py. No program.
-/
namespace Go.Proofs.YtjafmnemobcipaaGreatDoor
open Go Go.RowKit Go.BigFrame
set_option linter.unusedVariables false
set_option linter.unusedSimpArgs false
section
variable {P : Program} {Q : Exit → Act → World → Prop}
theorem wp_up15 {id : Nat} {o0 o1 o2 o3 o4 o5 o6 o7 o8 o9 o10 o11 o12 o13 o14 : Oper} {a : Act} {w : World} (hm : P.follows .mixedOrders = true) (hs : Region.noSelect #[o0, o1, o2, o3, o4, o5, o6, o7, o8, o9, o10, o11, o12, o13, o14] = true)
    (f0 : Region.free .any #[o0, o1, o2, o3, o4, o5, o6, o7, o8, o9, o10, o11, o12, o13, o14] #[false, false, false, false, false, false, false, false, false, false, false, false, false, false, false] 0 = true) (r0 : (Region.ready .any #[o0, o1, o2, o3, o4, o5, o6, o7, o8, o9, o10, o11, o12, o13, o14] #[false, false, false, false, false, false, false, false, false, false, false, false, false, false, false]).contains 0 = true)
    (f1 : Region.free .any #[o0, o1, o2, o3, o4, o5, o6, o7, o8, o9, o10, o11, o12, o13, o14] #[true, false, false, false, false, false, false, false, false, false, false, false, false, false, false] 1 = true) (r1 : (Region.ready .any #[o0, o1, o2, o3, o4, o5, o6, o7, o8, o9, o10, o11, o12, o13, o14] #[true, false, false, false, false, false, false, false, false, false, false, false, false, false, false]).contains 1 = true)
    (f2 : Region.free .any #[o0, o1, o2, o3, o4, o5, o6, o7, o8, o9, o10, o11, o12, o13, o14] #[true, true, false, false, false, false, false, false, false, false, false, false, false, false, false] 2 = true) (r2 : (Region.ready .any #[o0, o1, o2, o3, o4, o5, o6, o7, o8, o9, o10, o11, o12, o13, o14] #[true, true, false, false, false, false, false, false, false, false, false, false, false, false, false]).contains 2 = true)
    (f3 : Region.free .any #[o0, o1, o2, o3, o4, o5, o6, o7, o8, o9, o10, o11, o12, o13, o14] #[true, true, true, false, false, false, false, false, false, false, false, false, false, false, false] 3 = true) (r3 : (Region.ready .any #[o0, o1, o2, o3, o4, o5, o6, o7, o8, o9, o10, o11, o12, o13, o14] #[true, true, true, false, false, false, false, false, false, false, false, false, false, false, false]).contains 3 = true)
    (f4 : Region.free .any #[o0, o1, o2, o3, o4, o5, o6, o7, o8, o9, o10, o11, o12, o13, o14] #[true, true, true, true, false, false, false, false, false, false, false, false, false, false, false] 4 = true) (r4 : (Region.ready .any #[o0, o1, o2, o3, o4, o5, o6, o7, o8, o9, o10, o11, o12, o13, o14] #[true, true, true, true, false, false, false, false, false, false, false, false, false, false, false]).contains 4 = true)
    (f5 : Region.free .any #[o0, o1, o2, o3, o4, o5, o6, o7, o8, o9, o10, o11, o12, o13, o14] #[true, true, true, true, true, false, false, false, false, false, false, false, false, false, false] 5 = true) (r5 : (Region.ready .any #[o0, o1, o2, o3, o4, o5, o6, o7, o8, o9, o10, o11, o12, o13, o14] #[true, true, true, true, true, false, false, false, false, false, false, false, false, false, false]).contains 5 = true)
    (f6 : Region.free .any #[o0, o1, o2, o3, o4, o5, o6, o7, o8, o9, o10, o11, o12, o13, o14] #[true, true, true, true, true, true, false, false, false, false, false, false, false, false, false] 6 = true) (r6 : (Region.ready .any #[o0, o1, o2, o3, o4, o5, o6, o7, o8, o9, o10, o11, o12, o13, o14] #[true, true, true, true, true, true, false, false, false, false, false, false, false, false, false]).contains 6 = true)
    (f7 : Region.free .any #[o0, o1, o2, o3, o4, o5, o6, o7, o8, o9, o10, o11, o12, o13, o14] #[true, true, true, true, true, true, true, false, false, false, false, false, false, false, false] 7 = true) (r7 : (Region.ready .any #[o0, o1, o2, o3, o4, o5, o6, o7, o8, o9, o10, o11, o12, o13, o14] #[true, true, true, true, true, true, true, false, false, false, false, false, false, false, false]).contains 7 = true)
    (f8 : Region.free .any #[o0, o1, o2, o3, o4, o5, o6, o7, o8, o9, o10, o11, o12, o13, o14] #[true, true, true, true, true, true, true, true, false, false, false, false, false, false, false] 8 = true) (r8 : (Region.ready .any #[o0, o1, o2, o3, o4, o5, o6, o7, o8, o9, o10, o11, o12, o13, o14] #[true, true, true, true, true, true, true, true, false, false, false, false, false, false, false]).contains 8 = true)
    (f9 : Region.free .any #[o0, o1, o2, o3, o4, o5, o6, o7, o8, o9, o10, o11, o12, o13, o14] #[true, true, true, true, true, true, true, true, true, false, false, false, false, false, false] 9 = true) (r9 : (Region.ready .any #[o0, o1, o2, o3, o4, o5, o6, o7, o8, o9, o10, o11, o12, o13, o14] #[true, true, true, true, true, true, true, true, true, false, false, false, false, false, false]).contains 9 = true)
    (f10 : Region.free .any #[o0, o1, o2, o3, o4, o5, o6, o7, o8, o9, o10, o11, o12, o13, o14] #[true, true, true, true, true, true, true, true, true, true, false, false, false, false, false] 10 = true) (r10 : (Region.ready .any #[o0, o1, o2, o3, o4, o5, o6, o7, o8, o9, o10, o11, o12, o13, o14] #[true, true, true, true, true, true, true, true, true, true, false, false, false, false, false]).contains 10 = true)
    (f11 : Region.free .any #[o0, o1, o2, o3, o4, o5, o6, o7, o8, o9, o10, o11, o12, o13, o14] #[true, true, true, true, true, true, true, true, true, true, true, false, false, false, false] 11 = true) (r11 : (Region.ready .any #[o0, o1, o2, o3, o4, o5, o6, o7, o8, o9, o10, o11, o12, o13, o14] #[true, true, true, true, true, true, true, true, true, true, true, false, false, false, false]).contains 11 = true)
    (f12 : Region.free .any #[o0, o1, o2, o3, o4, o5, o6, o7, o8, o9, o10, o11, o12, o13, o14] #[true, true, true, true, true, true, true, true, true, true, true, true, false, false, false] 12 = true) (r12 : (Region.ready .any #[o0, o1, o2, o3, o4, o5, o6, o7, o8, o9, o10, o11, o12, o13, o14] #[true, true, true, true, true, true, true, true, true, true, true, true, false, false, false]).contains 12 = true)
    (q_ : Region.ready .any #[o0, o1, o2, o3, o4, o5, o6, o7, o8, o9, o10, o11, o12, o13, o14] #[true, true, true, true, true, true, true, true, true, true, true, true, true, false, false] = [13])
    (q13_ : Region.ready .any #[o0, o1, o2, o3, o4, o5, o6, o7, o8, o9, o10, o11, o12, o13, o14] #[true, true, true, true, true, true, true, true, true, true, true, true, true, true, false] = [14])
    (q13_14_ : Region.ready .any #[o0, o1, o2, o3, o4, o5, o6, o7, o8, o9, o10, o11, o12, o13, o14] #[true, true, true, true, true, true, true, true, true, true, true, true, true, true, true] = [])
    (g13 : o13.guard = none)    (g14 : o14.guard = none)
    (v0 v1 v2 v3 v4 v5 v6 v7 v8 v9 v10 v11 v12 : Value) (A0 A1 A2 A3 A4 A5 A6 A7 A8 A9 A10 A11 A12 : Act)
    (S : World → Prop)
    (I_ : World → Prop)
    (I13_ : Value → World → Prop)
    (I13_14_ : Value → Value → World → Prop)
    (p0 : a.put o0.dst v0 = A0) (hy0 : YieldsIf P #[o0, o1, o2, o3, o4, o5, o6, o7, o8, o9, o10, o11, o12, o13, o14] S o0 v0 a)
    (p1 : A0.put o1.dst v1 = A1) (hy1 : YieldsIf P #[o0, o1, o2, o3, o4, o5, o6, o7, o8, o9, o10, o11, o12, o13, o14] S o1 v1 A0)
    (p2 : A1.put o2.dst v2 = A2) (hy2 : YieldsIf P #[o0, o1, o2, o3, o4, o5, o6, o7, o8, o9, o10, o11, o12, o13, o14] S o2 v2 A1)
    (p3 : A2.put o3.dst v3 = A3) (hy3 : YieldsIf P #[o0, o1, o2, o3, o4, o5, o6, o7, o8, o9, o10, o11, o12, o13, o14] S o3 v3 A2)
    (p4 : A3.put o4.dst v4 = A4) (hy4 : YieldsIf P #[o0, o1, o2, o3, o4, o5, o6, o7, o8, o9, o10, o11, o12, o13, o14] S o4 v4 A3)
    (p5 : A4.put o5.dst v5 = A5) (hy5 : YieldsIf P #[o0, o1, o2, o3, o4, o5, o6, o7, o8, o9, o10, o11, o12, o13, o14] S o5 v5 A4)
    (p6 : A5.put o6.dst v6 = A6) (hy6 : YieldsIf P #[o0, o1, o2, o3, o4, o5, o6, o7, o8, o9, o10, o11, o12, o13, o14] S o6 v6 A5)
    (p7 : A6.put o7.dst v7 = A7) (hy7 : YieldsIf P #[o0, o1, o2, o3, o4, o5, o6, o7, o8, o9, o10, o11, o12, o13, o14] S o7 v7 A6)
    (p8 : A7.put o8.dst v8 = A8) (hy8 : YieldsIf P #[o0, o1, o2, o3, o4, o5, o6, o7, o8, o9, o10, o11, o12, o13, o14] S o8 v8 A7)
    (p9 : A8.put o9.dst v9 = A9) (hy9 : YieldsIf P #[o0, o1, o2, o3, o4, o5, o6, o7, o8, o9, o10, o11, o12, o13, o14] S o9 v9 A8)
    (p10 : A9.put o10.dst v10 = A10) (hy10 : YieldsIf P #[o0, o1, o2, o3, o4, o5, o6, o7, o8, o9, o10, o11, o12, o13, o14] S o10 v10 A9)
    (p11 : A10.put o11.dst v11 = A11) (hy11 : YieldsIf P #[o0, o1, o2, o3, o4, o5, o6, o7, o8, o9, o10, o11, o12, o13, o14] S o11 v11 A10)
    (p12 : A11.put o12.dst v12 = A12) (hy12 : YieldsIf P #[o0, o1, o2, o3, o4, o5, o6, o7, o8, o9, o10, o11, o12, o13, o14] S o12 v12 A11)
    (i0 : I_ w.drew)
    (hIS : (∀ w', I_  w' → S w') ∧ (∀ (u13 : Value) w', I13_ u13 w' → S w') ∧ (∀ (u13 u14 : Value) w', I13_14_ u13 u14 w' → S w'))
    (s_13 : ∀ w', I_  w' → ∀ K : Act → World → Prop, (∀ (u13 : Value) w2, I13_ u13 w2 → K (A12.put o13.dst u13) w2) → o13.wp P A12 w' K (NoPanic Q))
    (s13_14 : ∀ (u13 : Value) w', I13_ u13 w' → ∀ K : Act → World → Prop, (∀ (u14 : Value) w2, I13_14_ u13 u14 w2 → K ((A12.put o13.dst u13).put o14.dst u14) w2) → o14.wp P (A12.put o13.dst u13) w' K (NoPanic Q))
    (h : ∀ (u13 u14 : Value) w', I13_14_ u13 u14 w' → Q .normal ((A12.put o13.dst u13).put o14.dst u14) w') :
    (Code.region id #[o0, o1, o2, o3, o4, o5, o6, o7, o8, o9, o10, o11, o12, o13, o14] true).wp P Q a w := by
  subst p0 p1 p2 p3 p4 p5 p6 p7 p8 p9 p10 p11 p12
  obtain ⟨z_, z13_, z13_14_⟩ := hIS
  refine wp_region_noPanic ?_
  refine wp_region_held_drew (S := S) hm (z_ _ i0) (fun hH => ?_)
  show wpAnyH P .any #[o0, o1, o2, o3, o4, o5, o6, o7, o8, o9, o10, o11, o12, o13, o14] (NoPanic Q) S 15 #[false, false, false, false, false, false, false, false, false, false, false, false, false, false, false] a w.drew
  refine wpAnyH_take (i := 0) (oi := o0) rfl hs f0 r0 (fun _ _ _ h => h) hy0 hH ?_
  refine wpAnyH_take (i := 1) (oi := o1) rfl hs f1 r1 (fun _ _ _ h => h) hy1 hH ?_
  refine wpAnyH_take (i := 2) (oi := o2) rfl hs f2 r2 (fun _ _ _ h => h) hy2 hH ?_
  refine wpAnyH_take (i := 3) (oi := o3) rfl hs f3 r3 (fun _ _ _ h => h) hy3 hH ?_
  refine wpAnyH_take (i := 4) (oi := o4) rfl hs f4 r4 (fun _ _ _ h => h) hy4 hH ?_
  refine wpAnyH_take (i := 5) (oi := o5) rfl hs f5 r5 (fun _ _ _ h => h) hy5 hH ?_
  refine wpAnyH_take (i := 6) (oi := o6) rfl hs f6 r6 (fun _ _ _ h => h) hy6 hH ?_
  refine wpAnyH_take (i := 7) (oi := o7) rfl hs f7 r7 (fun _ _ _ h => h) hy7 hH ?_
  refine wpAnyH_take (i := 8) (oi := o8) rfl hs f8 r8 (fun _ _ _ h => h) hy8 hH ?_
  refine wpAnyH_take (i := 9) (oi := o9) rfl hs f9 r9 (fun _ _ _ h => h) hy9 hH ?_
  refine wpAnyH_take (i := 10) (oi := o10) rfl hs f10 r10 (fun _ _ _ h => h) hy10 hH ?_
  refine wpAnyH_take (i := 11) (oi := o11) rfl hs f11 r11 (fun _ _ _ h => h) hy11 hH ?_
  refine wpAnyH_take (i := 12) (oi := o12) rfl hs f12 r12 (fun _ _ _ h => h) hy12 hH ?_
  generalize (((((((((((((a.put o0.dst v0).put o1.dst v1).put o2.dst v2).put o3.dst v3).put o4.dst v4).put o5.dst v5).put o6.dst v6).put o7.dst v7).put o8.dst v8).put o9.dst v9).put o10.dst v10).put o11.dst v11).put o12.dst v12) = B at *
  have wa13 : ∀ y, Region.wanted o13 y = true := fun y => by unfold Region.wanted; rw [g13]
  have wa14 : ∀ y, Region.wanted o14 y = true := fun y => by unfold Region.wanted; rw [g14]
  have t13_14_ : ∀ (u13 u14 : Value) w', I13_14_ u13 u14 w' → wpAnyH P .any #[o0, o1, o2, o3, o4, o5, o6, o7, o8, o9, o10, o11, o12, o13, o14] (NoPanic Q) S 0 #[true, true, true, true, true, true, true, true, true, true, true, true, true, true, true] ((B.put o13.dst u13).put o14.dst u14) w' := by
    intro u13 u14 w0 i0
    exact ⟨q13_14_, NoPanic.normal (h u13 u14 w0 i0)⟩
  have t13_ : ∀ (u13 : Value) w', I13_ u13 w' → wpAnyH P .any #[o0, o1, o2, o3, o4, o5, o6, o7, o8, o9, o10, o11, o12, o13, o14] (NoPanic Q) S 1 #[true, true, true, true, true, true, true, true, true, true, true, true, true, true, false] (B.put o13.dst u13) w' := by
    intro u13 w0 i0
    refine wpAnyH_ready (rs := [14]) q13_ (by simp) (AllReadyH.cons (o := o14) rfl (fun K hK => ?_) AllReadyH.nil)
    · rw [if_pos (wa14 _)]
      refine s13_14 u13 w0 i0 K (fun u14 w1 i1 => hK.out _ _ (z13_14_ u13 u14 w1 i1) (fun _ => ?_))
      clear hK
      exact t13_14_ u13 u14 w1 i1
  have t_ : ∀ w', I_  w' → wpAnyH P .any #[o0, o1, o2, o3, o4, o5, o6, o7, o8, o9, o10, o11, o12, o13, o14] (NoPanic Q) S 2 #[true, true, true, true, true, true, true, true, true, true, true, true, true, false, false] B w' := by
    intro w0 i0
    refine wpAnyH_ready (rs := [13]) q_ (by simp) (AllReadyH.cons (o := o13) rfl (fun K hK => ?_) AllReadyH.nil)
    · rw [if_pos (wa13 _)]
      refine s_13  w0 i0 K (fun u13 w1 i1 => hK.out _ _ (z13_ u13 w1 i1) (fun _ => ?_))
      clear hK
      exact t13_ u13 w1 i1
  exact t_ w.drew i0

end
end Go.Proofs.YtjafmnemobcipaaGreatDoor
/-
  Laws for drawn regions with a late store, by genchain.py. No program.
-/
namespace Go.Proofs.YtjafmnemobcipaaGreatDoor
open Go Go.RowKit Go.BigFrame
set_option linter.unusedVariables false
set_option linter.unusedSimpArgs false
section
variable {P : Program} {Q : Exit → Act → World → Prop}
theorem wp_up16 {id : Nat} {o0 o1 o2 o3 o4 o5 o6 o7 o8 o9 o10 o11 o12 o13 o14 o15 : Oper} {a : Act} {w : World} (hm : P.follows .mixedOrders = true) (hs : Region.noSelect #[o0, o1, o2, o3, o4, o5, o6, o7, o8, o9, o10, o11, o12, o13, o14, o15] = true)
    (f0 : Region.free .any #[o0, o1, o2, o3, o4, o5, o6, o7, o8, o9, o10, o11, o12, o13, o14, o15] #[false, false, false, false, false, false, false, false, false, false, false, false, false, false, false, false] 0 = true) (r0 : (Region.ready .any #[o0, o1, o2, o3, o4, o5, o6, o7, o8, o9, o10, o11, o12, o13, o14, o15] #[false, false, false, false, false, false, false, false, false, false, false, false, false, false, false, false]).contains 0 = true) (e0 : o15.after.any (fun e => Region.binds .any e && e.on == 0) = true)
    (f1 : Region.free .any #[o0, o1, o2, o3, o4, o5, o6, o7, o8, o9, o10, o11, o12, o13, o14, o15] #[true, false, false, false, false, false, false, false, false, false, false, false, false, false, false, false] 1 = true) (r1 : (Region.ready .any #[o0, o1, o2, o3, o4, o5, o6, o7, o8, o9, o10, o11, o12, o13, o14, o15] #[true, false, false, false, false, false, false, false, false, false, false, false, false, false, false, false]).contains 1 = true) (e1 : o15.after.any (fun e => Region.binds .any e && e.on == 1) = true)
    (f2 : Region.free .any #[o0, o1, o2, o3, o4, o5, o6, o7, o8, o9, o10, o11, o12, o13, o14, o15] #[true, true, false, false, false, false, false, false, false, false, false, false, false, false, false, false] 2 = true) (r2 : (Region.ready .any #[o0, o1, o2, o3, o4, o5, o6, o7, o8, o9, o10, o11, o12, o13, o14, o15] #[true, true, false, false, false, false, false, false, false, false, false, false, false, false, false, false]).contains 2 = true) (e2 : o15.after.any (fun e => Region.binds .any e && e.on == 2) = true)
    (f3 : Region.free .any #[o0, o1, o2, o3, o4, o5, o6, o7, o8, o9, o10, o11, o12, o13, o14, o15] #[true, true, true, false, false, false, false, false, false, false, false, false, false, false, false, false] 3 = true) (r3 : (Region.ready .any #[o0, o1, o2, o3, o4, o5, o6, o7, o8, o9, o10, o11, o12, o13, o14, o15] #[true, true, true, false, false, false, false, false, false, false, false, false, false, false, false, false]).contains 3 = true) (e3 : o15.after.any (fun e => Region.binds .any e && e.on == 3) = true)
    (f4 : Region.free .any #[o0, o1, o2, o3, o4, o5, o6, o7, o8, o9, o10, o11, o12, o13, o14, o15] #[true, true, true, true, false, false, false, false, false, false, false, false, false, false, false, false] 4 = true) (r4 : (Region.ready .any #[o0, o1, o2, o3, o4, o5, o6, o7, o8, o9, o10, o11, o12, o13, o14, o15] #[true, true, true, true, false, false, false, false, false, false, false, false, false, false, false, false]).contains 4 = true) (e4 : o15.after.any (fun e => Region.binds .any e && e.on == 4) = true)
    (f5 : Region.free .any #[o0, o1, o2, o3, o4, o5, o6, o7, o8, o9, o10, o11, o12, o13, o14, o15] #[true, true, true, true, true, false, false, false, false, false, false, false, false, false, false, false] 5 = true) (r5 : (Region.ready .any #[o0, o1, o2, o3, o4, o5, o6, o7, o8, o9, o10, o11, o12, o13, o14, o15] #[true, true, true, true, true, false, false, false, false, false, false, false, false, false, false, false]).contains 5 = true) (e5 : o15.after.any (fun e => Region.binds .any e && e.on == 5) = true)
    (f6 : Region.free .any #[o0, o1, o2, o3, o4, o5, o6, o7, o8, o9, o10, o11, o12, o13, o14, o15] #[true, true, true, true, true, true, false, false, false, false, false, false, false, false, false, false] 6 = true) (r6 : (Region.ready .any #[o0, o1, o2, o3, o4, o5, o6, o7, o8, o9, o10, o11, o12, o13, o14, o15] #[true, true, true, true, true, true, false, false, false, false, false, false, false, false, false, false]).contains 6 = true) (e6 : o15.after.any (fun e => Region.binds .any e && e.on == 6) = true)
    (f7 : Region.free .any #[o0, o1, o2, o3, o4, o5, o6, o7, o8, o9, o10, o11, o12, o13, o14, o15] #[true, true, true, true, true, true, true, false, false, false, false, false, false, false, false, false] 7 = true) (r7 : (Region.ready .any #[o0, o1, o2, o3, o4, o5, o6, o7, o8, o9, o10, o11, o12, o13, o14, o15] #[true, true, true, true, true, true, true, false, false, false, false, false, false, false, false, false]).contains 7 = true) (e7 : o15.after.any (fun e => Region.binds .any e && e.on == 7) = true)
    (f8 : Region.free .any #[o0, o1, o2, o3, o4, o5, o6, o7, o8, o9, o10, o11, o12, o13, o14, o15] #[true, true, true, true, true, true, true, true, false, false, false, false, false, false, false, false] 8 = true) (r8 : (Region.ready .any #[o0, o1, o2, o3, o4, o5, o6, o7, o8, o9, o10, o11, o12, o13, o14, o15] #[true, true, true, true, true, true, true, true, false, false, false, false, false, false, false, false]).contains 8 = true) (e8 : o15.after.any (fun e => Region.binds .any e && e.on == 8) = true)
    (f9 : Region.free .any #[o0, o1, o2, o3, o4, o5, o6, o7, o8, o9, o10, o11, o12, o13, o14, o15] #[true, true, true, true, true, true, true, true, true, false, false, false, false, false, false, false] 9 = true) (r9 : (Region.ready .any #[o0, o1, o2, o3, o4, o5, o6, o7, o8, o9, o10, o11, o12, o13, o14, o15] #[true, true, true, true, true, true, true, true, true, false, false, false, false, false, false, false]).contains 9 = true) (e9 : o15.after.any (fun e => Region.binds .any e && e.on == 9) = true)
    (f10 : Region.free .any #[o0, o1, o2, o3, o4, o5, o6, o7, o8, o9, o10, o11, o12, o13, o14, o15] #[true, true, true, true, true, true, true, true, true, true, false, false, false, false, false, false] 10 = true) (r10 : (Region.ready .any #[o0, o1, o2, o3, o4, o5, o6, o7, o8, o9, o10, o11, o12, o13, o14, o15] #[true, true, true, true, true, true, true, true, true, true, false, false, false, false, false, false]).contains 10 = true) (e10 : o15.after.any (fun e => Region.binds .any e && e.on == 10) = true)
    (f12 : Region.free .any #[o0, o1, o2, o3, o4, o5, o6, o7, o8, o9, o10, o11, o12, o13, o14, o15] #[true, true, true, true, true, true, true, true, true, true, true, false, false, false, false, false] 12 = true) (r12 : (Region.ready .any #[o0, o1, o2, o3, o4, o5, o6, o7, o8, o9, o10, o11, o12, o13, o14, o15] #[true, true, true, true, true, true, true, true, true, true, true, false, false, false, false, false]).contains 12 = true) (e12 : o15.after.any (fun e => Region.binds .any e && e.on == 12) = true)
    (q11 : Region.ready .any #[o0, o1, o2, o3, o4, o5, o6, o7, o8, o9, o10, o11, o12, o13, o14, o15] #[true, true, true, true, true, true, true, true, true, true, true, false, true, false, false, false] = [11]) (g11 : o11.guard = none)
    (q13 : Region.ready .any #[o0, o1, o2, o3, o4, o5, o6, o7, o8, o9, o10, o11, o12, o13, o14, o15] #[true, true, true, true, true, true, true, true, true, true, true, true, true, false, false, false] = [13]) (g13 : o13.guard = none)
    (q14 : Region.ready .any #[o0, o1, o2, o3, o4, o5, o6, o7, o8, o9, o10, o11, o12, o13, o14, o15] #[true, true, true, true, true, true, true, true, true, true, true, true, true, true, false, false] = [14]) (g14 : o14.guard = none)
    (q15 : Region.ready .any #[o0, o1, o2, o3, o4, o5, o6, o7, o8, o9, o10, o11, o12, o13, o14, o15] #[true, true, true, true, true, true, true, true, true, true, true, true, true, true, true, false] = [15]) (g15 : o15.guard = none)
    (rr : Region.ready .any #[o0, o1, o2, o3, o4, o5, o6, o7, o8, o9, o10, o11, o12, o13, o14, o15] #[true, true, true, true, true, true, true, true, true, true, true, true, true, true, true, true] = [])
    (v0 v1 v2 v3 v4 v5 v6 v7 v8 v9 v10 v12 : Value) (A0 A1 A2 A3 A4 A5 A6 A7 A8 A9 A10 A11 : Act) (T : World → Prop)
    (I0 : World → Prop)
    (I1 : Value → World → Prop)
    (I2 : Value → Value → World → Prop)
    (I3 : Value → Value → Value → World → Prop)
    (IE : Value → Value → Value → World → Prop)
    (p0 : a.put o0.dst v0 = A0) (hy0 : YieldsIf P #[o0, o1, o2, o3, o4, o5, o6, o7, o8, o9, o10, o11, o12, o13, o14, o15] T o0 v0 a)
    (p1 : A0.put o1.dst v1 = A1) (hy1 : YieldsIf P #[o0, o1, o2, o3, o4, o5, o6, o7, o8, o9, o10, o11, o12, o13, o14, o15] T o1 v1 A0)
    (p2 : A1.put o2.dst v2 = A2) (hy2 : YieldsIf P #[o0, o1, o2, o3, o4, o5, o6, o7, o8, o9, o10, o11, o12, o13, o14, o15] T o2 v2 A1)
    (p3 : A2.put o3.dst v3 = A3) (hy3 : YieldsIf P #[o0, o1, o2, o3, o4, o5, o6, o7, o8, o9, o10, o11, o12, o13, o14, o15] T o3 v3 A2)
    (p4 : A3.put o4.dst v4 = A4) (hy4 : YieldsIf P #[o0, o1, o2, o3, o4, o5, o6, o7, o8, o9, o10, o11, o12, o13, o14, o15] T o4 v4 A3)
    (p5 : A4.put o5.dst v5 = A5) (hy5 : YieldsIf P #[o0, o1, o2, o3, o4, o5, o6, o7, o8, o9, o10, o11, o12, o13, o14, o15] T o5 v5 A4)
    (p6 : A5.put o6.dst v6 = A6) (hy6 : YieldsIf P #[o0, o1, o2, o3, o4, o5, o6, o7, o8, o9, o10, o11, o12, o13, o14, o15] T o6 v6 A5)
    (p7 : A6.put o7.dst v7 = A7) (hy7 : YieldsIf P #[o0, o1, o2, o3, o4, o5, o6, o7, o8, o9, o10, o11, o12, o13, o14, o15] T o7 v7 A6)
    (p8 : A7.put o8.dst v8 = A8) (hy8 : YieldsIf P #[o0, o1, o2, o3, o4, o5, o6, o7, o8, o9, o10, o11, o12, o13, o14, o15] T o8 v8 A7)
    (p9 : A8.put o9.dst v9 = A9) (hy9 : YieldsIf P #[o0, o1, o2, o3, o4, o5, o6, o7, o8, o9, o10, o11, o12, o13, o14, o15] T o9 v9 A8)
    (p10 : A9.put o10.dst v10 = A10) (hy10 : YieldsIf P #[o0, o1, o2, o3, o4, o5, o6, o7, o8, o9, o10, o11, o12, o13, o14, o15] T o10 v10 A9)
    (p12 : A10.put o12.dst v12 = A11) (hy12 : YieldsIf P #[o0, o1, o2, o3, o4, o5, o6, o7, o8, o9, o10, o11, o12, o13, o14, o15] T o12 v12 A10)
    (i0 : I0 w.drew)
    (hIT : (∀ w', I0  w' → T w') ∧ (∀ (u0 : Value) w', I1 u0 w' → T w') ∧ (∀ (u0 u1 : Value) w', I2 u0 u1 w' → T w') ∧ (∀ (u0 u1 u2 : Value) w', I3 u0 u1 u2 w' → T w'))
    (s0 : ∀ w', I0  w' → ∀ K : Act → World → Prop, (∀ (u0 : Value) w2, I1 u0 w2 → K (A11.put o11.dst u0) w2) → o11.wp P A11 w' K (NoPanic Q))
    (s1 : ∀ (u0 : Value) w', I1 u0 w' → ∀ K : Act → World → Prop, (∀ (u1 : Value) w2, I2 u0 u1 w2 → K ((A11.put o11.dst u0).put o13.dst u1) w2) → o13.wp P (A11.put o11.dst u0) w' K (NoPanic Q))
    (s2 : ∀ (u0 u1 : Value) w', I2 u0 u1 w' → ∀ K : Act → World → Prop, (∀ (u2 : Value) w2, I3 u0 u1 u2 w2 → K (((A11.put o11.dst u0).put o13.dst u1).put o14.dst u2) w2) → o14.wp P ((A11.put o11.dst u0).put o13.dst u1) w' K (NoPanic Q))
    (se : ∀ (u0 u1 u2 : Value) w', I3 u0 u1 u2 w' → ∀ K : Act → World → Prop, (∀ w2, IE u0 u1 u2 w2 → K (((A11.put o11.dst u0).put o13.dst u1).put o14.dst u2) w2) → o15.wp P (((A11.put o11.dst u0).put o13.dst u1).put o14.dst u2) w' K (NoPanic Q))
    (h : ∀ (u0 u1 u2 : Value) w', IE u0 u1 u2 w' → Q .normal (((A11.put o11.dst u0).put o13.dst u1).put o14.dst u2) w') :
    (Code.region id #[o0, o1, o2, o3, o4, o5, o6, o7, o8, o9, o10, o11, o12, o13, o14, o15] true).wp P Q a w := by
  subst p0 p1 p2 p3 p4 p5 p6 p7 p8 p9 p10 p12
  obtain ⟨z0, z1, z2, z3⟩ := hIT
  refine wp_region_noPanic ?_
  refine wp_region_any hm ?_
  refine AnyL.any (S := fun d w' => d.getD 15 true = false → T w') _ _ _ _ ?_
  show AnyL P .any #[o0, o1, o2, o3, o4, o5, o6, o7, o8, o9, o10, o11, o12, o13, o14, o15] (NoPanic Q) _ 16 #[false, false, false, false, false, false, false, false, false, false, false, false, false, false, false, false] a w.drew
  have hSi : ∀ i, i ≠ 15 → ∀ (d : Array Bool) (w' : World), ((d.setIfInBounds i true).getD 15 true = false → T w') ↔ (d.getD 15 true = false → T w') := by
    intro i h4 d w'
    rw [getD_set_ne true h4]
  refine AnyL.take (i := 0) (t := 15) (oi := o0) (ot := o15) (T := T) rfl rfl (by decide) hs f0 r0 e0 (fun _ _ _ h => h) (fun d w' h9 hd => h9 hd) (hSi 0 (by decide)) hy0 rfl (fun _ => z0 _ i0) ?_
  refine AnyL.take (i := 1) (t := 15) (oi := o1) (ot := o15) (T := T) rfl rfl (by decide) hs f1 r1 e1 (fun _ _ _ h => h) (fun d w' h9 hd => h9 hd) (hSi 1 (by decide)) hy1 rfl (fun _ => z0 _ i0) ?_
  refine AnyL.take (i := 2) (t := 15) (oi := o2) (ot := o15) (T := T) rfl rfl (by decide) hs f2 r2 e2 (fun _ _ _ h => h) (fun d w' h9 hd => h9 hd) (hSi 2 (by decide)) hy2 rfl (fun _ => z0 _ i0) ?_
  refine AnyL.take (i := 3) (t := 15) (oi := o3) (ot := o15) (T := T) rfl rfl (by decide) hs f3 r3 e3 (fun _ _ _ h => h) (fun d w' h9 hd => h9 hd) (hSi 3 (by decide)) hy3 rfl (fun _ => z0 _ i0) ?_
  refine AnyL.take (i := 4) (t := 15) (oi := o4) (ot := o15) (T := T) rfl rfl (by decide) hs f4 r4 e4 (fun _ _ _ h => h) (fun d w' h9 hd => h9 hd) (hSi 4 (by decide)) hy4 rfl (fun _ => z0 _ i0) ?_
  refine AnyL.take (i := 5) (t := 15) (oi := o5) (ot := o15) (T := T) rfl rfl (by decide) hs f5 r5 e5 (fun _ _ _ h => h) (fun d w' h9 hd => h9 hd) (hSi 5 (by decide)) hy5 rfl (fun _ => z0 _ i0) ?_
  refine AnyL.take (i := 6) (t := 15) (oi := o6) (ot := o15) (T := T) rfl rfl (by decide) hs f6 r6 e6 (fun _ _ _ h => h) (fun d w' h9 hd => h9 hd) (hSi 6 (by decide)) hy6 rfl (fun _ => z0 _ i0) ?_
  refine AnyL.take (i := 7) (t := 15) (oi := o7) (ot := o15) (T := T) rfl rfl (by decide) hs f7 r7 e7 (fun _ _ _ h => h) (fun d w' h9 hd => h9 hd) (hSi 7 (by decide)) hy7 rfl (fun _ => z0 _ i0) ?_
  refine AnyL.take (i := 8) (t := 15) (oi := o8) (ot := o15) (T := T) rfl rfl (by decide) hs f8 r8 e8 (fun _ _ _ h => h) (fun d w' h9 hd => h9 hd) (hSi 8 (by decide)) hy8 rfl (fun _ => z0 _ i0) ?_
  refine AnyL.take (i := 9) (t := 15) (oi := o9) (ot := o15) (T := T) rfl rfl (by decide) hs f9 r9 e9 (fun _ _ _ h => h) (fun d w' h9 hd => h9 hd) (hSi 9 (by decide)) hy9 rfl (fun _ => z0 _ i0) ?_
  refine AnyL.take (i := 10) (t := 15) (oi := o10) (ot := o15) (T := T) rfl rfl (by decide) hs f10 r10 e10 (fun _ _ _ h => h) (fun d w' h9 hd => h9 hd) (hSi 10 (by decide)) hy10 rfl (fun _ => z0 _ i0) ?_
  refine AnyL.take (i := 12) (t := 15) (oi := o12) (ot := o15) (T := T) rfl rfl (by decide) hs f12 r12 e12 (fun _ _ _ h => h) (fun d w' h9 hd => h9 hd) (hSi 12 (by decide)) hy12 rfl (fun _ => z0 _ i0) ?_
  refine AnyL.forced q11 rfl g11 (fun K hK => s0  w.drew i0 K (fun u0 w1 i1 => hK _ _ (fun _ => z1 u0 w1 i1) ?_))
  refine AnyL.forced q13 rfl g13 (fun K hK => s1 u0 w1 i1 K (fun u1 w2 i2 => hK _ _ (fun _ => z2 u0 u1 w2 i2) ?_))
  refine AnyL.forced q14 rfl g14 (fun K hK => s2 u0 u1 w2 i2 K (fun u2 w3 i3 => hK _ _ (fun _ => z3 u0 u1 u2 w3 i3) ?_))
  refine AnyL.forced q15 rfl g15 (fun K hK => se u0 u1 u2 w3 i3 K (fun we ie => hK _ _ (fun h9 => (by cases h9)) ?_))
  exact ⟨rr, NoPanic.normal (h u0 u1 u2 we ie)⟩

end
end Go.Proofs.YtjafmnemobcipaaGreatDoor
namespace Go.Proofs.YtjafmnemobcipaaGreatDoor
open Go.RowKit Go.BigFrame
set_option linter.unusedVariables false
set_option linter.unusedSimpArgs false

theorem lt_of_cell {w : World} {a : Addr} {v : Value} (h : w.cell? a = some v) : a.block < w.heap.size := by
  rcases Nat.lt_or_ge a.block w.heap.size with h' | h'
  · exact h'
  · simp [World.cell?, Array.getElem?_eq_none h'] at h

/-- What Up makes of the j lowest steps that are left. -/
def upR (k : Nat) (path : List Nat) (ss : List (Nat × List (List Nat))) : Nat → List Nat → List Nat
  | 0, d => d
  | j + 1, d => upR k path ss j (sumD (k : Int) (branchB (k : Int) (ss.getD j (0, [])).1 ((ss.getD j (0, [])).2.take (rankB (ss.getD j (0, [])).1 (path.getD j 0 : Nat)) ++ d :: (ss.getD j (0, [])).2.drop (rankB (ss.getD j (0, [])).1 (path.getD j 0 : Nat)))))
def footR (k : Nat) (ss : List (Nat × List (List Nat))) (ps : List (List Nat × List Nat)) : List Nat :=
  if 0 < ps.length then sumD (k : Int) (buckB ps) else if ss.length = 0 then sumD (k : Int) [5] else sumD (k : Int) (branchB (k : Int) (ss.getD (ss.length - 1) (0, [])).1 (ss.getD (ss.length - 1) (0, [])).2)

set_option maxRecDepth 100000 in
set_option maxHeartbeats 4000000 in
theorem rup_any (k : Nat) (pathv sv pv : Value) (path : List Nat) (ss : List (Nat × List (List Nat))) (ps : List (List Nat × List Nat)) (w : World) (hk : 1 ≤ k ∧ k ≤ 32) (hpa : RdZ w pathv path) (hpl : path.length = 2 * k) (hpx : ∀ x ∈ path, x < 16) (hs : RdS w sv ss) (hp : RdK w pv ps) (hpb : (pairB ps).length ≤ 1000000000000) (hn : ss.length ≤ 2 * k)
    (hrk : ∀ i, i < footN ss ps → rankB (ss.getD i (0, [])).1 (path.getD i 0 : Nat) ≤ (ss.getD i (0, [])).2.length ∧ (ss.getD i (0, [])).2.length ≤ 15) (hkl : ∀ s ∈ ss, s.2.length ≤ 16) :
    Calls Tryz.prog 31 #[.int .i64 k, pathv, .agg #[sv, pv]] w fun e w' => e = .returned (.agg (brow (upR k path ss (footN ss ps) (footR k ss ps)))) ∧ Kept [] w w' := by
  have HPV := hide hp
  obtain ⟨sa, ls, sc, vs, rfl, s1, s2, s3, s4, s5⟩ := hs
  obtain ⟨pa, pn, pc, _, _, rfl, p1, p2, p3, _⟩ := hp
  obtain ⟨ha, hc, rfl, z1, z2, z3⟩ := hpa
  have S4 := hide s4
  have S5 := hide s5
  have Z3 := hide z3
  have HPX := hide hpx
  have HKL := hide hkl
  have HRK := hide hrk
  rw [hpl] at z1 ⊢
  rw [s1] at hn
  have HPL := hide hpl
  have HFN := hide (by unfold footN; rw [s1, p1] : footN ss ps = if 0 < pn then ls else ls - 1)
  have HFR := hide (by unfold footR; rw [s1, p1] : footR k ss ps = if 0 < pn then sumD (k : Int) (buckB ps) else if ls = 0 then sumD (k : Int) [5] else sumD (k : Int) (branchB (k : Int) (ss.getD (ls - 1) (0, [])).1 (ss.getD (ls - 1) (0, [])).2))
  have HS1 := hide s1
  clear s4 s5 z3 hpx hkl hpl hrk s1 p1
  have HK0 := hide (((Kept.refl [] w).alloc (.cells #[.slice sa ls sc, .slice pa pn pc] 26)).alloc (.cells (zb 32) 28))
  have HG0 := hide (heap_alloc2_old w (.cells #[.slice sa ls sc, .slice pa pn pc] 26) (.cells (zb 32) 28))
  have HZ0 := hide (heap_alloc2_new w (.cells #[.slice sa ls sc, .slice pa pn pc] 26) (.cells (zb 32) 28))
  obtain ⟨W, hW⟩ : ∃ W, (w.alloc (.cells #[.slice sa ls sc, .slice pa pn pc] 26)).alloc (.cells (zb 32) 28) = W := ⟨_, rfl⟩
  rw [hW] at HK0 HG0 HZ0
  have c0 : W.cell? ⟨w.heap.size, 0, none⟩ = some (.slice sa ls sc) := cell_of_row _ _ 0 _ _ _ (unhide HG0)
  have hw1 : IntKind.i64.wrap ((ls : Int) - 1) = (ls : Int) - 1 := by simp [IntKind.wrap, IntKind.signed, IntKind.bits]; omega
  have hsz : w.heap.size + 2 = W.heap.size := by rw [← hW]; simp
  go_enter Tryz.func31, Tryz.ntmps31
  go_wp2_with (first | (rw [zb32, hW]))
  clear hW c0
  refine Calls.mono (refNoMap_any k W hk.2) ?_
  rintro e w1 ⟨rfl, k1⟩
  have hg1 : w.heap.size + 2 ≤ w1.heap.size := by have := k1.size; omega
  clear hsz
  rw [← sumD_nat hk]
  have HDG := hide (sumD_dg (k : Int) [5])
  obtain ⟨D, hD⟩ : ∃ D, sumD (k : Int) [5] = D := ⟨_, rfl⟩
  rw [hD] at HDG HFR ⊢
  clear hD
  have hdl := (unhide HDG).1
  have HSZ := hide (Tryz.szD hdl)
  have kN := (k1.alloc (.cells (zb 32) 28)).setRow (g := w1.heap.size) (Or.inr k1.size) (brow D)
  have HN1 := hide (setRow_heap (w1.alloc (.cells (zb 32) 28)) w1.heap.size (zb 32) (brow D) 28 (0, 0) (heap_alloc_new _ _))
  have HK1 := hide ((unhide HK0).trans kN (by simp))
  have HG1 := hide (kN.heap (unhide HG0) (by simp))
  have HZ1 := hide (kN.heap (unhide HZ0) (by simp))
  clear kN k1 HK0 HG0 HZ0
  have c1 : ((w1.alloc (.cells (zb 32) 28)).setRow w1.heap.size (brow D)).cell? ⟨w.heap.size, 1, none⟩ = some (.slice pa pn pc) := cell_of_row _ _ 1 _ _ _ (unhide HG1)
  have c10 : ((w1.alloc (.cells (zb 32) 28)).setRow w1.heap.size (brow D)).cell? ⟨w.heap.size, 0, none⟩ = some (.slice sa ls sc) := cell_of_row _ _ 0 _ _ _ (unhide HG1)
  obtain hpn | ⟨hpn, hls⟩ | ⟨hpn, hls⟩ : 0 < pn ∨ (¬ 0 < pn ∧ ls = 0) ∨ (¬ 0 < pn ∧ ¬ ls = 0) := by omega
  case' inl =>
    have hpn' : decide (0 < pn) = true := by simp; omega
    go_wp2_with (first
      | (rw [zb32]; refine wpList_store_row rfl 28 _ _ rfl w1.heap.size (brow D) rfl rfl _ (zb 32) (heap_alloc_new _ _) (unhide HSZ) (by rw [zb_size, brow_size, hdl]) (brow_one _) ?_))
    obtain ⟨X, hX⟩ : ∃ X, (w1.alloc (.cells (zb 32) 28)).setRow w1.heap.size (brow D) = X := ⟨_, rfl⟩
    rw [hX] at HN1 HK1 HG1 HZ1 c1 c10 ⊢
    clear hX
    refine Calls.mono (refBucket_any k _ ps X hk ((unhide HPV).old (unhide HK1)) hpb) ?_
    rintro e w2 ⟨rfl, k2⟩
    have HJ := hide (by rw [unhide HFN, if_pos hpn] : footN ss ps = ls)
    have HF := hide (by rw [unhide HFR, if_pos hpn] : footR k ss ps = sumD (k : Int) (buckB ps))
    have HFD := hide (sumD_dg (k : Int) (buckB ps))
    obtain ⟨F, hF⟩ : ∃ F, sumD (k : Int) (buckB ps) = F := ⟨_, rfl⟩
    rw [hF] at HF HFD ⊢
    have hfl := (unhide HFD).1
    have HSF := hide (Tryz.szD hfl)
    have HN2 := hide (k2.heap (unhide HN1) (by simp))
    go_wp2_with (refine wpList_store_row rfl 28 _ _ rfl w1.heap.size (brow F) rfl rfl _ (brow D) (unhide HN2) (unhide HSF) (by rw [brow_size, brow_size, hfl, hdl]) (brow_one _) ?_)
    have kY := (k2.mono (M := [w1.heap.size]) (by simp)).setRow (g := w1.heap.size) (Or.inl (by simp)) (brow F)
    have HKY := hide ((unhide HK1).trans kY (by intro x hx; right; simp at hx; omega))
    have HGY := hide (kY.heap (unhide HG1) (by simp; omega))
    have HZY := hide (kY.heap (unhide HZ1) (by simp; omega))
    have HNY := hide (setRow_heap w2 w1.heap.size (brow D) (brow F) 28 (0, 0) (unhide HN2))
    have hat : (ls : Int) - 1 = (ls : Int) - 1 := rfl
    obtain ⟨J, hJ⟩ : ∃ J : Nat, ls = J := ⟨_, rfl⟩
    have hJl : J ≤ ls := by omega
    have HATJ := hide (by rw [hJ] : (ls : Int) - 1 = (J : Int) - 1)
    rw [hJ] at HJ
    clear kY k2 HN2 hF hat hJ
    generalize w2.setRow w1.heap.size (brow F) = Y at *
    simp only [Act.put]
  case' inr.inl =>
    have hpn' : decide (0 < pn) = false := by simp; omega
    have hls' : decide ((1 : Int) ≤ ls) = false := by simp; omega
    have HJ := hide (by rw [unhide HFN, if_neg hpn, hls] : footN ss ps = 0)
    have HF := hide (by rw [unhide HFR, if_neg hpn, if_pos hls] : footR k ss ps = D)
    have HLS := hide hls
    clear hls
    go_wp2_with (first
      | (rw [zb32]; refine wpList_store_row rfl 28 _ _ rfl w1.heap.size (brow D) rfl rfl _ (zb 32) (heap_alloc_new _ _) (unhide HSZ) (by rw [zb_size, brow_size, hdl]) (brow_one _) ?_))
    obtain ⟨F, hF⟩ : ∃ F, D = F := ⟨_, rfl⟩
    have HFD := hide (by rw [← hF]; exact unhide HDG : Dg F)
    have hfl := (unhide HFD).1
    have HSF := hide (Tryz.szD hfl)
    have HKY := HK1
    have HGY := HG1
    have HZY := HZ1
    have HNY := HN1
    rw [hF] at HF HNY HKY HGY HZY ⊢
    obtain ⟨J, hJ⟩ : ∃ J : Nat, 0 = J := ⟨_, rfl⟩
    have hJl : J ≤ ls := by omega
    have HATJ := hide (by rw [unhide HLS, ← hJ] : (ls : Int) - 1 = (J : Int) - 1)
    rw [hJ] at HJ
    clear hF hJ HLS
    generalize (w1.alloc (.cells (zb 32) 28)).setRow w1.heap.size (brow F) = Y at *
  case' inr.inr =>
    have hpn' : decide (0 < pn) = false := by simp; omega
    have hls' : decide ((1 : Int) ≤ ls) = true := by simp; omega
    have hls2 : (0 : Int) ≤ (ls : Int) - 1 := by omega
    obtain ⟨L, hL⟩ : ∃ L : Nat, ls - 1 = L := ⟨_, rfl⟩
    obtain ⟨b, o, rfl, hcell⟩ := unhide S5 (by omega)
    have q1 := (unhide HK1).cell (hcell (ls - 1) (by omega)).1 (by simp)
    have q2 := (unhide HK1).cell (hcell (ls - 1) (by omega)).2 (by simp)
    have hbw : b < w.heap.size := lt_of_cell (hcell (ls - 1) (by omega)).1
    have HD := hide (unhide S4 (ls - 1) (by omega))
    have HKI := hide (unhide HKL (ss.getD (ls - 1) (0, [])) (by rw [List.getD_eq_getElem?_getD, List.getElem?_eq_getElem (by rw [unhide HS1]; omega)]; exact List.getElem_mem _))
    have HF := hide (by rw [unhide HFR, if_neg hpn, if_neg hls] : footR k ss ps = sumD (k : Int) (branchB (k : Int) (ss.getD (ls - 1) (0, [])).1 (ss.getD (ls - 1) (0, [])).2))
    have HJ := hide (by rw [unhide HFN, if_neg hpn] : footN ss ps = ls - 1)
    clear hcell
    rw [hL] at q1 q2 HD HKI HF HJ
    have hLz : (ls : Int) - 1 = (L : Int) := by omega
    have hLl : (L : Int) < ls := by omega
    generalize ss.getD L (0, []) = st at q1 HD HKI HF
    generalize vs.getD L undef = vi at q2 HD
    obtain ⟨sb, sk⟩ := st
    simp only at q1 HD HKI HF
    obtain ⟨a8, m8, c8, rfl, hm8, _⟩ := id (unhide HD).2
    go_wp2_with (first
      | (rw [zb32]; refine wpList_store_row rfl 28 _ _ rfl w1.heap.size (brow D) rfl rfl _ (zb 32) (heap_alloc_new _ _) (unhide HSZ) (by rw [zb_size, brow_size, hdl]) (brow_one _) ?_))
    obtain ⟨X, hX⟩ : ∃ X, (w1.alloc (.cells (zb 32) 28)).setRow w1.heap.size (brow D) = X := ⟨_, rfl⟩
    rw [hX] at HN1 HK1 HG1 HZ1 c1 c10 q1 q2 ⊢
    clear hX
    have HCT := hide (fun w0 (hw0 : Kept [] X w0) => refBranch_any k sb (.slice a8 m8 c8) sk w0 hk (unhide HD).1 ((unhide HD).2.old ((unhide HK1).trans hw0 (by simp))) (unhide HKI))
    have HFD := hide (sumD_dg (k : Int) (branchB (k : Int) sb sk))
    obtain ⟨F, hF⟩ : ∃ F, sumD (k : Int) (branchB (k : Int) sb sk) = F := ⟨_, rfl⟩
    rw [hF] at HF HFD HCT
    have hfl := (unhide HFD).1
    have HSF := hide (Tryz.szD hfl)
    refine wp_up15 (by kernel_rfl) (by kernel_rfl) (by kernel_rfl) (by kernel_rfl) (by kernel_rfl) (by kernel_rfl) (by kernel_rfl) (by kernel_rfl) (by kernel_rfl) (by kernel_rfl) (by kernel_rfl) (by kernel_rfl) (by kernel_rfl) (by kernel_rfl) (by kernel_rfl) (by kernel_rfl) (by kernel_rfl) (by kernel_rfl) (by kernel_rfl) (by kernel_rfl) (by kernel_rfl) (by kernel_rfl) (by kernel_rfl) (by kernel_rfl) (by kernel_rfl) (by kernel_rfl) (by kernel_rfl) (by kernel_rfl) (by kernel_rfl) (by kernel_rfl) (by kernel_rfl) rfl rfl
      (.int .i64 k) (.pointer (some ⟨w.heap.size, 0, none⟩)) (.slice (some ⟨b, o, none⟩) ls sc) (.int .i64 L) (.pointer (some ⟨b, o + L * 2, none⟩)) (.pointer (some ⟨b, o + L * 2, none⟩)) (.int .u16 sb) (.pointer (some ⟨w.heap.size, 0, none⟩)) (.slice (some ⟨b, o, none⟩) ls sc) (.int .i64 L) (.pointer (some ⟨b, o + L * 2, none⟩)) (.pointer (some ⟨b, o + L * 2 + 1, none⟩)) (.slice a8 m8 c8) _ _ _ _ _ _ _ _ _ _ _ _ _
      (fun w' => Kept [w1.heap.size] X w')
      (fun w' => Kept [] X w')
      (fun u w' => u = .agg (brow F) ∧ Kept [] X w')
      (fun u v w' => Kept [w1.heap.size] X w' ∧ w'.heap[w1.heap.size]? = some (.cells (brow F) 28 (0, 0)))
      (by simp only [Act.put, List.setIfInBounds_toArray, List.set_cons_zero, List.set_cons_succ]; rfl) (by exact Or.inl ⟨by rfl, fun W' hW' => by go_simp⟩)
      (by simp only [Act.put, List.setIfInBounds_toArray, List.set_cons_zero, List.set_cons_succ]; rfl) (by exact Or.inl ⟨by rfl, fun W' hW' => by go_simp⟩)
      (by simp only [Act.put, List.setIfInBounds_toArray, List.set_cons_zero, List.set_cons_succ]; rfl) (by exact Or.inl ⟨by rfl, fun W' hW' => by have h9 := hW'.cell c10 (by simp; omega); go_simp⟩)
      (by simp only [Act.put, List.setIfInBounds_toArray, List.set_cons_zero, List.set_cons_succ]; rfl) (by exact Or.inl ⟨by rfl, fun W' hW' => by go_simp⟩)
      (by simp only [Act.put, List.setIfInBounds_toArray, List.set_cons_zero, List.set_cons_succ]; rfl) (by exact Or.inl ⟨by rfl, fun W' hW' => by go_simp⟩)
      (by simp only [Act.put, List.setIfInBounds_toArray, List.set_cons_zero, List.set_cons_succ]; rfl) (by exact Or.inl ⟨by rfl, fun W' hW' => by go_simp⟩)
      (by simp only [Act.put, List.setIfInBounds_toArray, List.set_cons_zero, List.set_cons_succ]; rfl) (by exact Or.inl ⟨by rfl, fun W' hW' => by have h9 := hW'.cell q1 (by simp; omega); go_simp⟩)
      (by simp only [Act.put, List.setIfInBounds_toArray, List.set_cons_zero, List.set_cons_succ]; rfl) (by exact Or.inl ⟨by rfl, fun W' hW' => by go_simp⟩)
      (by simp only [Act.put, List.setIfInBounds_toArray, List.set_cons_zero, List.set_cons_succ]; rfl) (by exact Or.inl ⟨by rfl, fun W' hW' => by have h9 := hW'.cell c10 (by simp; omega); go_simp⟩)
      (by simp only [Act.put, List.setIfInBounds_toArray, List.set_cons_zero, List.set_cons_succ]; rfl) (by exact Or.inl ⟨by rfl, fun W' hW' => by go_simp⟩)
      (by simp only [Act.put, List.setIfInBounds_toArray, List.set_cons_zero, List.set_cons_succ]; rfl) (by exact Or.inl ⟨by rfl, fun W' hW' => by go_simp⟩)
      (by simp only [Act.put, List.setIfInBounds_toArray, List.set_cons_zero, List.set_cons_succ]; rfl) (by exact Or.inl ⟨by rfl, fun W' hW' => by go_simp⟩)
      (by simp only [Act.put, List.setIfInBounds_toArray, List.set_cons_zero, List.set_cons_succ]; rfl) (by exact Or.inl ⟨by rfl, fun W' hW' => by have h9 := hW'.cell q2 (by simp; omega); go_simp⟩)
      (Kept.refl [] X).drew
      ⟨fun w' h => h.mono (by simp), fun u w' h => h.2.mono (by simp), fun u v w' h => h.1⟩
      (by intro w' i K hK; exact wp_callN rfl Tryz.call57 [.int .i64 k, .int .u16 sb, .slice a8 m8 c8] rfl (unhide HCT w' i) (fun e w2 h => ⟨_, h.1, hK _ _ ⟨rfl, i.trans h.2 (by simp)⟩⟩))
      (by rintro u w' ⟨rfl, i⟩ K hK; exact wp_store_row 28 (.tmp 8) (.tmp 39) rfl w1.heap.size (brow F) rfl rfl 28 (brow D) (i.heap (unhide HN1) (by simp)) (unhide HSF) (by rw [brow_size, brow_size, hfl, hdl]) (brow_one _) (hK _ _ ⟨(i.mono (by simp)).setRow (Or.inl (by simp)) _, setRow_heap _ _ _ _ _ _ (i.heap (unhide HN1) (by simp))⟩))
      ?_
    rintro u v Y ⟨kY, hNY⟩
    simp only [Act.put, List.setIfInBounds_toArray, List.set_cons_zero, List.set_cons_succ]
    have HNY := hide hNY
    have HKY := hide ((unhide HK1).trans kY (by intro x hx; right; simp at hx; omega))
    have HGY := hide (kY.heap (unhide HG1) (by simp; omega))
    have HZY := hide (kY.heap (unhide HZ1) (by simp; omega))
    have hw3 : IntKind.i64.wrap ((L : Int) - 1) = (L : Int) - 1 := by simp [IntKind.wrap, IntKind.signed, IntKind.bits]; omega
    clear hNY kY q1 q2 c1 c10 HCT hF
    go_wp2_with fail
    obtain ⟨J, hJ⟩ : ∃ J : Nat, L = J := ⟨_, rfl⟩
    have hJl : J ≤ ls := by omega
    have HATJ := hide (by rw [hJ] : (L : Int) - 1 = (J : Int) - 1)
    rw [hJ] at HJ
    clear hJ
    generalize (some (⟨b, o, none⟩ : Addr)) = sa at *
  all_goals
    obtain ⟨G, hG⟩ : ∃ G, upR k path ss J F = G := ⟨_, rfl⟩
    have HGG := hide hG
    have HFIN := hide (by rw [unhide HJ, unhide HF, hG] : upR k path ss (footN ss ps) (footR k ss ps) = G)
    rw [unhide HJ] at HRK
    clear hG
    have hg2 : w.heap.size + 2 ≤ w1.heap.size := hg1
    go_loopw [7] (fun t7 wr => ∃ (j : Nat) (E : List Nat), j ≤ J ∧ t7 = .int .i64 ((j : Int) - 1) ∧ Hid (upR k path ss j E = G) ∧ Hid (Dg E) ∧ Hid (Kept [] w wr) ∧ Hid (wr.heap[w1.heap.size]? = some (.cells (brow E) 28 (0, 0))) ∧ Hid (wr.heap[w.heap.size]? = some (.cells #[.slice sa ls sc, .slice pa pn pc] 26 (0, 0))) ∧ Hid (wr.heap[w.heap.size + 1]? = some (.cells (zb 32) 28 (0, 0)))) (fun t _ => (intOf t + 1).toNat)
    case atStart => exact ⟨J, F, Nat.le_refl _, by rw [unhide HATJ], HGG, HFD, HKY, HNY, HGY, HZY⟩
    case round =>
      obtain ⟨j, E, hj, rfl, HU, HED, HK, HN, HG, HZ⟩ := hrel
      have hel := (unhide HED).1
      have HSE := hide (Tryz.szD hel)
      cases j with
      | zero =>
        have HE := hide (by have h9 := unhide HU; unfold upR at h9; exact h9 : E = G)
        have hge : decide ((0 : Int) ≤ (0 : Int) - 1) = false := by decide
        go_wp2_with (first
          | (refine wpList_load_row rfl 28 _ rfl w1.heap.size rfl _ (brow E) (0, 0) _ (unhide HN) Tryz.underlying28 rfl (unhide HSE) ?_)
          | (refine wpList_store_row rfl 28 _ _ rfl (w.heap.size + 1) (brow E) rfl rfl _ (zb 32) (unhide HZ) (unhide HSE) (by rw [zb_size, brow_size, hel]) (brow_one _) ?_))
        refine bodyPost_ret (v := .agg (brow E)) ?_ rfl ⟨by rw [unhide HFIN, ← unhide HE], (unhide HK).setRow (Or.inr (by omega)) _⟩
        exact results_cell_row rfl _ _ (w.heap.size + 1) _ (brow E) (0, 0) _ rfl (setRow_heap _ _ _ _ _ _ (unhide HZ)) Tryz.underlying28 rfl (unhide HSE)
      | succ j =>
        have hjl : j < ls := by omega
        have hjz : ((j + 1 : Nat) : Int) - 1 = (j : Int) := by omega
        have hjl' : (j : Int) < ls := by omega
        have hjk : (j : Int) < ((2 * k : Nat) : Int) := by omega
        have hjk2 : ¬ 2 * (k : Int) ≤ (j : Int) := by omega
        have hge : decide ((0 : Int) ≤ (j : Int)) = true := by simp
        have hw4 : IntKind.i64.wrap ((j : Int) - 1) = (j : Int) - 1 := by simp [IntKind.wrap, IntKind.signed, IntKind.bits]; omega
        obtain ⟨b, o, hsa, hcell⟩ := unhide S5 (by omega)
        subst hsa
        have q1 := (unhide HK).cell (hcell j hjl).1 (by simp)
        have q2 := (unhide HK).cell (hcell j hjl).2 (by simp)
        have HD := hide (unhide S4 j hjl)
        obtain ⟨zb', zo, hza, zcell⟩ := unhide Z3 (by rw [unhide HPL]; omega)
        subst hza
        have q3 := (unhide HK).cell (zcell j (by rw [unhide HPL]; omega)) (by simp)
        have hx16 : path.getD j 0 < 16 := unhide HPX _ (by rw [List.getD_eq_getElem?_getD, List.getElem?_eq_getElem (by rw [unhide HPL]; omega)]; exact List.getElem_mem _)
        obtain ⟨hrk1, hrk2⟩ := unhide HRK j (by omega)
        have HUS := hide (by have h9 := unhide HU; rw [upR] at h9; exact h9)
        clear hcell zcell
        generalize path.getD j 0 = px at *
        generalize ss.getD j (0, []) = st at *
        generalize vs.getD j undef = vi at q2 HD
        obtain ⟨sb, sk⟩ := st
        simp only at q1 HD hrk1 hrk2 HUS
        obtain ⟨a8, m8, c8, rfl, hm8, _⟩ := id (unhide HD).2
        clear hm8
        have kX := ((Kept.refl [] wr).alloc (.cells #[.int .u16 0, .slice none 0 0] 49)).setRow (g := wr.heap.size) (Or.inr (Nat.le_refl _)) #[.int .u16 sb, .slice a8 m8 c8]
        have HSX := hide (setRow_heap (wr.alloc (.cells #[.int .u16 0, .slice none 0 0] 49)) wr.heap.size _ #[.int .u16 sb, .slice a8 m8 c8] 49 (0, 0) (heap_alloc_new _ _))
        have HKX := hide ((unhide HK).trans kX (by simp))
        have HNX := hide (kX.heap (unhide HN) (by simp))
        have HGX := hide (kX.heap (unhide HG) (by simp))
        have HZX := hide (kX.heap (unhide HZ) (by simp))
        have e3 := kX.cell q3 (by simp)
        have cg : wr.cell? ⟨w.heap.size, 0, none⟩ = some (.slice (some ⟨b, o, none⟩) ls sc) := cell_of_row _ _ 0 _ _ _ (unhide HG)
        go_wp2_with (refine wpList_store_row rfl 49 _ _ rfl wr.heap.size #[.int .u16 sb, .slice a8 m8 c8] rfl rfl _ #[.int .u16 0, .slice none 0 0] (heap_alloc_new _ _) (by kernel_rfl) rfl (by simp [Value.oneCell']) ?_)
        obtain ⟨X, hX⟩ : ∃ X, (wr.alloc (.cells #[.int .u16 0, .slice none 0 0] 49)).setRow wr.heap.size #[.int .u16 sb, .slice a8 m8 c8] = X := ⟨_, rfl⟩
        rw [hX] at HSX HKX HNX HGX HZX e3 ⊢
        clear hX kX q1 q2 q3 cg
        have f0 : X.cell? ⟨wr.heap.size, 0, none⟩ = some (.int .u16 sb) := cell_of_row _ _ 0 _ _ _ (unhide HSX)
        have f1 : X.cell? ⟨wr.heap.size, 1, none⟩ = some (.slice a8 m8 c8) := cell_of_row _ _ 1 _ _ _ (unhide HSX)
        obtain ⟨rk, hrk⟩ : ∃ rk, rankB sb ((px : Nat) : Int) = rk := ⟨_, rfl⟩
        have HRR := hide (fun w0 => rrank_any sb (px : Int) w0 (unhide HD).1 (by omega))
        rw [hrk] at hrk1 HUS HRR
        clear hrk
        have HPT := hide (fun w0 (hw0 : Kept [] X w0) => rput_any (.slice a8 m8 c8) sk rk E w0 ((unhide HD).2.old ((unhide HKX).trans hw0 (by simp))) hrk1 (unhide HED) (by omega))
        obtain ⟨M, hM⟩ : ∃ M, sk.take rk ++ E :: sk.drop rk = M := ⟨_, rfl⟩
        have hML : M.length ≤ 16 := by rw [← hM]; simp; omega
        rw [hM] at HPT HUS
        clear hM
        have HBR := hide (fun w0 v (hv : RdD w0 v M) => refBranch_any k sb v M w0 hk (unhide HD).1 hv hML)
        have HF2 := hide (sumD_dg (k : Int) (branchB (k : Int) sb M))
        obtain ⟨F2, hF2⟩ : ∃ F2, sumD (k : Int) (branchB (k : Int) sb M) = F2 := ⟨_, rfl⟩
        rw [hF2] at HUS HBR HF2
        clear hF2
        have hf2 := (unhide HF2).1
        have HS2 := hide (Tryz.szD hf2)
        have hwr : w1.heap.size < X.heap.size := lt_of_block (unhide HNX)
        refine wp_up16 (by kernel_rfl) (by kernel_rfl) (by kernel_rfl) (by kernel_rfl) (by kernel_rfl) (by kernel_rfl) (by kernel_rfl) (by kernel_rfl) (by kernel_rfl) (by kernel_rfl) (by kernel_rfl) (by kernel_rfl) (by kernel_rfl) (by kernel_rfl) (by kernel_rfl) (by kernel_rfl) (by kernel_rfl) (by kernel_rfl) (by kernel_rfl) (by kernel_rfl) (by kernel_rfl) (by kernel_rfl) (by kernel_rfl) (by kernel_rfl) (by kernel_rfl) (by kernel_rfl) (by kernel_rfl) (by kernel_rfl) (by kernel_rfl) (by kernel_rfl) (by kernel_rfl) (by kernel_rfl) (by kernel_rfl) (by kernel_rfl) (by kernel_rfl) (by kernel_rfl) (by kernel_rfl) (by kernel_rfl) (by kernel_rfl) rfl (by kernel_rfl) rfl (by kernel_rfl) rfl (by kernel_rfl) rfl (by kernel_rfl)
          (.int .i64 k) (.pointer (some ⟨wr.heap.size, 0, none⟩)) (.int .u16 sb) (.pointer (some ⟨wr.heap.size, 1, none⟩)) (.slice a8 m8 c8) (.pointer (some ⟨wr.heap.size, 0, none⟩)) (.int .u16 sb) (.slice (some ⟨zb', zo, none⟩) (2 * k) hc) (.int .i64 j) (.pointer (some ⟨zb', zo + j, none⟩)) (.int .i64 px) (.agg (E.map Go.Proofs.YtjafmnemobcipaaGreatDoor.u8).toArray) _ _ _ _ _ _ _ _ _ _ _ _
          (fun w' => Kept [] X w')
          (fun w' => Kept [] X w')
          (fun u w' => u = .int .i64 rk ∧ Kept [] X w')
          (fun u v w' => RdD w' v M ∧ Kept [] X w')
          (fun u v y w' => y = .agg (brow F2) ∧ Kept [] X w')
          (fun u v y w' => Kept [w1.heap.size] X w' ∧ w'.heap[w1.heap.size]? = some (.cells (brow F2) 28 (0, 0)))
          (by simp only [Act.put, List.setIfInBounds_toArray, List.set_cons_zero, List.set_cons_succ]; rfl) (by exact Or.inl ⟨by rfl, fun W' hW' => by go_simp⟩)
          (by simp only [Act.put, List.setIfInBounds_toArray, List.set_cons_zero, List.set_cons_succ]; rfl) (by exact Or.inl ⟨by rfl, fun W' hW' => by go_simp⟩)
          (by simp only [Act.put, List.setIfInBounds_toArray, List.set_cons_zero, List.set_cons_succ]; rfl) (by exact Or.inl ⟨by rfl, fun W' hW' => by have h9 := hW'.cell f0 (by simp); go_simp⟩)
          (by simp only [Act.put, List.setIfInBounds_toArray, List.set_cons_zero, List.set_cons_succ]; rfl) (by exact Or.inl ⟨by rfl, fun W' hW' => by go_simp⟩)
          (by simp only [Act.put, List.setIfInBounds_toArray, List.set_cons_zero, List.set_cons_succ]; rfl) (by exact Or.inl ⟨by rfl, fun W' hW' => by have h9 := hW'.cell f1 (by simp); go_simp⟩)
          (by simp only [Act.put, List.setIfInBounds_toArray, List.set_cons_zero, List.set_cons_succ]; rfl) (by exact Or.inl ⟨by rfl, fun W' hW' => by go_simp⟩)
          (by simp only [Act.put, List.setIfInBounds_toArray, List.set_cons_zero, List.set_cons_succ]; rfl) (by exact Or.inl ⟨by rfl, fun W' hW' => by have h9 := hW'.cell f0 (by simp); go_simp⟩)
          (by simp only [Act.put, List.setIfInBounds_toArray, List.set_cons_zero, List.set_cons_succ]; rfl) (by exact Or.inl ⟨by rfl, fun W' hW' => by go_simp⟩)
          (by simp only [Act.put, List.setIfInBounds_toArray, List.set_cons_zero, List.set_cons_succ]; rfl) (by exact Or.inl ⟨by rfl, fun W' hW' => by go_simp⟩)
          (by simp only [Act.put, List.setIfInBounds_toArray, List.set_cons_zero, List.set_cons_succ]; rfl) (by exact Or.inl ⟨by rfl, fun W' hW' => by go_simp⟩)
          (by simp only [Act.put, List.setIfInBounds_toArray, List.set_cons_zero, List.set_cons_succ]; rfl) (by exact Or.inl ⟨by rfl, fun W' hW' => by have h9 := hW'.cell e3 (by simp); go_simp⟩)
          (by simp only [Act.put, List.setIfInBounds_toArray, List.set_cons_zero, List.set_cons_succ]; rfl) (by exact yieldsIf_load_mid (by rfl) _ _ rfl w1.heap.size 0 rfl (E.map Go.Proofs.YtjafmnemobcipaaGreatDoor.u8) _ (fun W' hW' => range_row (hW'.heap (unhide HNX) (by simp))) Tryz.underlying28 rfl (by rw [List.length_map, hel]; exact Tryz.size_dig))
          (Kept.refl [] X).drew
          ⟨fun w' h => h, fun u w' h => h.2, fun u v w' h => h.2, fun u v y w' h => h.2⟩
          (by intro w' i K hK; exact wp_callN rfl Tryz.call59 [.int .u16 sb, .int .i64 px] rfl (unhide HRR w') (fun e w2 h => ⟨_, h.1, hK _ _ ⟨rfl, i.trans h.2 (by simp)⟩⟩))
          (by rintro u w' ⟨rfl, i⟩ K hK; refine wp_callN rfl Tryz.call58 [.slice a8 m8 c8, .int .i64 rk, .agg (brow E)] rfl (unhide HPT w' i) ?_; rintro e w2 ⟨v', rfl, hv, kv⟩; exact ⟨_, rfl, hK _ _ ⟨hv, i.trans kv (by simp)⟩⟩)
          (by rintro u v w' ⟨hv, i⟩ K hK; exact wp_callN rfl Tryz.call57 [.int .i64 k, .int .u16 sb, v] rfl (unhide HBR w' v hv) (fun e w2 h => ⟨_, h.1, hK _ _ ⟨rfl, i.trans h.2 (by simp)⟩⟩))
          (by rintro u v y w' ⟨rfl, i⟩ K hK; exact wp_store_row 28 (.tmp 8) (.tmp 65) rfl w1.heap.size (brow F2) rfl rfl 28 (brow E) (i.heap (unhide HNX) (by simp)) (unhide HS2) (by rw [brow_size, brow_size, hf2, hel]) (brow_one _) (hK _ ⟨(i.mono (by simp)).setRow (Or.inl (by simp)) _, setRow_heap _ _ _ _ _ _ (i.heap (unhide HNX) (by simp))⟩))
          ?_
        rintro u v y Z ⟨kZ, hZ⟩
        simp only [Act.put, List.setIfInBounds_toArray, List.set_cons_zero, List.set_cons_succ]
        have HN9 := hide hZ
        have HK9 := hide ((unhide HKX).trans kZ (by intro x hx; right; simp at hx; omega))
        have HG9 := hide (kZ.heap (unhide HGX) (by simp; omega))
        have HZ9 := hide (kZ.heap (unhide HZX) (by simp; omega))
        clear hZ kZ e3 f0 f1 HRR HPT HBR
        go_wp2
        go_roundw
        case rel => exact ⟨j, F2, by omega, by go_num, HUS, HF2, HK9, HN9, HG9, HZ9⟩
        case measure => simp [intOf] <;> omega
end Go.Proofs.YtjafmnemobcipaaGreatDoor
