import Derived.Test.YtfajlfcomhjnkaaDoorTopC
import Derived.Test.YtfajlfcomhjnkaaDoorTopD
import Derived.Test.YtfajlfcomhjnkaaDoorTopB
import Derived.Test.YtfajlfcomhjnkaaDoorRowz
import Derived.Deep.RegionHeld3
import Derived.Test.YtfajlfcomhjnkaaDoorBase
import Derived.Test.YtfajlfcomhjnkaaDoorCards
import Derived.Test.YtfajlfcomhjnkaaDoorTie
import Derived.ProofKit
import Derived.OpenShut
import Derived.Deep.Slices
import Derived.SizedLaws
import Derived.Test.YtfajlfcomhjnkaaDoorDForm
namespace Go.Proofs.YtfajlfcomhjnkaaDoor
open Go.RowKit Go.BigFrame
set_option linter.unusedVariables false
set_option linter.unusedSimpArgs false

set_option maxRecDepth 100000 in
set_option maxHeartbeats 1000000 in
/-- Lists that read alike are alike. -/
theorem samep_any (va vb : Value) (ds : List (List Nat)) (w : World) (ha : RdD w va ds) (hb : RdD w vb ds) :
    Calls Tryd.prog 13 #[va, vb] w fun e w' => e = .returned (.bool true) ∧ Kept [] w w' := by
  have HA := hide ha
  have HB := hide hb
  obtain ⟨aa, an, ac, rfl, a1, a2, a3, a4, a5⟩ := ha
  obtain ⟨ba, bn, bc, rfl, b1, b2, b3, b4, b5⟩ := hb
  subst a1
  subst b1
  clear a4 a5 b4 b5
  go_enter Tryd.func13, Tryd.ntmps13
  go_wp2_with fail
  go_loopw [5] (fun t5 wr => ∃ (i : Nat), i ≤ ds.length ∧ t5 = .int .i64 (i : Int) ∧ Hid (Kept [] w wr)) (fun t _ => ds.length - (intOf t).toNat)
  case atStart => exact ⟨0, Nat.zero_le _, rfl, hide (Kept.refl _ _)⟩
  case round =>
    obtain ⟨i, hi, rfl, HK⟩ := hrel
    by_cases hlt : i < ds.length
    · have hlt' : (i : Int) < (ds.length : Int) := by omega
      obtain ⟨b, o, rfl, hc⟩ := ((unhide HA).old (unhide HK)).range (by omega)
      obtain ⟨b', o', rfl, hc'⟩ := ((unhide HB).old (unhide HK)).range (by omega)
      have r1 := hc i hlt
      have r2 := hc' i hlt
      have hdg := (unhide HA).dg (d := ds.getD i []) (by rw [List.getD_eq_getElem?_getD, List.getElem?_eq_getElem hlt]; exact List.getElem_mem hlt)
      generalize ds.getD i [] = d at r1 r2 hdg
      have hdl := hdg.1
      have hq := fun W => dig_eq W d d hdl hdl
      rw [decide_eq_true rfl] at hq
      have ia : ¬ (i : Int) < 0 := by omega
      have ib : ¬ (ds.length : Int) ≤ i := by omega
      clear hc hc' hdg
      have hne : ∀ p : Prop, (∀ w', Kept [] wr w' → p) = p := fun p => propext ⟨fun h => h wr (Kept.refl [] wr), fun h _ _ => h⟩
      go_wp2_with fail
      refine wp_region_keep (by kernel_rfl) (by kernel_rfl) ?_
      iterate 3 (go_big_quiet_step (fail))
      refine wpQuiet_mid rfl 36 _ rfl b (o + i * 32) rfl (d.map u8) _ (fun w' hw' => range_kept r1 hw' (by simp)) Tryd.underlying36 rfl (by rw [List.length_map, hdl]; exact Tryd.size_dig) ?_
      simp only [Act.put, List.setIfInBounds_toArray, List.set_cons_succ, List.set_cons_zero]
      iterate 3 (go_big_quiet_step (fail))
      refine wpQuiet_mid rfl 36 _ rfl b' (o' + i * 32) rfl (d.map u8) _ (fun w' hw' => range_kept r2 hw' (by simp)) Tryd.underlying36 rfl (by rw [List.length_map, hdl]; exact Tryd.size_dig) ?_
      simp only [Act.put, List.setIfInBounds_toArray, List.set_cons_succ, List.set_cons_zero]
      refine wpQuiet_val rfl (.bool false) (fun w' _ => run_neq 36 _ _ _ rfl (d.map u8).toArray (d.map u8).toArray rfl rfl w' true (by kernel_rfl) (hq w')) ?_
      simp only [Act.put, List.setIfInBounds_toArray, List.set_cons_succ, List.set_cons_zero]
      refine wpQuiet_nil ?_
      intro w6 hw6
      have HK6 := hide ((unhide HK).trans hw6 (by simp))
      clear hw6 hne hq r1 r2
      go_wp2_with fail
      refine ⟨⟨i + 1, by omega, by simp, HK6⟩, ?_⟩
      simp [intOf]
      omega
    · have hlt' : ¬ (i : Int) < (ds.length : Int) := by omega
      go_wp2_with fail
      go_ret
      exact ⟨rfl, unhide HK⟩

theorem run_mid {P : Program} {op : Oper} {a : Act} (ty : TypeId) (x : Operand) (ho : op.op = .load ty x) (b off : Nat) (hx : a.eval x = .pointer (some ⟨b, off, none⟩)) (cs : List Value) (d : TypeDesc) (w : World) (hg : w.rangeAt b off cs)
    (hu : P.underlying ty = some d) (hd : d.isRow = true) (hi : (P.info? ty).map (·.size) = some cs.length) : (execOp a.eval op).run P w = .ok (.value (.agg cs.toArray)) w := by
  unfold execOp
  simp only [ho]
  have := run_loadVar_mid (P := P) w b off ty cs d hg hu hd hi
  simp only [hx, Instr.loadAt, Instr.sureAddr, Sem.run_bind, Sem.run_pure, Result.andThen_ok, this]

theorem wp_appendP {P : Program} {o : Oper} {a : Act} {w : World} {K : Act → World → Prop} {Q : Exit → Act → World → Prop} {s x : Operand} {t : TypeId} (ho : o.op = .call { callee := .builtin .append, args := #[s, x], argTypes := #[t, t] }) (hty : o.type = t) {v u r : Value} {w1 : World} (hs : a.eval s = v) (hx : a.eval x = u)
    (hrun : (Builtin.append_ #[t, t] t #[v, u]).run P w = .ok r w1) (hK : K (a.put o.dst r) w1) : o.wp P a w K Q := by
  unfold Oper.wp execOp
  simp only [ho, hty, resolve, invoke, builtin, Sem.run_bind, Sem.run_pure, Result.andThen_ok, List.map_toArray, List.map_cons, List.map_nil, hs, hx, hrun]
  exact hK

theorem upL_dg (z : Int) : ∀ (ls : List (List Nat)), (∀ d ∈ ls, Dg d) → ∀ d ∈ upL z ls, Dg d
  | [], _, d, hd => by simp [upL] at hd
  | [a], h, d, hd => h d (by simpa [upL] using hd)
  | a :: b :: r, h, d, hd => by
    rw [upL, List.mem_cons] at hd
    rcases hd with rfl | hd
    · exact nodS_dg z _ _
    · exact upL_dg z r (fun x hx => h x (by simp [hx])) d hd

set_option maxRecDepth 100000 in
set_option maxHeartbeats 1000000 in
theorem up_any (k : Nat) (hk : 1 ≤ k ∧ k ≤ 32) (lv : Value) (ls : List (List Nat)) (w : World) (hl : RdD w lv ls) (hN : ls.length ≤ 1000000) :
    Calls Tryd.prog 59 #[.int .i64 (k : Int), lv] w fun e w' => ∃ u, e = .returned u ∧ OwD w w' u (upL (k : Int) ls) := by
  have HL := hide hl
  have HDG := hide (fun d hd => hl.dg (d := d) hd)
  have HUL := hide (upL_len (k : Int) ls)
  obtain ⟨la, ll, lc, rfl, l1, l2, l3, l4, l5⟩ := hl
  subst l1
  have HC5 := hide (fun h => l5 h)
  clear l4 l5
  go_enter Tryd.func59, Tryd.ntmps59
  go_wp2_with fail
  go_loopw [5, 6] (fun t5 t6 wr => ∃ (j : Nat), 2 * j ≤ ls.length + 1 ∧ t6 = .int .i64 ((2 * j : Nat) : Int) ∧ Hid (OwD w wr t5 ((upL (k : Int) ls).take j))) (fun _ t _ => ls.length + 1 - (intOf t).toNat)
  case atStart => exact ⟨0, by omega, rfl, hide (OwD.nil _)⟩
  case round =>
    obtain ⟨j, hj, rfl, HO⟩ := hrel
    by_cases hlt : 2 * j < ls.length
    · obtain ⟨b, o, hla, hc⟩ := unhide HC5 (by omega)
      subst hla
      have HAT := hide (upL_at (k : Int) ls j)
      have r0 := hc (2 * j) hlt
      have hbw : b < w.heap.size := by
        have hd0 := (unhide HDG (ls.getD (2 * j) []) (by rw [List.getD_eq_getElem?_getD, List.getElem?_eq_getElem hlt]; exact List.getElem_mem hlt)).1
        cases hx : ls.getD (2 * j) [] with
        | nil => rw [hx] at hd0; simp at hd0
        | cons y r => rw [hx] at r0; exact block_lt_of_cell (r0 0 _ rfl)
      have HLN := hide (by rw [List.length_take]; omega : ((upL (k : Int) ls).take j).length ≤ j)
      have hdg0 := unhide HDG (ls.getD (2 * j) []) (by rw [List.getD_eq_getElem?_getD, List.getElem?_eq_getElem hlt]; exact List.getElem_mem hlt)
      obtain ⟨i, hij⟩ : ∃ i, 2 * j = i := ⟨_, rfl⟩
      rw [hij] at hlt r0 hdg0 HAT
      have HIJ := hide hij
      have hlt' : (i : Int) < (ls.length : Int) := by omega
      have ia : ¬ (i : Int) < 0 := by omega
      have ib : ¬ (ls.length : Int) ≤ i := by omega
      have hi1 : IntKind.i64.wrap ((i : Int) + 1) = (i : Int) + 1 := by simp [IntKind.wrap, IntKind.signed, IntKind.bits]; omega
      have hi2 : IntKind.i64.wrap ((i : Int) + 2) = (i : Int) + 2 := by simp [IntKind.wrap, IntKind.signed, IntKind.bits]; omega
      rw [hij]
      clear hij
      have r0 := range_kept r0 (unhide HO).kept (by simp)
      by_cases hbr : i + 1 < ls.length
      · have hbr' : (i : Int) + 1 < (ls.length : Int) := by omega
        have hdg1 := unhide HDG (ls.getD (i + 1) []) (by rw [List.getD_eq_getElem?_getD, List.getElem?_eq_getElem hbr]; exact List.getElem_mem hbr)
        have r1 := range_kept (hc (i + 1) hbr) (unhide HO).kept (by simp)
        rw [if_pos hbr] at HAT
        generalize ls.getD i [] = d0 at r0 hdg0 HAT
        generalize ls.getD (i + 1) [] = d1 at r1 hdg1 HAT
        have HSN := hide (by rw [List.take_add_one, unhide HAT]; rfl : (upL (k : Int) ls).take (j + 1) = (upL (k : Int) ls).take j ++ [nodS (k : Int) d0 d1])
        have ic : ¬ (i : Int) + 1 < 0 := by omega
        have id' : ¬ (ls.length : Int) ≤ (i : Int) + 1 := by omega
        have HND := hide (fun W => refNode_any k d0 d1 W hk hdg0 hdg1)
        have HDX := hide (nodS_dg (k : Int) d0 d1)
        generalize nodS (k : Int) d0 d1 = X at HND HDX HSN
        generalize (upL (k : Int) ls).take j = ds at HO HSN HLN
        obtain ⟨ua, ucap, rfl⟩ := owns_form (unhide HO).own
        have hxl := (unhide HDX).1
        have h0l := hdg0.1
        have h1l := hdg1.1
        have HR0 := hide r0
        have HR1 := hide r1
        have hnb : b ∉ (Value.slice ua ds.length ucap).ownBlock.toList := by
          intro hm
          have := ((unhide HO).own.lt b (by simpa using hm)).1
          omega
        clear hc r0 r1 HAT
        go_wp2_with fail
        refine wp_mu15 (by kernel_rfl) (by kernel_rfl) (by kernel_rfl) (by kernel_rfl) (by kernel_rfl) (by kernel_rfl) (by kernel_rfl) (by kernel_rfl) (by kernel_rfl) (by kernel_rfl) (by kernel_rfl) (by kernel_rfl) (by kernel_rfl) (by kernel_rfl) (by kernel_rfl) (by kernel_rfl) (by kernel_rfl) (by kernel_rfl) (by kernel_rfl) (by kernel_rfl) (by kernel_rfl) (by kernel_rfl) (by kernel_rfl) (by kernel_rfl) (by kernel_rfl) (by kernel_rfl) (by kernel_rfl) (by kernel_rfl) (by kernel_rfl) (by kernel_rfl) rfl rfl rfl
          (.slice ua ds.length ucap) (.int .i64 (k : Int)) (.slice (some ⟨b, o, none⟩) ls.length lc) (.int .i64 (i : Int)) (.pointer (some ⟨b, o + i * 32, none⟩)) (.agg (d0.map Go.Proofs.YtfajlfcomhjnkaaDoor.u8).toArray) (.slice (some ⟨b, o, none⟩) ls.length lc) (.int .i64 (i : Int)) (.int .i64 ((i : Int) + 1)) (.pointer (some ⟨b, o + (i + 1) * 32, none⟩)) (.agg (d1.map Go.Proofs.YtfajlfcomhjnkaaDoor.u8).toArray) _ _ _ _ _ _ _ _ _ _ _
          (fun w' => Kept (Value.slice ua ds.length ucap).ownBlock.toList wr w')
          (fun w' => Kept [] wr w')
          (fun u11 w' => u11 = .agg (X.map Go.Proofs.YtfajlfcomhjnkaaDoor.u8).toArray ∧ Kept [] wr w')
          (fun u11 u12 w' => u11 = .agg (X.map Go.Proofs.YtfajlfcomhjnkaaDoor.u8).toArray ∧ (∃ H, u12 = .slice (some ⟨H, 0, none⟩) 1 1 ∧ w'.heap[H]? = some (.cells (brow X) 36 (0, 0))) ∧ Kept [] wr w')
          (fun u11 u12 u13 w' => (∃ aa cc, u13 = .slice aa (ds.length + 1) cc) ∧ OwD w w' u13 (ds ++ [X]) ∧ Kept (Value.slice ua ds.length ucap).ownBlock.toList wr w')
          (fun u13 => u13)
          (by simp only [Act.put, List.setIfInBounds_toArray, List.set_cons_zero, List.set_cons_succ]; rfl) (by exact Or.inl ⟨by rfl, fun W' hW' => by go_simp⟩)
          (by simp only [Act.put, List.setIfInBounds_toArray, List.set_cons_zero, List.set_cons_succ]; rfl) (by exact Or.inl ⟨by rfl, fun W' hW' => by go_simp⟩)
          (by simp only [Act.put, List.setIfInBounds_toArray, List.set_cons_zero, List.set_cons_succ]; rfl) (by exact Or.inl ⟨by rfl, fun W' hW' => by go_simp⟩)
          (by simp only [Act.put, List.setIfInBounds_toArray, List.set_cons_zero, List.set_cons_succ]; rfl) (by exact Or.inl ⟨by rfl, fun W' hW' => by go_simp⟩)
          (by simp only [Act.put, List.setIfInBounds_toArray, List.set_cons_zero, List.set_cons_succ]; rfl) (by exact Or.inl ⟨by rfl, fun W' hW' => by go_simp⟩)
          (by simp only [Act.put, List.setIfInBounds_toArray, List.set_cons_zero, List.set_cons_succ]; rfl) (by exact Or.inl ⟨by rfl, fun W' hW' => run_mid 36 (.tmp 22) rfl b (o + i * 32) rfl (d0.map Go.Proofs.YtfajlfcomhjnkaaDoor.u8) _ W' (range_kept (unhide HR0) hW' hnb) Tryd.underlying36 rfl (by rw [List.length_map, h0l]; exact Tryd.size_dig)⟩)
          (by simp only [Act.put, List.setIfInBounds_toArray, List.set_cons_zero, List.set_cons_succ]; rfl) (by exact Or.inl ⟨by rfl, fun W' hW' => by go_simp⟩)
          (by simp only [Act.put, List.setIfInBounds_toArray, List.set_cons_zero, List.set_cons_succ]; rfl) (by exact Or.inl ⟨by rfl, fun W' hW' => by go_simp⟩)
          (by simp only [Act.put, List.setIfInBounds_toArray, List.set_cons_zero, List.set_cons_succ]; rfl) (by exact Or.inl ⟨by rfl, fun W' hW' => by go_simp⟩)
          (by simp only [Act.put, List.setIfInBounds_toArray, List.set_cons_zero, List.set_cons_succ]; rfl) (by exact Or.inl ⟨by rfl, fun W' hW' => by go_simp⟩)
          (by simp only [Act.put, List.setIfInBounds_toArray, List.set_cons_zero, List.set_cons_succ]; rfl) (by exact Or.inl ⟨by rfl, fun W' hW' => run_mid 36 (.tmp 27) rfl b (o + (i + 1) * 32) rfl (d1.map Go.Proofs.YtfajlfcomhjnkaaDoor.u8) _ W' (range_kept (unhide HR1) hW' hnb) Tryd.underlying36 rfl (by rw [List.length_map, h1l]; exact Tryd.size_dig)⟩)
          (Kept.refl [] wr).drew
          ⟨fun w' h => h.mono (by simp), fun u w' h => h.2.mono (by simp), fun u y w' h => h.2.2.mono (by simp), fun u y x w' h => h.2.2⟩
          (by intro w' i9 K hK; exact wp_callN rfl Tryd.call24 [.int .i64 (k : Int), .agg (brow d0), .agg (brow d1)] rfl (unhide HND w') (fun e w2 h => ⟨_, h.1, hK _ _ ⟨rfl, i9.trans h.2 (by simp)⟩⟩))
          (by
            intro u11 w' hh K hK
            simp only [Act.put, List.setIfInBounds_toArray, List.set_cons_zero, List.set_cons_succ] at hK ⊢
            obtain ⟨rfl, i9⟩ := hh
            have hfs : ∀ A : Array Value, (List.foldl (fun cs x => cs.setIfInBounds x.snd x.fst) A (List.map Go.Proofs.YtfajlfcomhjnkaaDoor.u8 X).zipIdx).size = A.size := fun A => fold_size _ A 0
            unfold Oper.wp execOp
            go_simp
            rw [zb32, one_digP X hxl]
            exact hK _ _ ⟨rfl, ⟨_, rfl, heap_alloc_new _ _⟩, i9.alloc _⟩)
          (by
            intro u11 u12 w' hh K hK
            simp only [Act.put, List.setIfInBounds_toArray, List.set_cons_zero, List.set_cons_succ] at hK ⊢
            obtain ⟨rfl, ⟨H, rfl, hH⟩, i9⟩ := hh
            have hO := (unhide HO).pass i9
            obtain ⟨ao1, cap1, w1, hrun, h2, h3⟩ := appendD w' w.heap.size (.slice ua ds.length ucap) ds [X] (some ⟨H, 0, none⟩) 1 1 hO.own (RdD.oneP hH (unhide HDX)) (by have := unhide HLN; simp; omega) hO.kept.size
            exact wp_appendP rfl rfl rfl rfl hrun (hK _ _ ⟨⟨_, _, rfl⟩, hO.push (unhide HDX) h2 h3, (i9.mono (by simp)).grown h3 (by intro k hk; left; simp [hk])⟩))
          (by rintro u11 u12 u13 w' ⟨⟨aa, cc, rfl⟩, _⟩; exact Or.inl ⟨by rfl, fun W' hW' => by go_simp⟩)
          ?_
        rintro u11 u12 u13 X4 ⟨⟨aa, cc, rfl⟩, hO4, k4⟩
        simp only [Act.put, List.setIfInBounds_toArray, List.set_cons_zero, List.set_cons_succ]
        have HO4 := hide hO4
        clear hO4 k4
        go_wp2_with (first | simp only [hi2])
        refine ⟨⟨j + 1, by have := unhide HIJ; omega, by have := unhide HIJ; simp; omega, by rw [unhide HSN]; exact HO4⟩, ?_⟩
        simp [intOf]
        omega
      · have hbr' : ¬ (i : Int) + 1 < (ls.length : Int) := by omega
        rw [if_neg hbr, if_pos hlt] at HAT
        generalize ls.getD i [] = X at r0 hdg0 HAT
        have HSN := hide (by rw [List.take_add_one, unhide HAT]; rfl : (upL (k : Int) ls).take (j + 1) = (upL (k : Int) ls).take j ++ [X])
        generalize (upL (k : Int) ls).take j = ds at HO HSN HLN
        obtain ⟨ua, ucap, rfl⟩ := owns_form (unhide HO).own
        have HDX := hide hdg0
        have hxl := hdg0.1
        have HR0 := hide r0
        have HOC := hide ((unhide HO).pass ((Kept.refl [] wr).alloc (.cells (brow X) 36)))
        have HNC := hide (heap_alloc_new wr (.cells (brow X) 36))
        clear hc r0 HAT hdg0
        go_wp2_with (first
          | simp only [hi2]
          | (refine wpList_load_mid rfl 36 _ rfl b (o + i * 32) rfl (X.map Go.Proofs.YtfajlfcomhjnkaaDoor.u8) _ (unhide HR0) Tryd.underlying36 rfl (by rw [List.length_map, hxl]; exact Tryd.size_dig) ?_)
          | (at_builtin; rw [zb32, one_digP X hxl]; refine wpList_appendD rfl _ _ rfl rfl (wr.alloc (.cells (brow X) 36)) w.heap.size (.slice ua ds.length ucap) ds [X] (some ⟨wr.heap.size, 0, none⟩) 1 1 (unhide HOC).own (RdD.oneP (unhide HNC) (unhide HDX)) (by have := unhide HLN; simp; omega) (unhide HOC).kept.size rfl rfl ?_; intro ao3 cap3 w3 HO3 HG3; have HO4 := hide ((unhide HOC).push (unhide HDX) (unhide HO3) (unhide HG3)); clear HO3 HG3))
        refine ⟨⟨j + 1, by have := unhide HIJ; omega, by have := unhide HIJ; simp; omega, by rw [unhide HSN]; exact HO4⟩, ?_⟩
        simp [intOf]
        omega
    · have hlt' : ¬ ((2 * j : Nat) : Int) < (ls.length : Int) := by omega
      have HE := hide (by rw [List.take_of_length_le (by rw [unhide HUL]; omega)] : (upL (k : Int) ls).take j = upL (k : Int) ls)
      rw [unhide HE] at HO
      go_wp2_with fail
      go_ret
      exact ⟨_, rfl, unhide HO⟩
end Go.Proofs.YtfajlfcomhjnkaaDoor
namespace Go.Proofs.YtfajlfcomhjnkaaDoor
open Go.RowKit Go.BigFrame
set_option linter.unusedVariables false
set_option linter.unusedSimpArgs false

/-- What Leaf answers. -/
def lfD (L : List (List Nat)) (i : Nat) : List Nat := if L.length ≤ i then List.replicate 32 0 else L.getD i []
def lfE (L : List (List Nat)) (i : Nat) : Int := if L.length ≤ i then 4 else 0
theorem lfD_dg {z : Int} {w : World} {ps : List Pk} (h : PKs z w ps) (i : Nat) : Dg (lfD (leavesK ps) i) := by
  unfold lfD
  split
  · exact ⟨by simp, by simp⟩
  · rename_i h1
    rw [List.getD_eq_getElem?_getD, List.getElem?_eq_getElem (by omega)]
    exact (h.leaves _ (List.getElem_mem _)).1

set_option maxRecDepth 100000 in
set_option maxHeartbeats 400000 in
theorem leafT_nil (i : Int) (w : World) :
    Calls Tryd.prog 20 #[.pointer none, .int .u64 i] w fun e w' => e = .returned (.tuple #[.agg (zb 32), .int .i64 5]) ∧ Kept [] w w' := by
  have HZ := hide (heap_alloc_new w (.cells (zb 32) 36))
  have HK := hide (((Kept.refl [] w).alloc (.cells (zb 32) 36)).setRow (g := w.heap.size) (Or.inr (Nat.le_refl _)) (zb 32))
  go_enter Tryd.func20, Tryd.ntmps20
  go_wp2_with (rw [zb32]; refine wpList_store_row rfl 36 _ _ rfl w.heap.size (zb 32) rfl rfl _ (zb 32) (unhide HZ) (by rw [zb_size]; exact Tryd.size_dig) rfl (brow_one _) ?_)
  refine bodyPost_ret (v := .tuple #[.agg (zb 32), .int .i64 5]) ?_ rfl ⟨rfl, unhide HK⟩
  exact results_cell_tmp rfl _ _ w.heap.size _ (zb 32) (0, 0) _ rfl (setRow_heap _ _ _ _ _ _ (unhide HZ)) Tryd.underlying36 rfl (by rw [zb_size]; exact Tryd.size_dig) _ rfl

set_option maxRecDepth 100000 in
set_option maxHeartbeats 400000 in
theorem leafT_all (z : Int) (t : Nat) (v : Value) (ps : List Pk) (i : Nat) (w : World) (hT : TreeAt z w t v ps) (hb : (leavesK ps).length < 32768) :
    Calls Tryd.prog 20 #[.pointer (some ⟨t, 0, none⟩), .int .u64 i] w fun e w' => e = .returned (.tuple #[.agg (brow (lfD (leavesK ps) i)), .int .i64 (lfE (leavesK ps) i)]) ∧ Kept [] w w' := by
  have hdl := (lfD_dg hT.pk i).1
  have c1 := cell_of_row _ _ 1 _ _ _ hT.row
  simp at c1
  have k0 := (Kept.refl [] w).alloc (.cells (zb 32) 36)
  have d1 := k0.cell c1 (by simp)
  have HZ := hide (heap_alloc_new w (.cells (zb 32) 36))
  have HK := hide k0
  rw [← zb32] at d1
  by_cases h : (leavesK ps).length ≤ i
  · have e1 : lfD (leavesK ps) i = List.replicate 32 0 := if_pos h
    have e2 : lfE (leavesK ps) i = 4 := if_pos h
    rw [e1, e2]
    have h' : ((leavesK ps).length : Int) ≤ i := by omega
    generalize (leavesK ps).length = n at d1 h'
    clear e1 e2 h hdl hb c1 k0 hT
    show Calls Tryd.prog 20 #[.pointer (some ⟨t, 0, none⟩), .int .u64 i] w fun e w' => e = .returned (.tuple #[.agg (zb 32), .int .i64 4]) ∧ Kept [] w w'
    go_enter Tryd.func20, Tryd.ntmps20
    go_wp2_with (rw [zb32]; refine wpList_store_row rfl 36 _ _ rfl w.heap.size (zb 32) rfl rfl _ (zb 32) (unhide HZ) (by rw [zb_size]; exact Tryd.size_dig) rfl (brow_one _) ?_)
    refine bodyPost_ret (v := .tuple #[.agg (zb 32), .int .i64 4]) ?_ rfl ⟨rfl, (unhide HK).setRow (g := w.heap.size) (Or.inr (Nat.le_refl _)) (zb 32)⟩
    exact results_cell_tmp rfl _ _ w.heap.size _ (zb 32) (0, 0) _ rfl (setRow_heap _ _ _ _ _ _ (unhide HZ)) Tryd.underlying36 rfl (by rw [zb_size]; exact Tryd.size_dig) _ rfl
  · have e2 : lfE (leavesK ps) i = 0 := if_neg h
    rw [e2]
    have h' : ¬ ((leavesK ps).length : Int) ≤ i := by omega
    have HKE := hide (by
      have h9 := keptT_any z t v ps i 0 _ (hT.old k0) (by simp; omega) (by simp) hb
      have e3 : perT z 0 (((leavesK ps).drop i).take (2 ^ 0)) = lfD (leavesK ps) i := by
        unfold lfD
        rw [if_neg h]
        simp [perT, List.getD_eq_getElem?_getD, List.getElem?_drop, List.getElem?_take]
      rw [e3] at h9
      exact h9 : Calls Tryd.prog 36 #[.pointer (some ⟨t, 0, none⟩), .int .u64 i, .int .i64 ((0 : Nat) : Int)] (w.alloc (.cells (zb 32) 36)) fun e w' => e = .returned (.agg (brow (lfD (leavesK ps) i))) ∧ Kept [] _ w')
    generalize (leavesK ps).length = n at d1 h'
    generalize lfD (leavesK ps) i = D at HKE hdl ⊢
    clear e2 h hb c1 k0 hT
    go_enter Tryd.func20, Tryd.ntmps20
    go_wp2_with fail
    rw [zb32]
    refine (unhide HKE).mono ?_
    rintro e w5 ⟨rfl, k5⟩
    have HZ5 := hide (k5.heap (unhide HZ) (by simp))
    have HK5 := hide (((unhide HK).trans k5 (by simp)).setRow (g := w.heap.size) (Or.inr (Nat.le_refl _)) (brow D))
    clear k5
    go_wp2_with (refine wpList_store_row rfl 36 _ _ rfl w.heap.size (brow D) rfl rfl _ (zb 32) (unhide HZ5) (by rw [brow_size, hdl]; exact Tryd.size_dig) (by rw [zb_size, brow_size, hdl]) (brow_one _) ?_)
    refine bodyPost_ret (v := .tuple #[.agg (brow D), .int .i64 0]) ?_ rfl ⟨rfl, unhide HK5⟩
    exact results_cell_tmp rfl _ _ w.heap.size _ (brow D) (0, 0) _ rfl (setRow_heap _ _ _ _ _ _ (unhide HZ5)) Tryd.underlying36 rfl (by rw [brow_size, hdl]; exact Tryd.size_dig) _ rfl
end Go.Proofs.YtfajlfcomhjnkaaDoor
/-
  Laws for drawn regions, by genreg.py. No program.
-/
namespace Go.Proofs.YtfajlfcomhjnkaaDoor
open Go Go.RowKit Go.BigFrame
set_option linter.unusedVariables false
set_option linter.unusedSimpArgs false
section
variable {P : Program} {Q : Exit → Act → World → Prop}
theorem wp_lo13 {id : Nat} {o0 o1 o2 o3 o4 o5 o6 o7 o8 o9 o10 o11 o12 : Oper} {a : Act} {w : World} (hm : P.follows .mixedOrders = true) (hs : Region.noSelect #[o0, o1, o2, o3, o4, o5, o6, o7, o8, o9, o10, o11, o12] = true)
    (f0 : Region.free .any #[o0, o1, o2, o3, o4, o5, o6, o7, o8, o9, o10, o11, o12] #[false, false, false, false, false, false, false, false, false, false, false, false, false] 0 = true) (r0 : (Region.ready .any #[o0, o1, o2, o3, o4, o5, o6, o7, o8, o9, o10, o11, o12] #[false, false, false, false, false, false, false, false, false, false, false, false, false]).contains 0 = true)
    (f1 : Region.free .any #[o0, o1, o2, o3, o4, o5, o6, o7, o8, o9, o10, o11, o12] #[true, false, false, false, false, false, false, false, false, false, false, false, false] 1 = true) (r1 : (Region.ready .any #[o0, o1, o2, o3, o4, o5, o6, o7, o8, o9, o10, o11, o12] #[true, false, false, false, false, false, false, false, false, false, false, false, false]).contains 1 = true)
    (f2 : Region.free .any #[o0, o1, o2, o3, o4, o5, o6, o7, o8, o9, o10, o11, o12] #[true, true, false, false, false, false, false, false, false, false, false, false, false] 2 = true) (r2 : (Region.ready .any #[o0, o1, o2, o3, o4, o5, o6, o7, o8, o9, o10, o11, o12] #[true, true, false, false, false, false, false, false, false, false, false, false, false]).contains 2 = true)
    (f3 : Region.free .any #[o0, o1, o2, o3, o4, o5, o6, o7, o8, o9, o10, o11, o12] #[true, true, true, false, false, false, false, false, false, false, false, false, false] 3 = true) (r3 : (Region.ready .any #[o0, o1, o2, o3, o4, o5, o6, o7, o8, o9, o10, o11, o12] #[true, true, true, false, false, false, false, false, false, false, false, false, false]).contains 3 = true)
    (f4 : Region.free .any #[o0, o1, o2, o3, o4, o5, o6, o7, o8, o9, o10, o11, o12] #[true, true, true, true, false, false, false, false, false, false, false, false, false] 4 = true) (r4 : (Region.ready .any #[o0, o1, o2, o3, o4, o5, o6, o7, o8, o9, o10, o11, o12] #[true, true, true, true, false, false, false, false, false, false, false, false, false]).contains 4 = true)
    (f6 : Region.free .any #[o0, o1, o2, o3, o4, o5, o6, o7, o8, o9, o10, o11, o12] #[true, true, true, true, true, false, false, false, false, false, false, false, false] 6 = true) (r6 : (Region.ready .any #[o0, o1, o2, o3, o4, o5, o6, o7, o8, o9, o10, o11, o12] #[true, true, true, true, true, false, false, false, false, false, false, false, false]).contains 6 = true)
    (f7 : Region.free .any #[o0, o1, o2, o3, o4, o5, o6, o7, o8, o9, o10, o11, o12] #[true, true, true, true, true, false, true, false, false, false, false, false, false] 7 = true) (r7 : (Region.ready .any #[o0, o1, o2, o3, o4, o5, o6, o7, o8, o9, o10, o11, o12] #[true, true, true, true, true, false, true, false, false, false, false, false, false]).contains 7 = true)
    (f8 : Region.free .any #[o0, o1, o2, o3, o4, o5, o6, o7, o8, o9, o10, o11, o12] #[true, true, true, true, true, false, true, true, false, false, false, false, false] 8 = true) (r8 : (Region.ready .any #[o0, o1, o2, o3, o4, o5, o6, o7, o8, o9, o10, o11, o12] #[true, true, true, true, true, false, true, true, false, false, false, false, false]).contains 8 = true)
    (f9 : Region.free .any #[o0, o1, o2, o3, o4, o5, o6, o7, o8, o9, o10, o11, o12] #[true, true, true, true, true, false, true, true, true, false, false, false, false] 9 = true) (r9 : (Region.ready .any #[o0, o1, o2, o3, o4, o5, o6, o7, o8, o9, o10, o11, o12] #[true, true, true, true, true, false, true, true, true, false, false, false, false]).contains 9 = true)
    (q_ : Region.ready .any #[o0, o1, o2, o3, o4, o5, o6, o7, o8, o9, o10, o11, o12] #[true, true, true, true, true, false, true, true, true, true, false, false, false] = [5])
    (q5_ : Region.ready .any #[o0, o1, o2, o3, o4, o5, o6, o7, o8, o9, o10, o11, o12] #[true, true, true, true, true, true, true, true, true, true, false, false, false] = [10])
    (q5_10_ : Region.ready .any #[o0, o1, o2, o3, o4, o5, o6, o7, o8, o9, o10, o11, o12] #[true, true, true, true, true, true, true, true, true, true, true, false, false] = [11])
    (q5_10_11_ : Region.ready .any #[o0, o1, o2, o3, o4, o5, o6, o7, o8, o9, o10, o11, o12] #[true, true, true, true, true, true, true, true, true, true, true, true, false] = [12])
    (q5_10_11_12_ : Region.ready .any #[o0, o1, o2, o3, o4, o5, o6, o7, o8, o9, o10, o11, o12] #[true, true, true, true, true, true, true, true, true, true, true, true, true] = [])
    (g5 : o5.guard = none)    (g10 : o10.guard = none)    (g11 : o11.guard = none)    (g12 : o12.guard = none)
    (v0 v1 v2 v3 v4 v6 v7 v8 v9 : Value) (A0 A1 A2 A3 A4 A5 A6 A7 A8 : Act)
    (S : World → Prop)
    (I_ : World → Prop)
    (I5_ : Value → World → Prop)
    (I5_10_ : Value → Value → World → Prop)
    (I5_10_11_ : Value → Value → Value → World → Prop)
    (I5_10_11_12_ : Value → Value → Value → Value → World → Prop)
    (p0 : a.put o0.dst v0 = A0) (hy0 : YieldsIf P #[o0, o1, o2, o3, o4, o5, o6, o7, o8, o9, o10, o11, o12] S o0 v0 a)
    (p1 : A0.put o1.dst v1 = A1) (hy1 : YieldsIf P #[o0, o1, o2, o3, o4, o5, o6, o7, o8, o9, o10, o11, o12] S o1 v1 A0)
    (p2 : A1.put o2.dst v2 = A2) (hy2 : YieldsIf P #[o0, o1, o2, o3, o4, o5, o6, o7, o8, o9, o10, o11, o12] S o2 v2 A1)
    (p3 : A2.put o3.dst v3 = A3) (hy3 : YieldsIf P #[o0, o1, o2, o3, o4, o5, o6, o7, o8, o9, o10, o11, o12] S o3 v3 A2)
    (p4 : A3.put o4.dst v4 = A4) (hy4 : YieldsIf P #[o0, o1, o2, o3, o4, o5, o6, o7, o8, o9, o10, o11, o12] S o4 v4 A3)
    (p6 : A4.put o6.dst v6 = A5) (hy6 : YieldsIf P #[o0, o1, o2, o3, o4, o5, o6, o7, o8, o9, o10, o11, o12] S o6 v6 A4)
    (p7 : A5.put o7.dst v7 = A6) (hy7 : YieldsIf P #[o0, o1, o2, o3, o4, o5, o6, o7, o8, o9, o10, o11, o12] S o7 v7 A5)
    (p8 : A6.put o8.dst v8 = A7) (hy8 : YieldsIf P #[o0, o1, o2, o3, o4, o5, o6, o7, o8, o9, o10, o11, o12] S o8 v8 A6)
    (p9 : A7.put o9.dst v9 = A8) (hy9 : YieldsIf P #[o0, o1, o2, o3, o4, o5, o6, o7, o8, o9, o10, o11, o12] S o9 v9 A7)
    (i0 : I_ w.drew)
    (hIS : (∀ w', I_  w' → S w') ∧ (∀ (u5 : Value) w', I5_ u5 w' → S w') ∧ (∀ (u5 u10 : Value) w', I5_10_ u5 u10 w' → S w') ∧ (∀ (u5 u10 u11 : Value) w', I5_10_11_ u5 u10 u11 w' → S w') ∧ (∀ (u5 u10 u11 u12 : Value) w', I5_10_11_12_ u5 u10 u11 u12 w' → S w'))
    (s_5 : ∀ w', I_  w' → ∀ K : Act → World → Prop, (∀ (u5 : Value) w2, I5_ u5 w2 → K (A8.put o5.dst u5) w2) → o5.wp P A8 w' K (NoPanic Q))
    (s5_10 : ∀ (u5 : Value) w', I5_ u5 w' → ∀ K : Act → World → Prop, (∀ (u10 : Value) w2, I5_10_ u5 u10 w2 → K ((A8.put o5.dst u5).put o10.dst u10) w2) → o10.wp P (A8.put o5.dst u5) w' K (NoPanic Q))
    (s5_10_11 : ∀ (u5 u10 : Value) w', I5_10_ u5 u10 w' → ∀ K : Act → World → Prop, (∀ (u11 : Value) w2, I5_10_11_ u5 u10 u11 w2 → K (((A8.put o5.dst u5).put o10.dst u10).put o11.dst u11) w2) → o11.wp P ((A8.put o5.dst u5).put o10.dst u10) w' K (NoPanic Q))
    (s5_10_11_12 : ∀ (u5 u10 u11 : Value) w', I5_10_11_ u5 u10 u11 w' → ∀ K : Act → World → Prop, (∀ (u12 : Value) w2, I5_10_11_12_ u5 u10 u11 u12 w2 → K ((((A8.put o5.dst u5).put o10.dst u10).put o11.dst u11).put o12.dst u12) w2) → o12.wp P (((A8.put o5.dst u5).put o10.dst u10).put o11.dst u11) w' K (NoPanic Q))
    (h : ∀ (u5 u10 u11 u12 : Value) w', I5_10_11_12_ u5 u10 u11 u12 w' → Q .normal ((((A8.put o5.dst u5).put o10.dst u10).put o11.dst u11).put o12.dst u12) w') :
    (Code.region id #[o0, o1, o2, o3, o4, o5, o6, o7, o8, o9, o10, o11, o12] true).wp P Q a w := by
  subst p0 p1 p2 p3 p4 p6 p7 p8 p9
  obtain ⟨z_, z5_, z5_10_, z5_10_11_, z5_10_11_12_⟩ := hIS
  refine wp_region_noPanic ?_
  refine wp_region_held_drew (S := S) hm (z_ _ i0) (fun hH => ?_)
  show wpAnyH P .any #[o0, o1, o2, o3, o4, o5, o6, o7, o8, o9, o10, o11, o12] (NoPanic Q) S 13 #[false, false, false, false, false, false, false, false, false, false, false, false, false] a w.drew
  refine wpAnyH_take (i := 0) (oi := o0) rfl hs f0 r0 (fun _ _ _ h => h) hy0 hH ?_
  refine wpAnyH_take (i := 1) (oi := o1) rfl hs f1 r1 (fun _ _ _ h => h) hy1 hH ?_
  refine wpAnyH_take (i := 2) (oi := o2) rfl hs f2 r2 (fun _ _ _ h => h) hy2 hH ?_
  refine wpAnyH_take (i := 3) (oi := o3) rfl hs f3 r3 (fun _ _ _ h => h) hy3 hH ?_
  refine wpAnyH_take (i := 4) (oi := o4) rfl hs f4 r4 (fun _ _ _ h => h) hy4 hH ?_
  refine wpAnyH_take (i := 6) (oi := o6) rfl hs f6 r6 (fun _ _ _ h => h) hy6 hH ?_
  refine wpAnyH_take (i := 7) (oi := o7) rfl hs f7 r7 (fun _ _ _ h => h) hy7 hH ?_
  refine wpAnyH_take (i := 8) (oi := o8) rfl hs f8 r8 (fun _ _ _ h => h) hy8 hH ?_
  refine wpAnyH_take (i := 9) (oi := o9) rfl hs f9 r9 (fun _ _ _ h => h) hy9 hH ?_
  generalize (((((((((a.put o0.dst v0).put o1.dst v1).put o2.dst v2).put o3.dst v3).put o4.dst v4).put o6.dst v6).put o7.dst v7).put o8.dst v8).put o9.dst v9) = B at *
  have wa5 : ∀ y, Region.wanted o5 y = true := fun y => by unfold Region.wanted; rw [g5]
  have wa10 : ∀ y, Region.wanted o10 y = true := fun y => by unfold Region.wanted; rw [g10]
  have wa11 : ∀ y, Region.wanted o11 y = true := fun y => by unfold Region.wanted; rw [g11]
  have wa12 : ∀ y, Region.wanted o12 y = true := fun y => by unfold Region.wanted; rw [g12]
  have t5_10_11_12_ : ∀ (u5 u10 u11 u12 : Value) w', I5_10_11_12_ u5 u10 u11 u12 w' → wpAnyH P .any #[o0, o1, o2, o3, o4, o5, o6, o7, o8, o9, o10, o11, o12] (NoPanic Q) S 0 #[true, true, true, true, true, true, true, true, true, true, true, true, true] ((((B.put o5.dst u5).put o10.dst u10).put o11.dst u11).put o12.dst u12) w' := by
    intro u5 u10 u11 u12 w0 i0
    exact ⟨q5_10_11_12_, NoPanic.normal (h u5 u10 u11 u12 w0 i0)⟩
  have t5_10_11_ : ∀ (u5 u10 u11 : Value) w', I5_10_11_ u5 u10 u11 w' → wpAnyH P .any #[o0, o1, o2, o3, o4, o5, o6, o7, o8, o9, o10, o11, o12] (NoPanic Q) S 1 #[true, true, true, true, true, true, true, true, true, true, true, true, false] (((B.put o5.dst u5).put o10.dst u10).put o11.dst u11) w' := by
    intro u5 u10 u11 w0 i0
    refine wpAnyH_ready (rs := [12]) q5_10_11_ (by simp) (AllReadyH.cons (o := o12) rfl (fun K hK => ?_) AllReadyH.nil)
    · rw [if_pos (wa12 _)]
      refine s5_10_11_12 u5 u10 u11 w0 i0 K (fun u12 w1 i1 => hK.out _ _ (z5_10_11_12_ u5 u10 u11 u12 w1 i1) (fun _ => ?_))
      clear hK
      exact t5_10_11_12_ u5 u10 u11 u12 w1 i1
  have t5_10_ : ∀ (u5 u10 : Value) w', I5_10_ u5 u10 w' → wpAnyH P .any #[o0, o1, o2, o3, o4, o5, o6, o7, o8, o9, o10, o11, o12] (NoPanic Q) S 2 #[true, true, true, true, true, true, true, true, true, true, true, false, false] ((B.put o5.dst u5).put o10.dst u10) w' := by
    intro u5 u10 w0 i0
    refine wpAnyH_ready (rs := [11]) q5_10_ (by simp) (AllReadyH.cons (o := o11) rfl (fun K hK => ?_) AllReadyH.nil)
    · rw [if_pos (wa11 _)]
      refine s5_10_11 u5 u10 w0 i0 K (fun u11 w1 i1 => hK.out _ _ (z5_10_11_ u5 u10 u11 w1 i1) (fun _ => ?_))
      clear hK
      exact t5_10_11_ u5 u10 u11 w1 i1
  have t5_ : ∀ (u5 : Value) w', I5_ u5 w' → wpAnyH P .any #[o0, o1, o2, o3, o4, o5, o6, o7, o8, o9, o10, o11, o12] (NoPanic Q) S 3 #[true, true, true, true, true, true, true, true, true, true, false, false, false] (B.put o5.dst u5) w' := by
    intro u5 w0 i0
    refine wpAnyH_ready (rs := [10]) q5_ (by simp) (AllReadyH.cons (o := o10) rfl (fun K hK => ?_) AllReadyH.nil)
    · rw [if_pos (wa10 _)]
      refine s5_10 u5 w0 i0 K (fun u10 w1 i1 => hK.out _ _ (z5_10_ u5 u10 w1 i1) (fun _ => ?_))
      clear hK
      exact t5_10_ u5 u10 w1 i1
  have t_ : ∀ w', I_  w' → wpAnyH P .any #[o0, o1, o2, o3, o4, o5, o6, o7, o8, o9, o10, o11, o12] (NoPanic Q) S 4 #[true, true, true, true, true, false, true, true, true, true, false, false, false] B w' := by
    intro w0 i0
    refine wpAnyH_ready (rs := [5]) q_ (by simp) (AllReadyH.cons (o := o5) rfl (fun K hK => ?_) AllReadyH.nil)
    · rw [if_pos (wa5 _)]
      refine s_5  w0 i0 K (fun u5 w1 i1 => hK.out _ _ (z5_ u5 w1 i1) (fun _ => ?_))
      clear hK
      exact t5_ u5 w1 i1
  exact t_ w.drew i0

end
end Go.Proofs.YtfajlfcomhjnkaaDoor
namespace Go.Proofs.YtfajlfcomhjnkaaDoor
open Go.RowKit Go.BigFrame
set_option linter.unusedVariables false
set_option linter.unusedSimpArgs false

theorem RdD.fromT {w : World} {b off n c m c' off' : Nat} {ds : List (List Nat)} (h : RdD w (.slice (some ⟨b, off, none⟩) n c) ds) (hm : m ≤ n) (hc' : n - m ≤ c' ∧ c' ≤ 9223372036854775807) (ho : m < n → off' = off + m * 32) : RdD w (.slice (some ⟨b, off', none⟩) (n - m) c') (ds.drop m) := by
  obtain ⟨_, _, _, e, h1, h2, h3, h4, h5⟩ := h
  cases e
  refine ⟨_, n - m, c', rfl, by simp [h1], hc'.1, hc'.2, fun d hd => h4 d (List.mem_of_mem_drop hd), fun hp => ?_⟩
  obtain ⟨b', o', e, hc⟩ := h5 (by omega)
  cases e
  have ho2 := ho (by omega)
  subst ho2
  refine ⟨_, _, rfl, fun i hi => ?_⟩
  have h9 := hc (m + i) (by omega)
  rw [show off + (m + i) * 32 = off + m * 32 + i * 32 by omega] at h9
  rw [List.getD_eq_getElem?_getD, List.getElem?_drop, ← List.getD_eq_getElem?_getD]
  exact h9

set_option maxRecDepth 100000 in
set_option maxHeartbeats 400000 in
theorem below_any (k : Nat) (w : World) (h2 : 2 ≤ k) (hk : k < 4611686018427387904) :
    Calls Tryd.prog 32 #[.int .u64 k] w fun e w' => e = .returned (.int .u64 (belT k)) ∧ w' = w := by
  have hs : IntKind.u64.wrap ((k : Int) - 1) = ((k - 1 : Nat) : Int) := by rw [wrU]; omega
  have HB := hide (fun j (h : 2 ^ j ≤ k - 1) (h' : k - 1 < 2 ^ (j + 1)) => (by unfold belT; rw [(Nat.log2_eq_iff (by omega)).2 ⟨h, h'⟩] : belT k = 2 ^ j))
  obtain ⟨k1, hk1⟩ : ∃ k1, k - 1 = k1 := ⟨_, rfl⟩
  rw [hk1] at hs HB
  have h1 : 1 ≤ k1 := by omega
  have h3 : k1 < 4611686018427387904 := by omega
  obtain ⟨B, hBe⟩ : ∃ B, belT k = B := ⟨_, rfl⟩
  rw [hBe] at HB ⊢
  clear hBe hk1
  go_enter Tryd.func32, Tryd.ntmps32
  go_wp2_with fail
  go_loopw [3] (fun t3 wr => ∃ (m : Nat), t3 = .int .u64 (m : Int) ∧ 1 ≤ m ∧ m ≤ k1 ∧ Hid (∃ j, m = 2 ^ j) ∧ wr = w) (fun t _ => k1 - (intOf t).toNat)
  case atStart => exact ⟨1, rfl, by omega, by omega, hide ⟨0, rfl⟩, rfl⟩
  case round =>
    obtain ⟨m, rfl, hm1, hm2, HJ, rfl⟩ := hrel
    by_cases hle : 2 * m ≤ k1
    · have hle' : (m : Int) ≤ (k1 : Int) / 2 := by omega
      have hmul : IntKind.u64.wrap ((m : Int) * 2) = ((2 * m : Nat) : Int) := by rw [wrU]; omega
      have HJ2 := hide (by obtain ⟨j, hj⟩ := unhide HJ; exact ⟨j + 1, by rw [Nat.pow_succ]; omega⟩ : ∃ j, 2 * m = 2 ^ j)
      go_wp2_with (first | simp only [hs] | simp only [hmul])
      refine ⟨⟨2 * m, rfl, by omega, by omega, HJ2, by trivial⟩, ?_⟩
      simp [intOf]
      omega
    · have hle' : ¬ (m : Int) ≤ (k1 : Int) / 2 := by omega
      have HE := hide (by obtain ⟨j, hj⟩ := unhide HJ; rw [hj]; exact unhide HB j (by omega) (by rw [Nat.pow_succ]; omega) : B = m)
      go_wp2_with (simp only [hs])
      go_ret
      exact ⟨by rw [unhide HE]; rfl, rfl⟩

set_option maxRecDepth 100000 in
set_option maxHeartbeats 400000 in
theorem logR_nil (k : Nat) (hk : 1 ≤ k ∧ k ≤ 32) (v : Value) (w : World) (hv : RdD w v []) :
    Calls Tryd.prog 15 #[.int .i64 k, v] w fun e w' => e = .returned (.agg (brow (noT k))) ∧ Kept [] w w' := by
  obtain ⟨ao, len, cap, rfl, h1, h2, h3, h4, h5⟩ := hv
  simp at h1
  subst h1
  have HZ := hide (heap_alloc_new w (.cells (zb 32) 36))
  have HK := hide ((Kept.refl [] w).alloc (.cells (zb 32) 36))
  have e : noT (k : Int) = cutL k (hash []) := by unfold noT sumD; rw [if_pos (by simp [widthB]; omega), Int.toNat_natCast]
  have HNO := hide (refNoLog_any k (w.alloc (.cells (zb 32) 36)) (by omega))
  rw [← e] at HNO
  have hdl := (noT_dg (k : Int)).1
  generalize noT (k : Int) = D at HNO hdl ⊢
  clear h4 h5 e
  go_enter Tryd.func15, Tryd.ntmps15
  go_wp2_with fail
  rw [zb32]
  refine (unhide HNO).mono ?_
  rintro e w5 ⟨rfl, k5⟩
  have HZ5 := hide (k5.heap (unhide HZ) (by simp))
  have HK5 := hide (((unhide HK).trans k5 (by simp)).setRow (g := w.heap.size) (Or.inr (Nat.le_refl _)) (brow D))
  clear k5
  go_wp2_with (refine wpList_store_row rfl 36 _ _ rfl w.heap.size (brow D) rfl rfl _ (zb 32) (unhide HZ5) (by rw [brow_size, hdl]; exact Tryd.size_dig) (by rw [zb_size, brow_size, hdl]) (brow_one _) ?_)
  refine bodyPost_ret (v := .agg (brow D)) ?_ rfl ⟨rfl, unhide HK5⟩
  exact results_cell_row rfl _ _ w.heap.size _ (brow D) (0, 0) _ rfl (setRow_heap _ _ _ _ _ _ (unhide HZ5)) Tryd.underlying36 rfl (by rw [brow_size, hdl]; exact Tryd.size_dig)

set_option maxRecDepth 100000 in
set_option maxHeartbeats 400000 in
theorem logR_one (k : Nat) (v : Value) (d : List Nat) (w : World) (hv : RdD w v [d]) :
    Calls Tryd.prog 15 #[.int .i64 k, v] w fun e w' => e = .returned (.agg (brow d)) ∧ Kept [] w w' := by
  obtain ⟨ao, len, cap, rfl, h1, h2, h3, h4, h5⟩ := hv
  simp at h1
  subst h1
  obtain ⟨b, o, rfl, hcell⟩ := h5 (by omega)
  have hdl := (h4 d (by simp)).1
  have k0 := (Kept.refl [] w).alloc (.cells (zb 32) 36)
  have HRG := hide (fun j u hj => k0.cell (by have := hcell 0 (by omega) j u hj; simpa using this) (by simp) : (w.alloc (.cells (zb 32) 36)).rangeAt b o (d.map u8))
  have HZ := hide (heap_alloc_new w (.cells (zb 32) 36))
  have HK := hide (k0.setRow (g := w.heap.size) (Or.inr (Nat.le_refl _)) (brow d))
  clear h4 h5 hcell k0
  go_enter Tryd.func15, Tryd.ntmps15
  go_wp2_with (first
    | (rw [zb32]; refine wpList_load_mid rfl 36 (.tmp 15) rfl b o rfl (d.map Go.Proofs.YtfajlfcomhjnkaaDoor.u8) _ (unhide HRG) Tryd.underlying36 rfl (by rw [List.length_map, hdl]; exact Tryd.size_dig) ?_)
    | (refine wpList_store_row rfl 36 _ _ rfl w.heap.size (brow d) rfl rfl _ (zb 32) (unhide HZ) (by rw [brow_size, hdl]; exact Tryd.size_dig) (by rw [zb_size, brow_size, hdl]) (brow_one _) ?_))
  refine bodyPost_ret (v := .agg (brow d)) ?_ rfl ⟨rfl, unhide HK⟩
  exact results_cell_row rfl _ _ w.heap.size _ (brow d) (0, 0) _ rfl (setRow_heap _ _ _ _ _ _ (unhide HZ)) Tryd.underlying36 rfl (by rw [brow_size, hdl]; exact Tryd.size_dig)

set_option maxRecDepth 100000 in
set_option maxHeartbeats 1000000 in
theorem logR_any (k : Nat) (hk : 1 ≤ k ∧ k ≤ 32) : ∀ (f : Nat) (v : Value) (ls : List (List Nat)) (w : World), ls.length ≤ f → ls.length < 4611686018427387904 → RdD w v ls →
    Calls Tryd.prog 15 #[.int .i64 k, v] w fun e w' => e = .returned (.agg (brow (logT k (noT k) ls))) ∧ Kept [] w w' := by
  intro f
  induction f with
  | zero =>
    intro v ls w h1 _ hv
    have : ls = [] := List.eq_nil_of_length_eq_zero (by omega)
    subst this
    exact logR_nil k hk v w hv
  | succ f ih =>
    intro v ls w hf hl hv
    by_cases h0 : ls.length = 0
    · have : ls = [] := List.eq_nil_of_length_eq_zero h0
      subst this
      exact logR_nil k hk v w hv
    · by_cases h1 : ls.length = 1
      · obtain ⟨x, rfl⟩ : ∃ x, ls = [x] := by
          cases ls with
          | nil => simp at h1
          | cons x r => cases r with
            | nil => exact ⟨x, rfl⟩
            | cons y r => simp at h1
        exact logR_one k v x w hv
      · have hn2 : 2 ≤ ls.length := by omega
        have hbl := belT_lt hn2
        have HDg := hide (fun l => log_dg k (noT k) l (noT_dg k))
        have hdm : ∀ d ∈ ls, Dg d := fun d hd => hv.dg hd
        have HV := hide hv
        obtain ⟨ao, len, cap, rfl, e1, h2, h3, h4, h5⟩ := hv
        obtain ⟨b, o, rfl, _⟩ := h5 (by omega)
        have HCUT := hide (logT_cut (k : Int) (noT k) ls hn2)
        have HBE := hide (fun W => below_any ls.length W hn2 hl)
        have d1 := log_dg (k : Int) (noT k) (ls.take (belT ls.length)) (noT_dg k) (fun d hd => hdm d (List.mem_of_mem_take hd))
        have d2 := log_dg (k : Int) (noT k) (ls.drop (belT ls.length)) (noT_dg k) (fun d hd => hdm d (List.mem_of_mem_drop hd))
        have HR1 := hide (fun W (kk : Kept [] w W) => ih (.slice (some ⟨b, o, none⟩) (belT ls.length) cap) (ls.take (belT ls.length)) W (by rw [List.length_take]; omega) (by rw [List.length_take]; omega) ((RdD.upto (unhide HV) (belT ls.length) (by omega)).old kk))
        have HR2 := hide (fun W (kk : Kept [] w W) => ih (.slice (some ⟨b, o + belT ls.length * 32, none⟩) (ls.length - belT ls.length) (cap - belT ls.length)) (ls.drop (belT ls.length)) W (by rw [List.length_drop]; omega) (by rw [List.length_drop]; omega) ((by have h9 := RdD.fromT (m := belT ls.length) (off' := o + belT ls.length * 32) (c' := cap - belT ls.length) (unhide HV) (by omega) (by omega) (fun _ => rfl); rw [← e1] at h9; exact h9 : RdD w _ _).old kk))
        have HND := hide (fun W => refNode_any k _ _ W hk d1 d2)
        have hD := (nodS_dg (k : Int) (logT k (noT k) (ls.take (belT ls.length))) (logT k (noT k) (ls.drop (belT ls.length)))).1
        have HE := hide (unhide HCUT : logT (k : Int) (noT k) ls = nodS k (logT k (noT k) (ls.take (belT ls.length))) (logT k (noT k) (ls.drop (belT ls.length))))
        rw [unhide HE]
        generalize nodS (k : Int) (logT k (noT k) (ls.take (belT ls.length))) (logT k (noT k) (ls.drop (belT ls.length))) = D at HND hD ⊢
        generalize logT (k : Int) (noT k) (ls.take (belT ls.length)) = D1 at HR1 HND d1
        generalize logT (k : Int) (noT k) (ls.drop (belT ls.length)) = D2 at HR2 HND d2
        generalize belT ls.length = m at HR1 HR2 HBE hbl
        subst e1
        obtain ⟨n, hn⟩ : ∃ n, ls.length = n := ⟨_, rfl⟩
        rw [hn] at HR2 HBE hbl h2 hl hn2 h0 h1 ⊢
        have hwn : IntKind.u64.wrap (n : Int) = (n : Int) := by rw [wrU]; omega
        have k0 := (Kept.refl [] w).alloc (.cells (zb 32) 36)
        have HZ := hide (heap_alloc_new w (.cells (zb 32) 36))
        have HK := hide k0
        have hSZ := hide (by rw [brow_size, hD]; exact Tryd.size_dig : (Tryd.prog.info? 36).map (·.size) = some (brow D).size)
        have q0 : ¬ (n : Int) = 0 := by omega
        have q1 : ¬ (n : Int) = 1 := by omega
        have q2 : ¬ (m : Int) < 0 := by omega
        have q3 : ¬ (cap : Int) < m := by omega
        have q4 : ¬ (n : Int) < m := by omega
        have q5 : ¬ cap = m := by omega
        have q6 : ¬ (cap : Int) = m := by omega
        have q7 : ¬ m = cap := by omega
        clear h4 h5 HV HDg hdm HCUT HE ih k0 h0 h1 hf
        go_enter Tryd.func15, Tryd.ntmps15
        go_wp2_with (simp only [hwn])
        rw [zb32]
        refine (unhide HBE _).mono ?_
        rintro e w1 ⟨rfl, rfl⟩
        go_wp2_with fail
        obtain ⟨X, hX⟩ : ∃ X, w.alloc (.cells (zb 32) 36) = X := ⟨_, rfl⟩
        rw [hX] at HZ HK ⊢
        clear hX
        refine wp_lo13 (by kernel_rfl) (by kernel_rfl) (by kernel_rfl) (by kernel_rfl) (by kernel_rfl) (by kernel_rfl) (by kernel_rfl) (by kernel_rfl) (by kernel_rfl) (by kernel_rfl) (by kernel_rfl) (by kernel_rfl) (by kernel_rfl) (by kernel_rfl) (by kernel_rfl) (by kernel_rfl) (by kernel_rfl) (by kernel_rfl) (by kernel_rfl) (by kernel_rfl) (by kernel_rfl) (by kernel_rfl) (by kernel_rfl) (by kernel_rfl) (by kernel_rfl) rfl rfl rfl rfl
          (.int .i64 (k : Int)) (.int .i64 (k : Int)) (.slice (some ⟨b, o, none⟩) n cap) (.int .u64 (m : Int)) (.slice (some ⟨b, o, none⟩) m cap) (.int .i64 (k : Int)) (.slice (some ⟨b, o, none⟩) n cap) (.int .u64 (m : Int)) (.slice (some ⟨b, o + m * 32, none⟩) (n - m) (cap - m)) _ _ _ _ _ _ _ _ _
          (fun w' => Kept [w.heap.size] X w')
          (fun w' => Kept [] X w')
          (fun u w' => u = .agg (brow D1) ∧ Kept [] X w')
          (fun u y w' => u = .agg (brow D1) ∧ y = .agg (brow D2) ∧ Kept [] X w')
          (fun u y x w' => u = .agg (brow D1) ∧ y = .agg (brow D2) ∧ x = .agg (brow D) ∧ Kept [] X w')
          (fun u y x q w' => w'.heap[w.heap.size]? = some (.cells (brow D) 36 (0, 0)) ∧ Kept [w.heap.size] X w')
          (by simp only [Act.put, List.setIfInBounds_toArray, List.set_cons_zero, List.set_cons_succ]; rfl) (by exact Or.inl ⟨by rfl, fun W' hW' => by go_simp⟩)
          (by simp only [Act.put, List.setIfInBounds_toArray, List.set_cons_zero, List.set_cons_succ]; rfl) (by exact Or.inl ⟨by rfl, fun W' hW' => by go_simp⟩)
          (by simp only [Act.put, List.setIfInBounds_toArray, List.set_cons_zero, List.set_cons_succ]; rfl) (by exact Or.inl ⟨by rfl, fun W' hW' => by go_simp⟩)
          (by simp only [Act.put, List.setIfInBounds_toArray, List.set_cons_zero, List.set_cons_succ]; rfl) (by exact Or.inl ⟨by rfl, fun W' hW' => by go_simp⟩)
          (by simp only [Act.put, List.setIfInBounds_toArray, List.set_cons_zero, List.set_cons_succ]; rfl) (by exact Or.inl ⟨by rfl, fun W' hW' => by go_simp⟩)
          (by simp only [Act.put, List.setIfInBounds_toArray, List.set_cons_zero, List.set_cons_succ]; rfl) (by exact Or.inl ⟨by rfl, fun W' hW' => by go_simp⟩)
          (by simp only [Act.put, List.setIfInBounds_toArray, List.set_cons_zero, List.set_cons_succ]; rfl) (by exact Or.inl ⟨by rfl, fun W' hW' => by go_simp⟩)
          (by simp only [Act.put, List.setIfInBounds_toArray, List.set_cons_zero, List.set_cons_succ]; rfl) (by exact Or.inl ⟨by rfl, fun W' hW' => by go_simp⟩)
          (by simp only [Act.put, List.setIfInBounds_toArray, List.set_cons_zero, List.set_cons_succ]; rfl) (by exact Or.inl ⟨by rfl, fun W' hW' => by go_simp⟩)
          (Kept.refl [] X).drew
          ⟨fun w' h => h.mono (by simp), fun u w' h => h.2.mono (by simp), fun u y w' h => h.2.2.mono (by simp), fun u y x w' h => h.2.2.2.mono (by simp), fun u y x q w' h => h.2⟩
          (by intro w' i K hK; exact wp_callN rfl Tryd.call15 [.int .i64 (k : Int), .slice (some ⟨b, o, none⟩) m cap] rfl (unhide HR1 w' ((unhide HK).trans i (by simp))) (fun e w2 h => ⟨_, h.1, hK _ _ ⟨rfl, i.trans h.2 (by simp)⟩⟩))
          (by rintro u w' ⟨rfl, i⟩ K hK; exact wp_callN rfl Tryd.call15 [.int .i64 (k : Int), .slice (some ⟨b, o + m * 32, none⟩) (n - m) (cap - m)] rfl (unhide HR2 w' ((unhide HK).trans i (by simp))) (fun e w2 h => ⟨_, h.1, hK _ _ ⟨rfl, rfl, i.trans h.2 (by simp)⟩⟩))
          (by
            intro u y w' hh K hK
            simp only [Act.put, List.setIfInBounds_toArray, List.set_cons_zero, List.set_cons_succ] at hK ⊢
            obtain ⟨rfl, rfl, i⟩ := hh
            exact wp_callN rfl Tryd.call24 [.int .i64 (k : Int), .agg (brow D1), .agg (brow D2)] rfl (unhide HND w') (fun e w2 h => ⟨_, h.1, hK _ _ ⟨rfl, rfl, rfl, i.trans h.2 (by simp)⟩⟩))
          (by
            intro u y x w' hh K hK
            simp only [Act.put, List.setIfInBounds_toArray, List.set_cons_zero, List.set_cons_succ] at hK ⊢
            obtain ⟨rfl, rfl, rfl, i⟩ := hh
            exact wp_store_row 36 _ _ rfl w.heap.size (brow D) rfl rfl _ (zb 32) (i.heap (unhide HZ) (by simp)) (unhide hSZ) (by rw [zb_size, brow_size, hD]) (brow_one _) (hK undef _ ⟨setRow_heap _ _ _ _ _ _ (i.heap (unhide HZ) (by simp)), (i.mono (by simp)).setRow (Or.inl (by simp)) _⟩))
          ?_
        rintro u y x1 q Y ⟨hrow, kY⟩
        simp only [Act.put, List.setIfInBounds_toArray, List.set_cons_zero, List.set_cons_succ]
        have HRY := hide hrow
        have HKY := hide ((unhide HK).trans kY (by simp))
        clear hrow kY
        go_wp2_with fail
        refine bodyPost_ret (v := .agg (brow D)) ?_ rfl ⟨rfl, unhide HKY⟩
        exact results_cell_row rfl _ _ w.heap.size _ (brow D) (0, 0) _ rfl (unhide HRY) Tryd.underlying36 rfl (unhide hSZ)

/-- A piece of a list of digests: where it begins counts only if it is not empty. -/
theorem RdD.piece {w : World} {ao : Option Addr} {n c lo hi c' : Nat} {ds : List (List Nat)} (h : RdD w (.slice ao n c) ds) (h1 : lo ≤ hi) (h2 : hi ≤ n) (hc' : hi - lo ≤ c' ∧ c' ≤ 9223372036854775807) (ao' : Option Addr) (ho : lo < hi → ∀ b off, ao = some ⟨b, off, none⟩ → ao' = some ⟨b, off + lo * 32, none⟩) : RdD w (.slice ao' (hi - lo) c') ((ds.drop lo).take (hi - lo)) := by
  obtain ⟨_, _, _, e, e1, e2, e3, h4, h5⟩ := h
  cases e
  refine ⟨_, hi - lo, c', rfl, by rw [List.length_take, List.length_drop]; omega, hc'.1, hc'.2, fun d hd => h4 d (List.mem_of_mem_drop (List.mem_of_mem_take hd)), fun hp => ?_⟩
  obtain ⟨b', o', e, hc⟩ := h5 (by omega)
  refine ⟨b', o' + lo * 32, ho (by omega) b' o' e, fun i hi => ?_⟩
  have h9 := hc (lo + i) (by omega)
  rw [show o' + (lo + i) * 32 = o' + lo * 32 + i * 32 by omega] at h9
  rw [List.getD_eq_getElem?_getD, List.getElem?_take_of_lt hi, List.getElem?_drop, ← List.getD_eq_getElem?_getD]
  exact h9

end Go.Proofs.YtfajlfcomhjnkaaDoor
/-
  Laws for drawn regions, by genreg.py. No program.
-/
namespace Go.Proofs.YtfajlfcomhjnkaaDoor
open Go Go.RowKit Go.BigFrame
set_option linter.unusedVariables false
set_option linter.unusedSimpArgs false
section
variable {P : Program} {Q : Exit → Act → World → Prop}
theorem wp_sl15 {id : Nat} {o0 o1 o2 o3 o4 o5 o6 o7 o8 o9 o10 o11 o12 o13 o14 : Oper} {a : Act} {w : World} (hm : P.follows .mixedOrders = true) (hs : Region.noSelect #[o0, o1, o2, o3, o4, o5, o6, o7, o8, o9, o10, o11, o12, o13, o14] = true)
    (f0 : Region.free .any #[o0, o1, o2, o3, o4, o5, o6, o7, o8, o9, o10, o11, o12, o13, o14] #[false, false, false, false, false, false, false, false, false, false, false, false, false, false, false] 0 = true) (r0 : (Region.ready .any #[o0, o1, o2, o3, o4, o5, o6, o7, o8, o9, o10, o11, o12, o13, o14] #[false, false, false, false, false, false, false, false, false, false, false, false, false, false, false]).contains 0 = true)
    (f1 : Region.free .any #[o0, o1, o2, o3, o4, o5, o6, o7, o8, o9, o10, o11, o12, o13, o14] #[true, false, false, false, false, false, false, false, false, false, false, false, false, false, false] 1 = true) (r1 : (Region.ready .any #[o0, o1, o2, o3, o4, o5, o6, o7, o8, o9, o10, o11, o12, o13, o14] #[true, false, false, false, false, false, false, false, false, false, false, false, false, false, false]).contains 1 = true)
    (f2 : Region.free .any #[o0, o1, o2, o3, o4, o5, o6, o7, o8, o9, o10, o11, o12, o13, o14] #[true, true, false, false, false, false, false, false, false, false, false, false, false, false, false] 2 = true) (r2 : (Region.ready .any #[o0, o1, o2, o3, o4, o5, o6, o7, o8, o9, o10, o11, o12, o13, o14] #[true, true, false, false, false, false, false, false, false, false, false, false, false, false, false]).contains 2 = true)
    (f3 : Region.free .any #[o0, o1, o2, o3, o4, o5, o6, o7, o8, o9, o10, o11, o12, o13, o14] #[true, true, true, false, false, false, false, false, false, false, false, false, false, false, false] 3 = true) (r3 : (Region.ready .any #[o0, o1, o2, o3, o4, o5, o6, o7, o8, o9, o10, o11, o12, o13, o14] #[true, true, true, false, false, false, false, false, false, false, false, false, false, false, false]).contains 3 = true)
    (f4 : Region.free .any #[o0, o1, o2, o3, o4, o5, o6, o7, o8, o9, o10, o11, o12, o13, o14] #[true, true, true, true, false, false, false, false, false, false, false, false, false, false, false] 4 = true) (r4 : (Region.ready .any #[o0, o1, o2, o3, o4, o5, o6, o7, o8, o9, o10, o11, o12, o13, o14] #[true, true, true, true, false, false, false, false, false, false, false, false, false, false, false]).contains 4 = true)
    (f5 : Region.free .any #[o0, o1, o2, o3, o4, o5, o6, o7, o8, o9, o10, o11, o12, o13, o14] #[true, true, true, true, true, false, false, false, false, false, false, false, false, false, false] 5 = true) (r5 : (Region.ready .any #[o0, o1, o2, o3, o4, o5, o6, o7, o8, o9, o10, o11, o12, o13, o14] #[true, true, true, true, true, false, false, false, false, false, false, false, false, false, false]).contains 5 = true)
    (f7 : Region.free .any #[o0, o1, o2, o3, o4, o5, o6, o7, o8, o9, o10, o11, o12, o13, o14] #[true, true, true, true, true, true, false, false, false, false, false, false, false, false, false] 7 = true) (r7 : (Region.ready .any #[o0, o1, o2, o3, o4, o5, o6, o7, o8, o9, o10, o11, o12, o13, o14] #[true, true, true, true, true, true, false, false, false, false, false, false, false, false, false]).contains 7 = true)
    (f8 : Region.free .any #[o0, o1, o2, o3, o4, o5, o6, o7, o8, o9, o10, o11, o12, o13, o14] #[true, true, true, true, true, true, false, true, false, false, false, false, false, false, false] 8 = true) (r8 : (Region.ready .any #[o0, o1, o2, o3, o4, o5, o6, o7, o8, o9, o10, o11, o12, o13, o14] #[true, true, true, true, true, true, false, true, false, false, false, false, false, false, false]).contains 8 = true)
    (f9 : Region.free .any #[o0, o1, o2, o3, o4, o5, o6, o7, o8, o9, o10, o11, o12, o13, o14] #[true, true, true, true, true, true, false, true, true, false, false, false, false, false, false] 9 = true) (r9 : (Region.ready .any #[o0, o1, o2, o3, o4, o5, o6, o7, o8, o9, o10, o11, o12, o13, o14] #[true, true, true, true, true, true, false, true, true, false, false, false, false, false, false]).contains 9 = true)
    (f10 : Region.free .any #[o0, o1, o2, o3, o4, o5, o6, o7, o8, o9, o10, o11, o12, o13, o14] #[true, true, true, true, true, true, false, true, true, true, false, false, false, false, false] 10 = true) (r10 : (Region.ready .any #[o0, o1, o2, o3, o4, o5, o6, o7, o8, o9, o10, o11, o12, o13, o14] #[true, true, true, true, true, true, false, true, true, true, false, false, false, false, false]).contains 10 = true)
    (q_ : Region.ready .any #[o0, o1, o2, o3, o4, o5, o6, o7, o8, o9, o10, o11, o12, o13, o14] #[true, true, true, true, true, true, false, true, true, true, true, false, false, false, false] = [6])
    (q6_ : Region.ready .any #[o0, o1, o2, o3, o4, o5, o6, o7, o8, o9, o10, o11, o12, o13, o14] #[true, true, true, true, true, true, true, true, true, true, true, false, false, false, false] = [11])
    (q6_11_ : Region.ready .any #[o0, o1, o2, o3, o4, o5, o6, o7, o8, o9, o10, o11, o12, o13, o14] #[true, true, true, true, true, true, true, true, true, true, true, true, false, false, false] = [12])
    (q6_11_12_ : Region.ready .any #[o0, o1, o2, o3, o4, o5, o6, o7, o8, o9, o10, o11, o12, o13, o14] #[true, true, true, true, true, true, true, true, true, true, true, true, true, false, false] = [13])
    (f6_11_12_13_14 : Region.free .any #[o0, o1, o2, o3, o4, o5, o6, o7, o8, o9, o10, o11, o12, o13, o14] #[true, true, true, true, true, true, true, true, true, true, true, true, true, true, false] 14 = true) (r6_11_12_13_14 : (Region.ready .any #[o0, o1, o2, o3, o4, o5, o6, o7, o8, o9, o10, o11, o12, o13, o14] #[true, true, true, true, true, true, true, true, true, true, true, true, true, true, false]).contains 14 = true)
    (q6_11_12_13_ : Region.ready .any #[o0, o1, o2, o3, o4, o5, o6, o7, o8, o9, o10, o11, o12, o13, o14] #[true, true, true, true, true, true, true, true, true, true, true, true, true, true, true] = [])
    (g6 : o6.guard = none)    (g11 : o11.guard = none)    (g12 : o12.guard = none)    (g13 : o13.guard = none)
    (v0 v1 v2 v3 v4 v5 v7 v8 v9 v10 : Value) (A0 A1 A2 A3 A4 A5 A6 A7 A8 A9 : Act)
    (S : World → Prop)
    (I_ : World → Prop)
    (I6_ : Value → World → Prop)
    (I6_11_ : Value → Value → World → Prop)
    (I6_11_12_ : Value → Value → Value → World → Prop)
    (I6_11_12_13_ : Value → Value → Value → Value → World → Prop)
    (v14 : Value → Value)
    (p0 : a.put o0.dst v0 = A0) (hy0 : YieldsIf P #[o0, o1, o2, o3, o4, o5, o6, o7, o8, o9, o10, o11, o12, o13, o14] S o0 v0 a)
    (p1 : A0.put o1.dst v1 = A1) (hy1 : YieldsIf P #[o0, o1, o2, o3, o4, o5, o6, o7, o8, o9, o10, o11, o12, o13, o14] S o1 v1 A0)
    (p2 : A1.put o2.dst v2 = A2) (hy2 : YieldsIf P #[o0, o1, o2, o3, o4, o5, o6, o7, o8, o9, o10, o11, o12, o13, o14] S o2 v2 A1)
    (p3 : A2.put o3.dst v3 = A3) (hy3 : YieldsIf P #[o0, o1, o2, o3, o4, o5, o6, o7, o8, o9, o10, o11, o12, o13, o14] S o3 v3 A2)
    (p4 : A3.put o4.dst v4 = A4) (hy4 : YieldsIf P #[o0, o1, o2, o3, o4, o5, o6, o7, o8, o9, o10, o11, o12, o13, o14] S o4 v4 A3)
    (p5 : A4.put o5.dst v5 = A5) (hy5 : YieldsIf P #[o0, o1, o2, o3, o4, o5, o6, o7, o8, o9, o10, o11, o12, o13, o14] S o5 v5 A4)
    (p7 : A5.put o7.dst v7 = A6) (hy7 : YieldsIf P #[o0, o1, o2, o3, o4, o5, o6, o7, o8, o9, o10, o11, o12, o13, o14] S o7 v7 A5)
    (p8 : A6.put o8.dst v8 = A7) (hy8 : YieldsIf P #[o0, o1, o2, o3, o4, o5, o6, o7, o8, o9, o10, o11, o12, o13, o14] S o8 v8 A6)
    (p9 : A7.put o9.dst v9 = A8) (hy9 : YieldsIf P #[o0, o1, o2, o3, o4, o5, o6, o7, o8, o9, o10, o11, o12, o13, o14] S o9 v9 A7)
    (p10 : A8.put o10.dst v10 = A9) (hy10 : YieldsIf P #[o0, o1, o2, o3, o4, o5, o6, o7, o8, o9, o10, o11, o12, o13, o14] S o10 v10 A8)
    (i0 : I_ w.drew)
    (hIS : (∀ w', I_  w' → S w') ∧ (∀ (u6 : Value) w', I6_ u6 w' → S w') ∧ (∀ (u6 u11 : Value) w', I6_11_ u6 u11 w' → S w') ∧ (∀ (u6 u11 u12 : Value) w', I6_11_12_ u6 u11 u12 w' → S w') ∧ (∀ (u6 u11 u12 u13 : Value) w', I6_11_12_13_ u6 u11 u12 u13 w' → S w'))
    (s_6 : ∀ w', I_  w' → ∀ K : Act → World → Prop, (∀ (u6 : Value) w2, I6_ u6 w2 → K (A9.put o6.dst u6) w2) → o6.wp P A9 w' K (NoPanic Q))
    (s6_11 : ∀ (u6 : Value) w', I6_ u6 w' → ∀ K : Act → World → Prop, (∀ (u11 : Value) w2, I6_11_ u6 u11 w2 → K ((A9.put o6.dst u6).put o11.dst u11) w2) → o11.wp P (A9.put o6.dst u6) w' K (NoPanic Q))
    (s6_11_12 : ∀ (u6 u11 : Value) w', I6_11_ u6 u11 w' → ∀ K : Act → World → Prop, (∀ (u12 : Value) w2, I6_11_12_ u6 u11 u12 w2 → K (((A9.put o6.dst u6).put o11.dst u11).put o12.dst u12) w2) → o12.wp P ((A9.put o6.dst u6).put o11.dst u11) w' K (NoPanic Q))
    (s6_11_12_13 : ∀ (u6 u11 u12 : Value) w', I6_11_12_ u6 u11 u12 w' → ∀ K : Act → World → Prop, (∀ (u13 : Value) w2, I6_11_12_13_ u6 u11 u12 u13 w2 → K ((((A9.put o6.dst u6).put o11.dst u11).put o12.dst u12).put o13.dst u13) w2) → o13.wp P (((A9.put o6.dst u6).put o11.dst u11).put o12.dst u12) w' K (NoPanic Q))
    (y6_11_12_13_14 : ∀ (u6 u11 u12 u13 : Value) w', I6_11_12_13_ u6 u11 u12 u13 w' → YieldsIf P #[o0, o1, o2, o3, o4, o5, o6, o7, o8, o9, o10, o11, o12, o13, o14] S o14 (v14 u13) ((((A9.put o6.dst u6).put o11.dst u11).put o12.dst u12).put o13.dst u13))
    (h : ∀ (u6 u11 u12 u13 : Value) w', I6_11_12_13_ u6 u11 u12 u13 w' → Q .normal (((((A9.put o6.dst u6).put o11.dst u11).put o12.dst u12).put o13.dst u13).put o14.dst (v14 u13)) w') :
    (Code.region id #[o0, o1, o2, o3, o4, o5, o6, o7, o8, o9, o10, o11, o12, o13, o14] true).wp P Q a w := by
  subst p0 p1 p2 p3 p4 p5 p7 p8 p9 p10
  obtain ⟨z_, z6_, z6_11_, z6_11_12_, z6_11_12_13_⟩ := hIS
  refine wp_region_noPanic ?_
  refine wp_region_held_drew (S := S) hm (z_ _ i0) (fun hH => ?_)
  show wpAnyH P .any #[o0, o1, o2, o3, o4, o5, o6, o7, o8, o9, o10, o11, o12, o13, o14] (NoPanic Q) S 15 #[false, false, false, false, false, false, false, false, false, false, false, false, false, false, false] a w.drew
  refine wpAnyH_take (i := 0) (oi := o0) rfl hs f0 r0 (fun _ _ _ h => h) hy0 hH ?_
  refine wpAnyH_take (i := 1) (oi := o1) rfl hs f1 r1 (fun _ _ _ h => h) hy1 hH ?_
  refine wpAnyH_take (i := 2) (oi := o2) rfl hs f2 r2 (fun _ _ _ h => h) hy2 hH ?_
  refine wpAnyH_take (i := 3) (oi := o3) rfl hs f3 r3 (fun _ _ _ h => h) hy3 hH ?_
  refine wpAnyH_take (i := 4) (oi := o4) rfl hs f4 r4 (fun _ _ _ h => h) hy4 hH ?_
  refine wpAnyH_take (i := 5) (oi := o5) rfl hs f5 r5 (fun _ _ _ h => h) hy5 hH ?_
  refine wpAnyH_take (i := 7) (oi := o7) rfl hs f7 r7 (fun _ _ _ h => h) hy7 hH ?_
  refine wpAnyH_take (i := 8) (oi := o8) rfl hs f8 r8 (fun _ _ _ h => h) hy8 hH ?_
  refine wpAnyH_take (i := 9) (oi := o9) rfl hs f9 r9 (fun _ _ _ h => h) hy9 hH ?_
  refine wpAnyH_take (i := 10) (oi := o10) rfl hs f10 r10 (fun _ _ _ h => h) hy10 hH ?_
  generalize ((((((((((a.put o0.dst v0).put o1.dst v1).put o2.dst v2).put o3.dst v3).put o4.dst v4).put o5.dst v5).put o7.dst v7).put o8.dst v8).put o9.dst v9).put o10.dst v10) = B at *
  have wa6 : ∀ y, Region.wanted o6 y = true := fun y => by unfold Region.wanted; rw [g6]
  have wa11 : ∀ y, Region.wanted o11 y = true := fun y => by unfold Region.wanted; rw [g11]
  have wa12 : ∀ y, Region.wanted o12 y = true := fun y => by unfold Region.wanted; rw [g12]
  have wa13 : ∀ y, Region.wanted o13 y = true := fun y => by unfold Region.wanted; rw [g13]
  have t6_11_12_13_ : ∀ (u6 u11 u12 u13 : Value) w', I6_11_12_13_ u6 u11 u12 u13 w' → wpAnyH P .any #[o0, o1, o2, o3, o4, o5, o6, o7, o8, o9, o10, o11, o12, o13, o14] (NoPanic Q) S 0 #[true, true, true, true, true, true, true, true, true, true, true, true, true, true, true] (((((B.put o6.dst u6).put o11.dst u11).put o12.dst u12).put o13.dst u13).put o14.dst (v14 u13)) w' := by
    intro u6 u11 u12 u13 w0 i0
    exact ⟨q6_11_12_13_, NoPanic.normal (h u6 u11 u12 u13 w0 i0)⟩
  have t6_11_12_ : ∀ (u6 u11 u12 : Value) w', I6_11_12_ u6 u11 u12 w' → wpAnyH P .any #[o0, o1, o2, o3, o4, o5, o6, o7, o8, o9, o10, o11, o12, o13, o14] (NoPanic Q) S 2 #[true, true, true, true, true, true, true, true, true, true, true, true, true, false, false] (((B.put o6.dst u6).put o11.dst u11).put o12.dst u12) w' := by
    intro u6 u11 u12 w0 i0
    refine wpAnyH_ready (rs := [13]) q6_11_12_ (by simp) (AllReadyH.cons (o := o13) rfl (fun K hK => ?_) AllReadyH.nil)
    · rw [if_pos (wa13 _)]
      refine s6_11_12_13 u6 u11 u12 w0 i0 K (fun u13 w1 i1 => hK.out _ _ (z6_11_12_13_ u6 u11 u12 u13 w1 i1) (fun _ => ?_))
      clear hK
      refine wpAnyH_take (i := 14) (oi := o14) rfl hs f6_11_12_13_14 r6_11_12_13_14 (fun _ _ _ h => h) (y6_11_12_13_14 u6 u11 u12 u13 w1 i1) (z6_11_12_13_ u6 u11 u12 u13 w1 i1) ?_
      exact t6_11_12_13_ u6 u11 u12 u13 w1 i1
  have t6_11_ : ∀ (u6 u11 : Value) w', I6_11_ u6 u11 w' → wpAnyH P .any #[o0, o1, o2, o3, o4, o5, o6, o7, o8, o9, o10, o11, o12, o13, o14] (NoPanic Q) S 3 #[true, true, true, true, true, true, true, true, true, true, true, true, false, false, false] ((B.put o6.dst u6).put o11.dst u11) w' := by
    intro u6 u11 w0 i0
    refine wpAnyH_ready (rs := [12]) q6_11_ (by simp) (AllReadyH.cons (o := o12) rfl (fun K hK => ?_) AllReadyH.nil)
    · rw [if_pos (wa12 _)]
      refine s6_11_12 u6 u11 w0 i0 K (fun u12 w1 i1 => hK.out _ _ (z6_11_12_ u6 u11 u12 w1 i1) (fun _ => ?_))
      clear hK
      exact t6_11_12_ u6 u11 u12 w1 i1
  have t6_ : ∀ (u6 : Value) w', I6_ u6 w' → wpAnyH P .any #[o0, o1, o2, o3, o4, o5, o6, o7, o8, o9, o10, o11, o12, o13, o14] (NoPanic Q) S 4 #[true, true, true, true, true, true, true, true, true, true, true, false, false, false, false] (B.put o6.dst u6) w' := by
    intro u6 w0 i0
    refine wpAnyH_ready (rs := [11]) q6_ (by simp) (AllReadyH.cons (o := o11) rfl (fun K hK => ?_) AllReadyH.nil)
    · rw [if_pos (wa11 _)]
      refine s6_11 u6 w0 i0 K (fun u11 w1 i1 => hK.out _ _ (z6_11_ u6 u11 w1 i1) (fun _ => ?_))
      clear hK
      exact t6_11_ u6 u11 w1 i1
  have t_ : ∀ w', I_  w' → wpAnyH P .any #[o0, o1, o2, o3, o4, o5, o6, o7, o8, o9, o10, o11, o12, o13, o14] (NoPanic Q) S 5 #[true, true, true, true, true, true, false, true, true, true, true, false, false, false, false] B w' := by
    intro w0 i0
    refine wpAnyH_ready (rs := [6]) q_ (by simp) (AllReadyH.cons (o := o6) rfl (fun K hK => ?_) AllReadyH.nil)
    · rw [if_pos (wa6 _)]
      refine s_6  w0 i0 K (fun u6 w1 i1 => hK.out _ _ (z6_ u6 w1 i1) (fun _ => ?_))
      clear hK
      exact t6_ u6 w1 i1
  exact t_ w.drew i0

theorem wp_sr16 {id : Nat} {o0 o1 o2 o3 o4 o5 o6 o7 o8 o9 o10 o11 o12 o13 o14 o15 : Oper} {a : Act} {w : World} (hm : P.follows .mixedOrders = true) (hs : Region.noSelect #[o0, o1, o2, o3, o4, o5, o6, o7, o8, o9, o10, o11, o12, o13, o14, o15] = true)
    (f0 : Region.free .any #[o0, o1, o2, o3, o4, o5, o6, o7, o8, o9, o10, o11, o12, o13, o14, o15] #[false, false, false, false, false, false, false, false, false, false, false, false, false, false, false, false] 0 = true) (r0 : (Region.ready .any #[o0, o1, o2, o3, o4, o5, o6, o7, o8, o9, o10, o11, o12, o13, o14, o15] #[false, false, false, false, false, false, false, false, false, false, false, false, false, false, false, false]).contains 0 = true)
    (f1 : Region.free .any #[o0, o1, o2, o3, o4, o5, o6, o7, o8, o9, o10, o11, o12, o13, o14, o15] #[true, false, false, false, false, false, false, false, false, false, false, false, false, false, false, false] 1 = true) (r1 : (Region.ready .any #[o0, o1, o2, o3, o4, o5, o6, o7, o8, o9, o10, o11, o12, o13, o14, o15] #[true, false, false, false, false, false, false, false, false, false, false, false, false, false, false, false]).contains 1 = true)
    (f2 : Region.free .any #[o0, o1, o2, o3, o4, o5, o6, o7, o8, o9, o10, o11, o12, o13, o14, o15] #[true, true, false, false, false, false, false, false, false, false, false, false, false, false, false, false] 2 = true) (r2 : (Region.ready .any #[o0, o1, o2, o3, o4, o5, o6, o7, o8, o9, o10, o11, o12, o13, o14, o15] #[true, true, false, false, false, false, false, false, false, false, false, false, false, false, false, false]).contains 2 = true)
    (f3 : Region.free .any #[o0, o1, o2, o3, o4, o5, o6, o7, o8, o9, o10, o11, o12, o13, o14, o15] #[true, true, true, false, false, false, false, false, false, false, false, false, false, false, false, false] 3 = true) (r3 : (Region.ready .any #[o0, o1, o2, o3, o4, o5, o6, o7, o8, o9, o10, o11, o12, o13, o14, o15] #[true, true, true, false, false, false, false, false, false, false, false, false, false, false, false, false]).contains 3 = true)
    (f4 : Region.free .any #[o0, o1, o2, o3, o4, o5, o6, o7, o8, o9, o10, o11, o12, o13, o14, o15] #[true, true, true, true, false, false, false, false, false, false, false, false, false, false, false, false] 4 = true) (r4 : (Region.ready .any #[o0, o1, o2, o3, o4, o5, o6, o7, o8, o9, o10, o11, o12, o13, o14, o15] #[true, true, true, true, false, false, false, false, false, false, false, false, false, false, false, false]).contains 4 = true)
    (f5 : Region.free .any #[o0, o1, o2, o3, o4, o5, o6, o7, o8, o9, o10, o11, o12, o13, o14, o15] #[true, true, true, true, true, false, false, false, false, false, false, false, false, false, false, false] 5 = true) (r5 : (Region.ready .any #[o0, o1, o2, o3, o4, o5, o6, o7, o8, o9, o10, o11, o12, o13, o14, o15] #[true, true, true, true, true, false, false, false, false, false, false, false, false, false, false, false]).contains 5 = true)
    (f6 : Region.free .any #[o0, o1, o2, o3, o4, o5, o6, o7, o8, o9, o10, o11, o12, o13, o14, o15] #[true, true, true, true, true, true, false, false, false, false, false, false, false, false, false, false] 6 = true) (r6 : (Region.ready .any #[o0, o1, o2, o3, o4, o5, o6, o7, o8, o9, o10, o11, o12, o13, o14, o15] #[true, true, true, true, true, true, false, false, false, false, false, false, false, false, false, false]).contains 6 = true)
    (f8 : Region.free .any #[o0, o1, o2, o3, o4, o5, o6, o7, o8, o9, o10, o11, o12, o13, o14, o15] #[true, true, true, true, true, true, true, false, false, false, false, false, false, false, false, false] 8 = true) (r8 : (Region.ready .any #[o0, o1, o2, o3, o4, o5, o6, o7, o8, o9, o10, o11, o12, o13, o14, o15] #[true, true, true, true, true, true, true, false, false, false, false, false, false, false, false, false]).contains 8 = true)
    (f9 : Region.free .any #[o0, o1, o2, o3, o4, o5, o6, o7, o8, o9, o10, o11, o12, o13, o14, o15] #[true, true, true, true, true, true, true, false, true, false, false, false, false, false, false, false] 9 = true) (r9 : (Region.ready .any #[o0, o1, o2, o3, o4, o5, o6, o7, o8, o9, o10, o11, o12, o13, o14, o15] #[true, true, true, true, true, true, true, false, true, false, false, false, false, false, false, false]).contains 9 = true)
    (f10 : Region.free .any #[o0, o1, o2, o3, o4, o5, o6, o7, o8, o9, o10, o11, o12, o13, o14, o15] #[true, true, true, true, true, true, true, false, true, true, false, false, false, false, false, false] 10 = true) (r10 : (Region.ready .any #[o0, o1, o2, o3, o4, o5, o6, o7, o8, o9, o10, o11, o12, o13, o14, o15] #[true, true, true, true, true, true, true, false, true, true, false, false, false, false, false, false]).contains 10 = true)
    (f11 : Region.free .any #[o0, o1, o2, o3, o4, o5, o6, o7, o8, o9, o10, o11, o12, o13, o14, o15] #[true, true, true, true, true, true, true, false, true, true, true, false, false, false, false, false] 11 = true) (r11 : (Region.ready .any #[o0, o1, o2, o3, o4, o5, o6, o7, o8, o9, o10, o11, o12, o13, o14, o15] #[true, true, true, true, true, true, true, false, true, true, true, false, false, false, false, false]).contains 11 = true)
    (q_ : Region.ready .any #[o0, o1, o2, o3, o4, o5, o6, o7, o8, o9, o10, o11, o12, o13, o14, o15] #[true, true, true, true, true, true, true, false, true, true, true, true, false, false, false, false] = [7])
    (q7_ : Region.ready .any #[o0, o1, o2, o3, o4, o5, o6, o7, o8, o9, o10, o11, o12, o13, o14, o15] #[true, true, true, true, true, true, true, true, true, true, true, true, false, false, false, false] = [12])
    (q7_12_ : Region.ready .any #[o0, o1, o2, o3, o4, o5, o6, o7, o8, o9, o10, o11, o12, o13, o14, o15] #[true, true, true, true, true, true, true, true, true, true, true, true, true, false, false, false] = [13])
    (q7_12_13_ : Region.ready .any #[o0, o1, o2, o3, o4, o5, o6, o7, o8, o9, o10, o11, o12, o13, o14, o15] #[true, true, true, true, true, true, true, true, true, true, true, true, true, true, false, false] = [14])
    (f7_12_13_14_15 : Region.free .any #[o0, o1, o2, o3, o4, o5, o6, o7, o8, o9, o10, o11, o12, o13, o14, o15] #[true, true, true, true, true, true, true, true, true, true, true, true, true, true, true, false] 15 = true) (r7_12_13_14_15 : (Region.ready .any #[o0, o1, o2, o3, o4, o5, o6, o7, o8, o9, o10, o11, o12, o13, o14, o15] #[true, true, true, true, true, true, true, true, true, true, true, true, true, true, true, false]).contains 15 = true)
    (q7_12_13_14_ : Region.ready .any #[o0, o1, o2, o3, o4, o5, o6, o7, o8, o9, o10, o11, o12, o13, o14, o15] #[true, true, true, true, true, true, true, true, true, true, true, true, true, true, true, true] = [])
    (g7 : o7.guard = none)    (g12 : o12.guard = none)    (g13 : o13.guard = none)    (g14 : o14.guard = none)
    (v0 v1 v2 v3 v4 v5 v6 v8 v9 v10 v11 : Value) (A0 A1 A2 A3 A4 A5 A6 A7 A8 A9 A10 : Act)
    (S : World → Prop)
    (I_ : World → Prop)
    (I7_ : Value → World → Prop)
    (I7_12_ : Value → Value → World → Prop)
    (I7_12_13_ : Value → Value → Value → World → Prop)
    (I7_12_13_14_ : Value → Value → Value → Value → World → Prop)
    (v15 : Value → Value)
    (p0 : a.put o0.dst v0 = A0) (hy0 : YieldsIf P #[o0, o1, o2, o3, o4, o5, o6, o7, o8, o9, o10, o11, o12, o13, o14, o15] S o0 v0 a)
    (p1 : A0.put o1.dst v1 = A1) (hy1 : YieldsIf P #[o0, o1, o2, o3, o4, o5, o6, o7, o8, o9, o10, o11, o12, o13, o14, o15] S o1 v1 A0)
    (p2 : A1.put o2.dst v2 = A2) (hy2 : YieldsIf P #[o0, o1, o2, o3, o4, o5, o6, o7, o8, o9, o10, o11, o12, o13, o14, o15] S o2 v2 A1)
    (p3 : A2.put o3.dst v3 = A3) (hy3 : YieldsIf P #[o0, o1, o2, o3, o4, o5, o6, o7, o8, o9, o10, o11, o12, o13, o14, o15] S o3 v3 A2)
    (p4 : A3.put o4.dst v4 = A4) (hy4 : YieldsIf P #[o0, o1, o2, o3, o4, o5, o6, o7, o8, o9, o10, o11, o12, o13, o14, o15] S o4 v4 A3)
    (p5 : A4.put o5.dst v5 = A5) (hy5 : YieldsIf P #[o0, o1, o2, o3, o4, o5, o6, o7, o8, o9, o10, o11, o12, o13, o14, o15] S o5 v5 A4)
    (p6 : A5.put o6.dst v6 = A6) (hy6 : YieldsIf P #[o0, o1, o2, o3, o4, o5, o6, o7, o8, o9, o10, o11, o12, o13, o14, o15] S o6 v6 A5)
    (p8 : A6.put o8.dst v8 = A7) (hy8 : YieldsIf P #[o0, o1, o2, o3, o4, o5, o6, o7, o8, o9, o10, o11, o12, o13, o14, o15] S o8 v8 A6)
    (p9 : A7.put o9.dst v9 = A8) (hy9 : YieldsIf P #[o0, o1, o2, o3, o4, o5, o6, o7, o8, o9, o10, o11, o12, o13, o14, o15] S o9 v9 A7)
    (p10 : A8.put o10.dst v10 = A9) (hy10 : YieldsIf P #[o0, o1, o2, o3, o4, o5, o6, o7, o8, o9, o10, o11, o12, o13, o14, o15] S o10 v10 A8)
    (p11 : A9.put o11.dst v11 = A10) (hy11 : YieldsIf P #[o0, o1, o2, o3, o4, o5, o6, o7, o8, o9, o10, o11, o12, o13, o14, o15] S o11 v11 A9)
    (i0 : I_ w.drew)
    (hIS : (∀ w', I_  w' → S w') ∧ (∀ (u7 : Value) w', I7_ u7 w' → S w') ∧ (∀ (u7 u12 : Value) w', I7_12_ u7 u12 w' → S w') ∧ (∀ (u7 u12 u13 : Value) w', I7_12_13_ u7 u12 u13 w' → S w') ∧ (∀ (u7 u12 u13 u14 : Value) w', I7_12_13_14_ u7 u12 u13 u14 w' → S w'))
    (s_7 : ∀ w', I_  w' → ∀ K : Act → World → Prop, (∀ (u7 : Value) w2, I7_ u7 w2 → K (A10.put o7.dst u7) w2) → o7.wp P A10 w' K (NoPanic Q))
    (s7_12 : ∀ (u7 : Value) w', I7_ u7 w' → ∀ K : Act → World → Prop, (∀ (u12 : Value) w2, I7_12_ u7 u12 w2 → K ((A10.put o7.dst u7).put o12.dst u12) w2) → o12.wp P (A10.put o7.dst u7) w' K (NoPanic Q))
    (s7_12_13 : ∀ (u7 u12 : Value) w', I7_12_ u7 u12 w' → ∀ K : Act → World → Prop, (∀ (u13 : Value) w2, I7_12_13_ u7 u12 u13 w2 → K (((A10.put o7.dst u7).put o12.dst u12).put o13.dst u13) w2) → o13.wp P ((A10.put o7.dst u7).put o12.dst u12) w' K (NoPanic Q))
    (s7_12_13_14 : ∀ (u7 u12 u13 : Value) w', I7_12_13_ u7 u12 u13 w' → ∀ K : Act → World → Prop, (∀ (u14 : Value) w2, I7_12_13_14_ u7 u12 u13 u14 w2 → K ((((A10.put o7.dst u7).put o12.dst u12).put o13.dst u13).put o14.dst u14) w2) → o14.wp P (((A10.put o7.dst u7).put o12.dst u12).put o13.dst u13) w' K (NoPanic Q))
    (y7_12_13_14_15 : ∀ (u7 u12 u13 u14 : Value) w', I7_12_13_14_ u7 u12 u13 u14 w' → YieldsIf P #[o0, o1, o2, o3, o4, o5, o6, o7, o8, o9, o10, o11, o12, o13, o14, o15] S o15 (v15 u14) ((((A10.put o7.dst u7).put o12.dst u12).put o13.dst u13).put o14.dst u14))
    (h : ∀ (u7 u12 u13 u14 : Value) w', I7_12_13_14_ u7 u12 u13 u14 w' → Q .normal (((((A10.put o7.dst u7).put o12.dst u12).put o13.dst u13).put o14.dst u14).put o15.dst (v15 u14)) w') :
    (Code.region id #[o0, o1, o2, o3, o4, o5, o6, o7, o8, o9, o10, o11, o12, o13, o14, o15] true).wp P Q a w := by
  subst p0 p1 p2 p3 p4 p5 p6 p8 p9 p10 p11
  obtain ⟨z_, z7_, z7_12_, z7_12_13_, z7_12_13_14_⟩ := hIS
  refine wp_region_noPanic ?_
  refine wp_region_held_drew (S := S) hm (z_ _ i0) (fun hH => ?_)
  show wpAnyH P .any #[o0, o1, o2, o3, o4, o5, o6, o7, o8, o9, o10, o11, o12, o13, o14, o15] (NoPanic Q) S 16 #[false, false, false, false, false, false, false, false, false, false, false, false, false, false, false, false] a w.drew
  refine wpAnyH_take (i := 0) (oi := o0) rfl hs f0 r0 (fun _ _ _ h => h) hy0 hH ?_
  refine wpAnyH_take (i := 1) (oi := o1) rfl hs f1 r1 (fun _ _ _ h => h) hy1 hH ?_
  refine wpAnyH_take (i := 2) (oi := o2) rfl hs f2 r2 (fun _ _ _ h => h) hy2 hH ?_
  refine wpAnyH_take (i := 3) (oi := o3) rfl hs f3 r3 (fun _ _ _ h => h) hy3 hH ?_
  refine wpAnyH_take (i := 4) (oi := o4) rfl hs f4 r4 (fun _ _ _ h => h) hy4 hH ?_
  refine wpAnyH_take (i := 5) (oi := o5) rfl hs f5 r5 (fun _ _ _ h => h) hy5 hH ?_
  refine wpAnyH_take (i := 6) (oi := o6) rfl hs f6 r6 (fun _ _ _ h => h) hy6 hH ?_
  refine wpAnyH_take (i := 8) (oi := o8) rfl hs f8 r8 (fun _ _ _ h => h) hy8 hH ?_
  refine wpAnyH_take (i := 9) (oi := o9) rfl hs f9 r9 (fun _ _ _ h => h) hy9 hH ?_
  refine wpAnyH_take (i := 10) (oi := o10) rfl hs f10 r10 (fun _ _ _ h => h) hy10 hH ?_
  refine wpAnyH_take (i := 11) (oi := o11) rfl hs f11 r11 (fun _ _ _ h => h) hy11 hH ?_
  generalize (((((((((((a.put o0.dst v0).put o1.dst v1).put o2.dst v2).put o3.dst v3).put o4.dst v4).put o5.dst v5).put o6.dst v6).put o8.dst v8).put o9.dst v9).put o10.dst v10).put o11.dst v11) = B at *
  have wa7 : ∀ y, Region.wanted o7 y = true := fun y => by unfold Region.wanted; rw [g7]
  have wa12 : ∀ y, Region.wanted o12 y = true := fun y => by unfold Region.wanted; rw [g12]
  have wa13 : ∀ y, Region.wanted o13 y = true := fun y => by unfold Region.wanted; rw [g13]
  have wa14 : ∀ y, Region.wanted o14 y = true := fun y => by unfold Region.wanted; rw [g14]
  have t7_12_13_14_ : ∀ (u7 u12 u13 u14 : Value) w', I7_12_13_14_ u7 u12 u13 u14 w' → wpAnyH P .any #[o0, o1, o2, o3, o4, o5, o6, o7, o8, o9, o10, o11, o12, o13, o14, o15] (NoPanic Q) S 0 #[true, true, true, true, true, true, true, true, true, true, true, true, true, true, true, true] (((((B.put o7.dst u7).put o12.dst u12).put o13.dst u13).put o14.dst u14).put o15.dst (v15 u14)) w' := by
    intro u7 u12 u13 u14 w0 i0
    exact ⟨q7_12_13_14_, NoPanic.normal (h u7 u12 u13 u14 w0 i0)⟩
  have t7_12_13_ : ∀ (u7 u12 u13 : Value) w', I7_12_13_ u7 u12 u13 w' → wpAnyH P .any #[o0, o1, o2, o3, o4, o5, o6, o7, o8, o9, o10, o11, o12, o13, o14, o15] (NoPanic Q) S 2 #[true, true, true, true, true, true, true, true, true, true, true, true, true, true, false, false] (((B.put o7.dst u7).put o12.dst u12).put o13.dst u13) w' := by
    intro u7 u12 u13 w0 i0
    refine wpAnyH_ready (rs := [14]) q7_12_13_ (by simp) (AllReadyH.cons (o := o14) rfl (fun K hK => ?_) AllReadyH.nil)
    · rw [if_pos (wa14 _)]
      refine s7_12_13_14 u7 u12 u13 w0 i0 K (fun u14 w1 i1 => hK.out _ _ (z7_12_13_14_ u7 u12 u13 u14 w1 i1) (fun _ => ?_))
      clear hK
      refine wpAnyH_take (i := 15) (oi := o15) rfl hs f7_12_13_14_15 r7_12_13_14_15 (fun _ _ _ h => h) (y7_12_13_14_15 u7 u12 u13 u14 w1 i1) (z7_12_13_14_ u7 u12 u13 u14 w1 i1) ?_
      exact t7_12_13_14_ u7 u12 u13 u14 w1 i1
  have t7_12_ : ∀ (u7 u12 : Value) w', I7_12_ u7 u12 w' → wpAnyH P .any #[o0, o1, o2, o3, o4, o5, o6, o7, o8, o9, o10, o11, o12, o13, o14, o15] (NoPanic Q) S 3 #[true, true, true, true, true, true, true, true, true, true, true, true, true, false, false, false] ((B.put o7.dst u7).put o12.dst u12) w' := by
    intro u7 u12 w0 i0
    refine wpAnyH_ready (rs := [13]) q7_12_ (by simp) (AllReadyH.cons (o := o13) rfl (fun K hK => ?_) AllReadyH.nil)
    · rw [if_pos (wa13 _)]
      refine s7_12_13 u7 u12 w0 i0 K (fun u13 w1 i1 => hK.out _ _ (z7_12_13_ u7 u12 u13 w1 i1) (fun _ => ?_))
      clear hK
      exact t7_12_13_ u7 u12 u13 w1 i1
  have t7_ : ∀ (u7 : Value) w', I7_ u7 w' → wpAnyH P .any #[o0, o1, o2, o3, o4, o5, o6, o7, o8, o9, o10, o11, o12, o13, o14, o15] (NoPanic Q) S 4 #[true, true, true, true, true, true, true, true, true, true, true, true, false, false, false, false] (B.put o7.dst u7) w' := by
    intro u7 w0 i0
    refine wpAnyH_ready (rs := [12]) q7_ (by simp) (AllReadyH.cons (o := o12) rfl (fun K hK => ?_) AllReadyH.nil)
    · rw [if_pos (wa12 _)]
      refine s7_12 u7 w0 i0 K (fun u12 w1 i1 => hK.out _ _ (z7_12_ u7 u12 w1 i1) (fun _ => ?_))
      clear hK
      exact t7_12_ u7 u12 w1 i1
  have t_ : ∀ w', I_  w' → wpAnyH P .any #[o0, o1, o2, o3, o4, o5, o6, o7, o8, o9, o10, o11, o12, o13, o14, o15] (NoPanic Q) S 5 #[true, true, true, true, true, true, true, false, true, true, true, true, false, false, false, false] B w' := by
    intro w0 i0
    refine wpAnyH_ready (rs := [7]) q_ (by simp) (AllReadyH.cons (o := o7) rfl (fun K hK => ?_) AllReadyH.nil)
    · rw [if_pos (wa7 _)]
      refine s_7  w0 i0 K (fun u7 w1 i1 => hK.out _ _ (z7_ u7 w1 i1) (fun _ => ?_))
      clear hK
      exact t7_ u7 w1 i1
  exact t_ w.drew i0

end
end Go.Proofs.YtfajlfcomhjnkaaDoor
namespace Go.Proofs.YtfajlfcomhjnkaaDoor
open Go.RowKit Go.BigFrame
set_option linter.unusedVariables false
set_option linter.unusedSimpArgs false

theorem owns_one {w : World} {base : Nat} {X : List Nat} (hx : X.length = 32) (hb : base ≤ w.heap.size) : (w.alloc (.cells (brow X) 36)).ownsRow base 36 32 (.slice (some ⟨w.heap.size, 0, none⟩) 1 1) [X].length (flatD [X]) := by
  refine ⟨by simp [flatD, hx], Or.inr ⟨w.heap.size, 1, brow X, rfl, hb, heap_alloc_new _ _, Nat.le_refl _, by unfold maxLen; omega, by rw [brow_size, hx], ?_⟩⟩
  simp [flatD, brow]
  exact List.take_of_length_le (by rw [List.length_map, hx]; exact Nat.le_refl _)

set_option maxRecDepth 100000 in
set_option maxHeartbeats 1000000 in
theorem sub_end (k : Nat) (hk : 1 ≤ k ∧ k ≤ 32) (lv : Value) (L : List (List Nat)) (q : Nat) (wh : Bool) (w : World) (hl : RdD w lv L) (hN : L.length ≤ 1000000) (hq : q = L.length) (c : Nat) :
    Calls Tryd.prog 48 #[.int .i64 (k : Int), lv, .int .i64 (q : Int), .bool wh] w fun e w' => ∃ u, e = .returned u ∧ OwD w w' u (sbD (k : Int) L c q wh) := by
  rw [sbD_end hq]
  have HDG := hide (log_dg (k : Int) (noT k) L (noT_dg k) (fun d hd => hl.dg hd))
  have HLG := hide (logR_any k hk L.length lv L w (Nat.le_refl _) (by omega) hl)
  obtain ⟨la, ll, lc, rfl, l1, -⟩ := hl
  rw [← hq] at l1
  subst l1
  cases wh with
  | true =>
    clear hq
    go_enter Tryd.func48, Tryd.ntmps48
    go_wp2_with fail
    go_ret
    exact ⟨_, rfl, OwD.nil _⟩
  | false =>
    generalize logT (k : Int) (noT k) L = X at HDG HLG ⊢
    have hxl := (unhide HDG).1
    clear hq
    go_enter Tryd.func48, Tryd.ntmps48
    go_wp2_with fail
    refine (unhide HLG).mono ?_
    rintro e w1 ⟨rfl, k1⟩
    have HK1 := hide k1
    clear k1
    unfold brow
    have HOW := hide (owns_one (base := w.heap.size) hxl (unhide HK1).size)
    go_wp2_with (first | (rw [zb32, one_digP X hxl]))
    go_ret
    exact ⟨_, rfl, ⟨unhide HOW, by intro d hd; simp at hd; subst hd; exact unhide HDG, (unhide HK1).alloc _⟩⟩

set_option maxRecDepth 100000 in
set_option maxHeartbeats 2000000 in
theorem sub_any (k : Nat) (hk : 1 ≤ k ∧ k ≤ 32) : ∀ (c : Nat) (lv : Value) (L : List (List Nat)) (q : Nat) (wh : Bool) (w : World), RdD w lv L → L.length ≤ 1000000 → 1 ≤ q → q ≤ L.length → L.length ≤ 2 ^ c → c ≤ 64 →
    Calls Tryd.prog 48 #[.int .i64 (k : Int), lv, .int .i64 (q : Int), .bool wh] w fun e w' => ∃ u, e = .returned u ∧ OwD w w' u (sbD (k : Int) L c q wh) := by
  intro c
  induction c with
  | zero =>
    intro lv L q wh w hl hN h1 h2 h3 _
    exact sub_end k hk lv L q wh w hl hN (by simp at h3; omega) 0
  | succ c ih =>
    intro lv L q wh w hl hN h1 h2 h3 hc64
    by_cases hq : q = L.length
    · exact sub_end k hk lv L q wh w hl hN hq (c + 1)
    · have hbl := belT_lt (n := L.length) (by omega)
      have hbh := belT_half (n := L.length) (c := c) (by omega) h3
      have HV := hide hl
      have hdm : ∀ d ∈ L, Dg d := fun d hd => hl.dg hd
      obtain ⟨ao, len, cap, rfl, e1, e2, e3, e4, e5⟩ := hl
      obtain ⟨b, o, rfl, _⟩ := e5 (by omega)
      have HBE := hide (fun W => below_any L.length W (by omega) (by omega))
      have HEL := hide (fun h => sbD_l (z := (k : Int)) (L := L) (c := c) (m := q) (wh := wh) h1 hq h3 h2 h)
      have HER := hide (fun h => sbD_r (z := (k : Int)) (L := L) (c := c) (m := q) (wh := wh) hq h2 h1 h)
      have HTK := hide (fun W (kk : Kept [] w W) => (RdD.upto (unhide HV) (belT L.length) (by omega)).old kk)
      have HDR := hide (fun W (kk : Kept [] w W) => (by have h9 := RdD.fromT (m := belT L.length) (off' := o + belT L.length * 32) (c' := cap - belT L.length) (unhide HV) (by omega) (by omega) (fun _ => rfl); exact h9.old kk : RdD W (.slice (some ⟨b, o + belT L.length * 32, none⟩) (len - belT L.length) (cap - belT L.length)) (L.drop (belT L.length))))
      have HIH := hide ih
      have HDT := hide (log_dg (k : Int) (noT k) (L.take (belT L.length)) (noT_dg k) (fun d hd => hdm d (List.mem_of_mem_take hd)))
      have HDD := hide (log_dg (k : Int) (noT k) (L.drop (belT L.length)) (noT_dg k) (fun d hd => hdm d (List.mem_of_mem_drop hd)))
      have HLT := hide (by rw [List.length_take]; omega : (L.take (belT L.length)).length = belT L.length)
      have HLD := hide (by rw [List.length_drop] : (L.drop (belT L.length)).length = L.length - belT L.length)
      generalize belT L.length = m at hbl hbh HBE HEL HER HTK HDR HDT HDD HLT HLD
      subst e1
      obtain ⟨n, hn⟩ : ∃ n, L.length = n := ⟨_, rfl⟩
      rw [hn] at hbl hbh HBE HDR HLD hq h2 h3 hN e2 ⊢
      have hwn : IntKind.u64.wrap (n : Int) = (n : Int) := by rw [wrM]; omega
      have hwm : IntKind.i64.wrap (m : Int) = (m : Int) := by simp [IntKind.wrap, IntKind.signed, IntKind.bits]; omega
      have q1 : ¬ (q : Int) = (n : Int) := by omega
      have q2 : ¬ (m : Int) < 0 := by omega
      have q3 : ¬ (cap : Int) < m := by omega
      have q4 : ¬ (n : Int) < m := by omega
      have q5 : ¬ cap = m := by omega
      have q6 : ¬ (cap : Int) = m := by omega
      have q7 : ¬ m = cap := by omega
      have hmb : m ≤ 1000000 := by omega
      have HB2 := hide hbh
      clear e4 e5 HV hdm ih h3 hbh hn
      by_cases hle : q ≤ m
      · have hle' : (q : Int) ≤ (m : Int) := by omega
        have HEQ := hide (unhide HEL hle)
        have HIS := hide (fun W (kk : Kept [] w W) => unhide HIH (.slice (some ⟨b, o, none⟩) m cap) (L.take m) q wh W (unhide HTK W kk) (by rw [unhide HLT]; omega) h1 (by rw [unhide HLT]; exact hle) (by rw [unhide HLT]; exact (unhide HB2).1) (by omega))
        have HLG := hide (fun W (kk : Kept [] w W) => logR_any k hk (L.drop m).length _ (L.drop m) W (Nat.le_refl _) (by rw [unhide HLD]; omega) (unhide HDR W kk))
        have HLN := hide (by have := sbD_len (k : Int) (L.take m) c q wh; omega : (sbD (k : Int) (L.take m) c q wh).length ≤ 66)
        have HDX := HDD
        generalize logT (k : Int) (noT k) (L.drop m) = X at HEQ HLG HDX
        generalize sbD (k : Int) (L.take m) c q wh = ds at HEQ HIS HLN
        have hxl := (unhide HDX).1
        clear HIH HEL HER HTK HDR HDT HDD HLT HLD HB2
        go_enter Tryd.func48, Tryd.ntmps48
        go_wp2_with (first | simp only [hwn])
        refine (unhide HBE _).mono ?_
        rintro e w1 ⟨rfl, hw1⟩
        rw [hw1]
        clear hw1 w1
        go_wp2_with (first | simp only [hwm])
        refine wp_sl15 (by kernel_rfl) (by kernel_rfl) (by kernel_rfl) (by kernel_rfl) (by kernel_rfl) (by kernel_rfl) (by kernel_rfl) (by kernel_rfl) (by kernel_rfl) (by kernel_rfl) (by kernel_rfl) (by kernel_rfl) (by kernel_rfl) (by kernel_rfl) (by kernel_rfl) (by kernel_rfl) (by kernel_rfl) (by kernel_rfl) (by kernel_rfl) (by kernel_rfl) (by kernel_rfl) (by kernel_rfl) (by kernel_rfl) (by kernel_rfl) (by kernel_rfl) (by kernel_rfl) (by kernel_rfl) (by kernel_rfl) (by kernel_rfl) rfl rfl rfl rfl
          (.int .i64 (k : Int)) (.slice (some ⟨b, o, none⟩) n cap) (.int .i64 (m : Int)) (.slice (some ⟨b, o, none⟩) m cap) (.int .i64 (q : Int)) (.bool wh) (.int .i64 (k : Int)) (.slice (some ⟨b, o, none⟩) n cap) (.int .i64 (m : Int)) (.slice (some ⟨b, o + m * 32, none⟩) (n - m) (cap - m)) _ _ _ _ _ _ _ _ _ _
          (fun w' => Kept [] w w')
          (fun w' => Kept [] w w')
          (fun u6 w' => (∃ aa cc, u6 = .slice aa ds.length cc) ∧ OwD w w' u6 ds)
          (fun u6 u11 w' => u11 = .agg (X.map Go.Proofs.YtfajlfcomhjnkaaDoor.u8).toArray ∧ (∃ aa cc, u6 = .slice aa ds.length cc) ∧ OwD w w' u6 ds)
          (fun u6 u11 u12 w' => u11 = .agg (X.map Go.Proofs.YtfajlfcomhjnkaaDoor.u8).toArray ∧ (∃ H, u12 = .slice (some ⟨H, 0, none⟩) 1 1 ∧ w'.heap[H]? = some (.cells (brow X) 36 (0, 0))) ∧ (∃ aa cc, u6 = .slice aa ds.length cc) ∧ OwD w w' u6 ds)
          (fun u6 u11 u12 u13 w' => (∃ aa cc, u13 = .slice aa (ds.length + 1) cc) ∧ OwD w w' u13 (ds ++ [X]))
          (fun u13 => u13)
          (by simp only [Act.put, List.setIfInBounds_toArray, List.set_cons_zero, List.set_cons_succ]; rfl) (by exact Or.inl ⟨by rfl, fun W' hW' => by go_simp⟩)
          (by simp only [Act.put, List.setIfInBounds_toArray, List.set_cons_zero, List.set_cons_succ]; rfl) (by exact Or.inl ⟨by rfl, fun W' hW' => by go_simp⟩)
          (by simp only [Act.put, List.setIfInBounds_toArray, List.set_cons_zero, List.set_cons_succ]; rfl) (by exact Or.inl ⟨by rfl, fun W' hW' => by go_simp⟩)
          (by simp only [Act.put, List.setIfInBounds_toArray, List.set_cons_zero, List.set_cons_succ]; rfl) (by exact Or.inl ⟨by rfl, fun W' hW' => by go_simp⟩)
          (by simp only [Act.put, List.setIfInBounds_toArray, List.set_cons_zero, List.set_cons_succ]; rfl) (by exact Or.inl ⟨by rfl, fun W' hW' => by go_simp⟩)
          (by simp only [Act.put, List.setIfInBounds_toArray, List.set_cons_zero, List.set_cons_succ]; rfl) (by exact Or.inl ⟨by rfl, fun W' hW' => by go_simp⟩)
          (by simp only [Act.put, List.setIfInBounds_toArray, List.set_cons_zero, List.set_cons_succ]; rfl) (by exact Or.inl ⟨by rfl, fun W' hW' => by go_simp⟩)
          (by simp only [Act.put, List.setIfInBounds_toArray, List.set_cons_zero, List.set_cons_succ]; rfl) (by exact Or.inl ⟨by rfl, fun W' hW' => by go_simp⟩)
          (by simp only [Act.put, List.setIfInBounds_toArray, List.set_cons_zero, List.set_cons_succ]; rfl) (by exact Or.inl ⟨by rfl, fun W' hW' => by go_simp⟩)
          (by simp only [Act.put, List.setIfInBounds_toArray, List.set_cons_zero, List.set_cons_succ]; rfl) (by exact Or.inl ⟨by rfl, fun W' hW' => by go_simp⟩)
          (Kept.refl [] w).drew
          ⟨fun w' h => h, fun u w' h => h.2.kept, fun u y w' h => h.2.2.kept, fun u y x w' h => h.2.2.2.kept, fun u y x q9 w' h => h.2.kept⟩
          (by intro w' i9 K hK; exact wp_callN rfl Tryd.call48 [(.int .i64 (k : Int)), (.slice (some ⟨b, o, none⟩) m cap), (.int .i64 (q : Int)), (.bool wh)] rfl (unhide HIS w' i9) (fun e w2 h => by obtain ⟨u, rfl, ho⟩ := h; obtain ⟨aa, cc, rfl⟩ := ho.form; exact ⟨_, rfl, hK _ _ ⟨⟨aa, cc, rfl⟩, ho.back i9⟩⟩))
          (by
            intro u6 w' hh K hK
            simp only [Act.put, List.setIfInBounds_toArray, List.set_cons_zero, List.set_cons_succ] at hK ⊢
            obtain ⟨⟨aa, cc, rfl⟩, ho⟩ := hh
            exact wp_callN rfl Tryd.call15 [(.int .i64 (k : Int)), (.slice (some ⟨b, o + m * 32, none⟩) (n - m) (cap - m))] rfl (unhide HLG w' ho.kept) (fun e w2 h => ⟨_, h.1, hK _ _ ⟨rfl, ⟨_, _, rfl⟩, ho.pass h.2⟩⟩))
          (by
            intro u6 u11 w' hh K hK
            simp only [Act.put, List.setIfInBounds_toArray, List.set_cons_zero, List.set_cons_succ] at hK ⊢
            obtain ⟨rfl, ⟨aa, cc, rfl⟩, ho⟩ := hh
            have hfs : ∀ A : Array Value, (List.foldl (fun cs x => cs.setIfInBounds x.snd x.fst) A (List.map u8 X).zipIdx).size = A.size := fun A => fold_size _ A 0
            unfold Oper.wp execOp
            go_simp
            rw [zb32, one_digP X hxl]
            exact hK _ _ ⟨rfl, ⟨_, rfl, heap_alloc_new _ _⟩, ⟨_, _, rfl⟩, ho.pass ((Kept.refl [] w').alloc _)⟩)
          (by
            intro u6 u11 u12 w' hh K hK
            simp only [Act.put, List.setIfInBounds_toArray, List.set_cons_zero, List.set_cons_succ] at hK ⊢
            obtain ⟨rfl, ⟨H, rfl, hH⟩, ⟨aa, cc, rfl⟩, ho⟩ := hh
            obtain ⟨ao1, cap1, w1, hrun, h2, h3⟩ := appendD w' w.heap.size (.slice aa ds.length cc) ds [X] (some ⟨H, 0, none⟩) 1 1 ho.own (RdD.oneP hH (unhide HDX)) (by have := unhide HLN; simp; omega) ho.kept.size
            exact wp_appendP rfl rfl rfl rfl hrun (hK _ _ ⟨⟨_, _, rfl⟩, ho.push (unhide HDX) h2 h3⟩))
          (by rintro u6 u11 u12 u13 w' ⟨⟨aa, cc, rfl⟩, _⟩; exact Or.inl ⟨by rfl, fun W' hW' => by go_simp⟩)
          ?_
        rintro u6 u11 u12 u13 X4 ⟨⟨aa, cc, rfl⟩, hO4⟩
        simp only [Act.put, List.setIfInBounds_toArray, List.set_cons_zero, List.set_cons_succ]
        have HO4 := hide hO4
        clear hO4
        go_wp2_with fail
        go_ret
        exact ⟨_, rfl, by rw [unhide HEQ]; exact unhide HO4⟩
      · have hle' : ¬ (q : Int) ≤ (m : Int) := by omega
        have HEQ := hide (unhide HER hle)
        have hqm : IntKind.i64.wrap ((q : Int) - (m : Int)) = ((q - m : Nat) : Int) := by simp [IntKind.wrap, IntKind.signed, IntKind.bits]; omega
        have HIS := hide (fun W (kk : Kept [] w W) => unhide HIH _ (L.drop m) (q - m) false W (unhide HDR W kk) (by rw [unhide HLD]; omega) (by omega) (by rw [unhide HLD]; omega) (by rw [unhide HLD]; exact (unhide HB2).2) (by omega))
        have HLG := hide (fun W (kk : Kept [] w W) => logR_any k hk (L.take m).length _ (L.take m) W (Nat.le_refl _) (by rw [unhide HLT]; omega) (unhide HTK W kk))
        have HLN := hide (by have := sbD_len (k : Int) (L.drop m) c (q - m) false; omega : (sbD (k : Int) (L.drop m) c (q - m) false).length ≤ 66)
        have HDX := HDT
        generalize logT (k : Int) (noT k) (L.take m) = X at HEQ HLG HDX
        generalize sbD (k : Int) (L.drop m) c (q - m) false = ds at HEQ HIS HLN
        obtain ⟨r, hr⟩ : ∃ r, q - m = r := ⟨_, rfl⟩
        rw [hr] at hqm HIS
        have hxl := (unhide HDX).1
        clear HIH HEL HER HTK HDR HDT HDD HLT HLD HB2 hr
        go_enter Tryd.func48, Tryd.ntmps48
        go_wp2_with (first | simp only [hwn])
        refine (unhide HBE _).mono ?_
        rintro e w1 ⟨rfl, hw1⟩
        rw [hw1]
        clear hw1 w1
        go_wp2_with (first | simp only [hwm])
        refine wp_sr16 (by kernel_rfl) (by kernel_rfl) (by kernel_rfl) (by kernel_rfl) (by kernel_rfl) (by kernel_rfl) (by kernel_rfl) (by kernel_rfl) (by kernel_rfl) (by kernel_rfl) (by kernel_rfl) (by kernel_rfl) (by kernel_rfl) (by kernel_rfl) (by kernel_rfl) (by kernel_rfl) (by kernel_rfl) (by kernel_rfl) (by kernel_rfl) (by kernel_rfl) (by kernel_rfl) (by kernel_rfl) (by kernel_rfl) (by kernel_rfl) (by kernel_rfl) (by kernel_rfl) (by kernel_rfl) (by kernel_rfl) (by kernel_rfl) (by kernel_rfl) (by kernel_rfl) rfl rfl rfl rfl
          (.int .i64 (k : Int)) (.slice (some ⟨b, o, none⟩) n cap) (.int .i64 (m : Int)) (.slice (some ⟨b, o + m * 32, none⟩) (n - m) (cap - m)) (.int .i64 (q : Int)) (.int .i64 (m : Int)) (.int .i64 (r : Int)) (.int .i64 (k : Int)) (.slice (some ⟨b, o, none⟩) n cap) (.int .i64 (m : Int)) (.slice (some ⟨b, o, none⟩) m cap) _ _ _ _ _ _ _ _ _ _ _
          (fun w' => Kept [] w w')
          (fun w' => Kept [] w w')
          (fun u6 w' => (∃ aa cc, u6 = .slice aa ds.length cc) ∧ OwD w w' u6 ds)
          (fun u6 u11 w' => u11 = .agg (X.map Go.Proofs.YtfajlfcomhjnkaaDoor.u8).toArray ∧ (∃ aa cc, u6 = .slice aa ds.length cc) ∧ OwD w w' u6 ds)
          (fun u6 u11 u12 w' => u11 = .agg (X.map Go.Proofs.YtfajlfcomhjnkaaDoor.u8).toArray ∧ (∃ H, u12 = .slice (some ⟨H, 0, none⟩) 1 1 ∧ w'.heap[H]? = some (.cells (brow X) 36 (0, 0))) ∧ (∃ aa cc, u6 = .slice aa ds.length cc) ∧ OwD w w' u6 ds)
          (fun u6 u11 u12 u13 w' => (∃ aa cc, u13 = .slice aa (ds.length + 1) cc) ∧ OwD w w' u13 (ds ++ [X]))
          (fun u13 => u13)
          (by simp only [Act.put, List.setIfInBounds_toArray, List.set_cons_zero, List.set_cons_succ]; rfl) (by exact Or.inl ⟨by rfl, fun W' hW' => by go_simp⟩)
          (by simp only [Act.put, List.setIfInBounds_toArray, List.set_cons_zero, List.set_cons_succ]; rfl) (by exact Or.inl ⟨by rfl, fun W' hW' => by go_simp⟩)
          (by simp only [Act.put, List.setIfInBounds_toArray, List.set_cons_zero, List.set_cons_succ]; rfl) (by exact Or.inl ⟨by rfl, fun W' hW' => by go_simp⟩)
          (by simp only [Act.put, List.setIfInBounds_toArray, List.set_cons_zero, List.set_cons_succ]; rfl) (by exact Or.inl ⟨by rfl, fun W' hW' => by go_simp⟩)
          (by simp only [Act.put, List.setIfInBounds_toArray, List.set_cons_zero, List.set_cons_succ]; rfl) (by exact Or.inl ⟨by rfl, fun W' hW' => by go_simp⟩)
          (by simp only [Act.put, List.setIfInBounds_toArray, List.set_cons_zero, List.set_cons_succ]; rfl) (by exact Or.inl ⟨by rfl, fun W' hW' => by go_simp⟩)
          (by simp only [Act.put, List.setIfInBounds_toArray, List.set_cons_zero, List.set_cons_succ]; rfl) (by exact Or.inl ⟨by rfl, fun W' hW' => by go_simp⟩)
          (by simp only [Act.put, List.setIfInBounds_toArray, List.set_cons_zero, List.set_cons_succ]; rfl) (by exact Or.inl ⟨by rfl, fun W' hW' => by go_simp⟩)
          (by simp only [Act.put, List.setIfInBounds_toArray, List.set_cons_zero, List.set_cons_succ]; rfl) (by exact Or.inl ⟨by rfl, fun W' hW' => by go_simp⟩)
          (by simp only [Act.put, List.setIfInBounds_toArray, List.set_cons_zero, List.set_cons_succ]; rfl) (by exact Or.inl ⟨by rfl, fun W' hW' => by go_simp⟩)
          (by simp only [Act.put, List.setIfInBounds_toArray, List.set_cons_zero, List.set_cons_succ]; rfl) (by exact Or.inl ⟨by rfl, fun W' hW' => by go_simp⟩)
          (Kept.refl [] w).drew
          ⟨fun w' h => h, fun u w' h => h.2.kept, fun u y w' h => h.2.2.kept, fun u y x w' h => h.2.2.2.kept, fun u y x q9 w' h => h.2.kept⟩
          (by intro w' i9 K hK; exact wp_callN rfl Tryd.call48 [(.int .i64 (k : Int)), (.slice (some ⟨b, o + m * 32, none⟩) (n - m) (cap - m)), (.int .i64 (r : Int)), (.bool false)] rfl (unhide HIS w' i9) (fun e w2 h => by obtain ⟨u, rfl, ho⟩ := h; obtain ⟨aa, cc, rfl⟩ := ho.form; exact ⟨_, rfl, hK _ _ ⟨⟨aa, cc, rfl⟩, ho.back i9⟩⟩))
          (by
            intro u6 w' hh K hK
            simp only [Act.put, List.setIfInBounds_toArray, List.set_cons_zero, List.set_cons_succ] at hK ⊢
            obtain ⟨⟨aa, cc, rfl⟩, ho⟩ := hh
            exact wp_callN rfl Tryd.call15 [(.int .i64 (k : Int)), (.slice (some ⟨b, o, none⟩) m cap)] rfl (unhide HLG w' ho.kept) (fun e w2 h => ⟨_, h.1, hK _ _ ⟨rfl, ⟨_, _, rfl⟩, ho.pass h.2⟩⟩))
          (by
            intro u6 u11 w' hh K hK
            simp only [Act.put, List.setIfInBounds_toArray, List.set_cons_zero, List.set_cons_succ] at hK ⊢
            obtain ⟨rfl, ⟨aa, cc, rfl⟩, ho⟩ := hh
            have hfs : ∀ A : Array Value, (List.foldl (fun cs x => cs.setIfInBounds x.snd x.fst) A (List.map u8 X).zipIdx).size = A.size := fun A => fold_size _ A 0
            unfold Oper.wp execOp
            go_simp
            rw [zb32, one_digP X hxl]
            exact hK _ _ ⟨rfl, ⟨_, rfl, heap_alloc_new _ _⟩, ⟨_, _, rfl⟩, ho.pass ((Kept.refl [] w').alloc _)⟩)
          (by
            intro u6 u11 u12 w' hh K hK
            simp only [Act.put, List.setIfInBounds_toArray, List.set_cons_zero, List.set_cons_succ] at hK ⊢
            obtain ⟨rfl, ⟨H, rfl, hH⟩, ⟨aa, cc, rfl⟩, ho⟩ := hh
            obtain ⟨ao1, cap1, w1, hrun, h2, h3⟩ := appendD w' w.heap.size (.slice aa ds.length cc) ds [X] (some ⟨H, 0, none⟩) 1 1 ho.own (RdD.oneP hH (unhide HDX)) (by have := unhide HLN; simp; omega) ho.kept.size
            exact wp_appendP rfl rfl rfl rfl hrun (hK _ _ ⟨⟨_, _, rfl⟩, ho.push (unhide HDX) h2 h3⟩))
          (by rintro u6 u11 u12 u13 w' ⟨⟨aa, cc, rfl⟩, _⟩; exact Or.inl ⟨by rfl, fun W' hW' => by go_simp⟩)
          ?_
        rintro u6 u11 u12 u13 X4 ⟨⟨aa, cc, rfl⟩, hO4⟩
        simp only [Act.put, List.setIfInBounds_toArray, List.set_cons_zero, List.set_cons_succ]
        have HO4 := hide hO4
        clear hO4
        go_wp2_with fail
        go_ret
        exact ⟨_, rfl, by rw [unhide HEQ]; exact unhide HO4⟩
end Go.Proofs.YtfajlfcomhjnkaaDoor
namespace Go.Proofs.YtfajlfcomhjnkaaDoor
open Go.RowKit Go.BigFrame
set_option linter.unusedVariables false
set_option linter.unusedSimpArgs false

set_option maxRecDepth 100000 in
set_option maxHeartbeats 1000000 in
theorem sinceR_any (k : Nat) (hk : 1 ≤ k ∧ k ≤ 32) (lv : Value) (L : List (List Nat)) (m : Nat) (w : World) (hl : RdD w lv L) (hN : L.length ≤ 1000000) (hm : m ≤ L.length) :
    Calls Tryd.prog 30 #[.int .i64 (k : Int), lv, .int .i64 (m : Int)] w fun e w' => ∃ u, e = .returned u ∧ OwD w w' u (if m = 0 then [] else sbD (k : Int) L 64 m true) := by
  by_cases h0 : m = 0
  · subst h0
    go_enter Tryd.func30, Tryd.ntmps30
    go_wp2_with fail
    go_ret
    exact ⟨_, rfl, OwD.nil _⟩
  · have h0' : ¬ (m : Int) = 0 := by omega
    rw [if_neg h0]
    have HS := hide (sub_any k hk 64 lv L m true w hl hN (by omega) hm (by omega) (Nat.le_refl _))
    generalize sbD (k : Int) L 64 m true = ds at HS ⊢
    clear hl
    go_enter Tryd.func30, Tryd.ntmps30
    go_wp2_with fail
    refine (unhide HS).mono ?_
    rintro e w1 ⟨u, rfl, o1⟩
    have HO := hide o1
    clear o1
    go_wp2_with fail
    go_ret
    exact ⟨_, rfl, unhide HO⟩

set_option maxRecDepth 100000 in
set_option maxHeartbeats 1000000 in
theorem docCons_any (k : Nat) (hk : 1 ≤ k ∧ k ≤ 32) (lv : Value) (L : List (List Nat)) (i n : Nat) (w : World) (hl : RdD w lv L) (hN : L.length ≤ 1000000) (hn64 : n < 18446744073709551616) :
    Calls Tryd.prog 12 #[.int .i64 (k : Int), lv, .int .u64 (i : Int), .int .u64 (n : Int)] w fun e w' => ∃ u, e = .returned (.tuple #[u, .int .i64 (csE L i n)]) ∧ OwD w w' u (csD (k : Int) L i n) := by
  have HL := hide hl
  obtain ⟨la, ll, lc, rfl, l1, l2, l3, -⟩ := id hl
  have hcv : IntKind.u64.wrap (ll : Int) = (ll : Int) := by rw [wrM]; omega
  by_cases h1 : n < i
  · have h1' : (n : Int) < (i : Int) := by omega
    have hE : csE L i n = 4 := by unfold csE; rw [if_pos (Or.inl h1)]
    have hD : csD (k : Int) L i n = [] := by unfold csD; rw [if_pos (Or.inl h1)]
    rw [hE, hD]
    clear hE hD hl l1
    go_enter Tryd.func12, Tryd.ntmps12
    go_wp2_with fail
    all_goals exact ⟨rfl, _, results_tmp2 rfl _ _ _, _, rfl, OwD.nil _⟩
  · have h1' : ¬ (n : Int) < (i : Int) := by omega
    by_cases h2 : ll < n
    · have h2' : (ll : Int) < (n : Int) := by omega
      have hE : csE L i n = 4 := by unfold csE; rw [if_pos (Or.inr (by omega))]
      have hD : csD (k : Int) L i n = [] := by unfold csD; rw [if_pos (Or.inr (by omega))]
      rw [hE, hD]
      clear hE hD hl l1
      go_enter Tryd.func12, Tryd.ntmps12
      go_wp2_with (simp only [hcv])
      all_goals exact ⟨rfl, _, results_tmp2 rfl _ _ _, _, rfl, OwD.nil _⟩
    · have h2' : ¬ (ll : Int) < (n : Int) := by omega
      have hE : csE L i n = 0 := by unfold csE; rw [if_neg (by omega)]
      have HP := hide (sinceR_any k hk (.slice la n lc) (L.take n) i w (hl.upto n (by omega)) (by rw [List.length_take]; omega) (by rw [List.length_take]; omega))
      rw [← csD_sub (L := L) (by omega) (by omega) hn64] at HP
      rw [hE]
      have hci : IntKind.i64.wrap (i : Int) = (i : Int) := by simp [IntKind.wrap, IntKind.signed, IntKind.bits]; omega
      have hnl : n ≤ ll := by omega
      have hnc : ¬ (lc : Int) < (n : Int) := by omega
      have hnc2 : n ≤ lc := by omega
      generalize csD (k : Int) L i n = ds at HP ⊢
      clear hE hl l1
      go_enter Tryd.func12, Tryd.ntmps12
      go_wp2_with (first | simp only [hcv] | simp only [hci])
      refine (unhide HP).mono ?_
      rintro e w1 ⟨u, rfl, o1⟩
      have HO := hide o1
      clear o1
      go_wp2_with fail
      exact ⟨rfl, _, results_tmp2 rfl _ _ _, u, rfl, unhide HO⟩
end Go.Proofs.YtfajlfcomhjnkaaDoor
namespace Go.Proofs.YtfajlfcomhjnkaaDoor
open Go.RowKit Go.BigFrame
set_option linter.unusedVariables false
set_option linter.unusedSimpArgs false

set_option maxRecDepth 100000 in
set_option maxHeartbeats 1000000 in
theorem mproofConsistencies_go (z : Int) (lv : Value) (ls : List (List Nat)) (i n : Nat) (w : World) (hz : -9223372036854775808 ≤ z ∧ z ≤ 9223372036854775807) (hl : RdD w lv ls) (hN : ls.length < 32768) (hn : n < 18446744073709551616) (hT : Tabs w) (h6 : Tab6 w) :
    Calls Tryd.prog 3 #[.int .i64 z, lv, .int .u64 (i : Int), .int .u64 (n : Int)] w fun e w' => e = .returned (.bool true) ∧ Kept [] w w' := by
  have HTB := hide hT
  have H6 := hide h6
  have HL := hide hl
  clear hT h6 hl
  go_enter Tryd.func3, Tryd.ntmps3
  go_wp2_with fail
  refine (mpawake_any w (unhide HTB) (unhide H6)).mono ?_
  rintro e w1 ⟨rfl, k1⟩
  have HK1 := hide k1
  clear k1
  go_wp2_with fail
  cases hwb : widthB z with
  | false =>
    refine (tree_bad z lv ls w1 hz hwb).mono ?_
    rintro e w2 ⟨h1, _⟩
    obtain ⟨rfl, k2⟩ := h1 hwb
    have HK2 := hide ((unhide HK1).trans k2 (by simp))
    clear k2 h1
    go_wp2_with fail
    go_ret
    exact ⟨rfl, unhide HK2⟩
  | true =>
    obtain ⟨hz1, hz2⟩ : 1 ≤ z ∧ z ≤ 32 := by simpa [widthB] using hwb
    obtain ⟨k, rfl⟩ : ∃ k : Nat, z = k := ⟨z.toNat, by omega⟩
    refine (tree_ok k lv ls w1 (by omega) (by omega) ((unhide HL).old (unhide HK1)) (by omega) ((unhide HTB).kept (unhide HK1) (by simp) (by simp)) ((unhide H6).kept (unhide HK1))).mono ?_
    rintro e w2 ⟨_, h2⟩
    obtain ⟨t, v, qs, u, rfl, tr, hlv, ow⟩ := h2 hwb
    rw [Int.toNat_natCast] at hlv ow
    have HT2 := hide tr
    have HO2 := hide (ow.back (unhide HK1))
    have HLV := hide hlv
    have HB := hide (by rw [hlv, List.length_map]; exact hN : (leavesK qs).length < 32768)
    have HLN := hide (by rw [List.length_map]; omega : (ls.map (cutL k)).length ≤ 1000000)
    generalize ls.map (cutL k) = L at HO2 HLV HLN
    clear h2 tr hlv ow
    obtain ⟨ua, uc, rfl⟩ := (unhide HO2).form
    go_wp2_with fail
    refine (mcons_any (k : Int) t v qs i n w2 (unhide HT2) (unhide HB) ((unhide HTB).kept (unhide HO2).kept (by simp) (by simp)) ((unhide H6).kept (unhide HO2).kept) hn).mono ?_
    rintro e w3 ⟨p, rfl, o3⟩
    rw [unhide HLV] at o3 ⊢
    have HP3 := hide o3
    have HO3 := hide ((unhide HO2).pass o3.kept)
    clear o3 HO2
    obtain ⟨pa, pc, rfl⟩ := (unhide HP3).form
    generalize hD : csD (k : Int) L i n = D at HP3
    generalize hE : csE L i n = E
    have HDI := hide (docCons_any k (by omega) _ L i n w3 (unhide HO3).rd (unhide HLN) hn)
    rw [hD, hE] at HDI
    clear hD hE
    go_wp2_with fail
    refine (unhide HDI).mono ?_
    rintro e w4 ⟨q, rfl, o4⟩
    have HQ4 := hide o4
    have HP4 := hide ((unhide HP3).pass o4.kept)
    have HK4 := hide ((unhide HO3).kept.trans o4.kept (by simp))
    clear o4 HP3 HO3 HDI
    go_wp2_with fail
    refine (samep_any _ q D w4 (unhide HP4).rd (unhide HQ4).rd).mono ?_
    rintro e w5 ⟨rfl, k5⟩
    have HK5 := hide ((unhide HK4).trans k5 (by simp))
    clear k5
    go_wp2_with fail
    go_ret
    exact ⟨rfl, unhide HK5⟩

theorem mproofConsistencies_walk (z : Int) (lv : Value) (ls : List (List Nat)) (i n : Nat) (w : World) (hz : -9223372036854775808 ≤ z ∧ z ≤ 9223372036854775807) (hl : RdD w lv ls) (hN : ls.length < 32768) (hi : i < 18446744073709551616) (hn : n < 18446744073709551616) (h : Tabs w ∧ Tab6 w) :
    Calls Tryd.prog 3 #[.int .i64 z, lv, .int .u64 (i : Int), .int .u64 (n : Int)] w fun e w' => e = .returned (.bool true) ∧ Below w.heap.size w w' :=
  (mproofConsistencies_go z lv ls i n w hz hl hN hn h.1 h.2).mono fun e w' h9 => ⟨h9.1, h9.2.below (Nat.le_refl _) (by simp)⟩
end Go.Proofs.YtfajlfcomhjnkaaDoor
namespace Go.Proofs.YtfajlfcomhjnkaaDoor
open Go.ChangeShapes Go.WideShapes Go.ChangeAt Go.RowKit Go.Deep
set_option linter.unusedVariables false
set_option linter.unusedSimpArgs false

theorem own : ownKnob Tryd.prog.godebug = none := by kernel_rfl
theorem laidOut : laidOutB Tryd.prog = true := by kernel_rfl
theorem byte_of_wf {x : Int} (h : (Lit.int .u8 x).wf = true) : 0 ≤ x ∧ x < 256 := by
  simp [Lit.wf, IntKind.min, IntKind.max, IntKind.signed, IntKind.bits] at h
  exact ⟨by omega, by omega⟩
theorem int_of_wf {x : Int} (h : (Lit.int .i64 x).wf = true) : -9223372036854775808 ≤ x ∧ x ≤ 9223372036854775807 := by
  simp [Lit.wf, IntKind.min, IntKind.max, IntKind.signed, IntKind.bits] at h
  exact ⟨by omega, by omega⟩

theorem bulk_one {H : Type} (d : DataW H) : 1 ≤ Rows.uptoBulk d := by
  cases d with
  | lit l => cases l <;> simp [Rows.uptoBulk]
  | nil => simp [Rows.uptoBulk]
  | ptr d => simp [Rows.uptoBulk]
  | slice elems spare => simp [Rows.uptoBulk]
  | agg parts => simp [Rows.uptoBulk]
  | iface t d => simp [Rows.uptoBulk]
  | map entries => simp [Rows.uptoBulk]
  | held h => simp [Rows.uptoBulk]
theorem bulk_len {H : Type} (l : List (DataW H)) : l.length ≤ Rows.uptoBulkAll l := by
  induction l with
  | nil => simp [Rows.uptoBulkAll]
  | cons x r ih => have := bulk_one x; simp only [Rows.uptoBulkAll, List.length_cons]; omega
theorem Tryd.bytes5 : Tryd.prog.bytesOf 5 = 1 := by kernel_rfl

section
variable {H : Type} {enc : TypeId × Value → H} {W : World}

/-- Bytes that came in, as the walks want them, of whatever length. -/
theorem open_bytes {fuel : Nat} {cs : List Value} {x : DataW H × List MemPlace} (h : DataW.trod enc Tryd.prog W 0 (fun _ => true) true fuel 66 cs = some x) :
    ∃ v bs, cs = [v] ∧ (bs.length ≤ 140737488355328 → Rd W v bs) ∧ ((bs = [] ∧ x.1 = .nil) ∨ ∃ elems spare, x.1 = .slice elems spare ∧ elems.length = bs.length) := by
  rcases open_ints Tryd.underlying66 Tryd.underlying5 (by kernel_rfl) h with ⟨rfl, rfl⟩ | ⟨a, len, cap, zs, rfl, _, hl, hm, hz, rfl, hcell, hwz⟩
  · exact ⟨_, [], rfl, fun _ => Rd.nil W, .inl ⟨rfl, rfl⟩⟩
  · have h2 : (lits (H := H) .u8 (zs.take len)).length = len := by simp only [lits, List.length_map, List.length_take]; simp at hz; omega
    have hbl : ((zs.take len).map Int.toNat).length = len := by simp at hz; simp; omega
    refine ⟨_, (zs.take len).map Int.toNat, rfl, fun hB => ⟨_, _, _, rfl, hbl, hl, ⟨by unfold maxLen at hm; omega, by omega⟩, by simp, ?_, ?_⟩, .inr ⟨_, _, rfl, by rw [h2, hbl]⟩⟩
    · intro y hy
      obtain ⟨z, hz1, rfl⟩ := List.mem_map.1 hy
      have := byte_of_wf (hwz z (List.mem_of_mem_take hz1)); omega
    · intro hp
      simp at hz
      have hc0 := hcell 0 (by omega)
      obtain ⟨b, off, spot⟩ := a
      have hspot : spot = none := by simpa [Addr.add] using World.cell?_spot hc0
      subst hspot
      refine ⟨b, off, rfl, fun i hi => ?_⟩
      have hc := hcell i (by omega)
      have hzi : i < zs.length := by omega
      rw [Addr.add_mid] at hc
      rw [hc]
      have hw := byte_of_wf (hwz (zs[i]) (List.getElem_mem hzi))
      simp only [List.getD_eq_getElem?_getD, List.getElem?_eq_getElem hzi, Option.getD_some, List.getElem?_map, List.getElem?_take, hi, if_true, Option.map_some]
      simp [u8]; omega
/-- Their length, by the reach. -/
theorem reach_bytes {ts : List TypeId} {ds : List (DataW H)} (h : (DataW.weightsEach Tryd.prog ts ds).all (· ≤ reachBytes) = true) {j : Nat} (ht : ts[j]? = some 66) {d : DataW H} (hd : ds[j]? = some d) {bs : List Nat}
    (hx : (bs = [] ∧ d = .nil) ∨ ∃ elems spare, d = .slice elems spare ∧ elems.length = bs.length) : bs.length ≤ 140737488351232 := by
  rcases hx with ⟨rfl, _⟩ | ⟨elems, spare, rfl, he⟩
  · simp
  · have := sized_slice h ht hd Tryd.underlying66
    rw [Tryd.bytes5, Nat.mul_one] at this
    unfold reachBytes at this
    omega
/-- Their length, by the bulk. -/
theorem bulk_bytes {d : DataW H} {bs : List Nat} (hx : (bs = [] ∧ d = .nil) ∨ ∃ elems spare, d = .slice elems spare ∧ elems.length = bs.length) : bs.length + 1 ≤ Rows.uptoBulk d := by
  rcases hx with ⟨rfl, rfl⟩ | ⟨elems, spare, rfl, he⟩
  · simp [Rows.uptoBulk]
  · have := bulk_len elems
    simp only [Rows.uptoBulk]; omega
end
end Go.Proofs.YtfajlfcomhjnkaaDoor
namespace Go.Proofs.YtfajlfcomhjnkaaDoor
open Go Go.RowKit
set_option linter.unusedVariables false
set_option linter.unusedSimpArgs false
section
variable {H : Type} {enc : TypeId × Value → H} {W : World}

def natOf : Value → Nat
  | .int _ n => n.toNat
  | _ => 0
/-- A digest that came in. -/
theorem open_dig {fuel : Nat} {cs : List Value} {x : DataW H × List MemPlace} (h : DataW.trod enc Tryd.prog W 0 (fun _ => true) true fuel 36 cs = some x) :
    ∃ l : List Nat, cs = l.map u8 ∧ l.length = 32 ∧ ∀ y ∈ l, y < 256 := by
  obtain ⟨xs, m, _, rfl, hl, hn, hc⟩ := DataW.trod_array Tryd.underlying36 h
  rw [show Tryd.prog.cellsOf 36 = 32 from by kernel_rfl] at hl
  rw [show Tryd.prog.cellsOf 5 = 1 from by kernel_rfl] at hc
  have key : ∀ i (hi : i < cs.length), cs[i] = u8 (natOf cs[i]) ∧ natOf cs[i] < 256 := by
    intro i hi
    have h1 := hc i (by omega)
    rw [Nat.mul_one, List.getElem?_eq_getElem (by omega)] at h1
    obtain ⟨n, e, _, hw⟩ := DataW.trod_int Tryd.underlying5 h1
    rw [List.drop_eq_getElem_cons hi, List.take_succ_cons, List.take_zero] at e
    simp only [List.cons.injEq, and_true] at e
    have := byte_of_wf hw
    rw [e]
    refine ⟨?_, ?_⟩
    · simp [u8, natOf]; omega
    · simp [natOf]; omega
  refine ⟨cs.map natOf, ?_, by simp [hl], ?_⟩
  · rw [List.map_map]
    refine List.ext_getElem (by simp) fun i h1 h2 => ?_
    rw [List.getElem_map]
    exact (key i h1).1
  · intro y hy
    obtain ⟨v, hv, rfl⟩ := List.mem_map.1 hy
    obtain ⟨i, hi, rfl⟩ := List.getElem_of_mem hv
    exact (key i hi).2
set_option maxRecDepth 100000 in
theorem open_digv {b0 : Nat} {v : Value} {d : DataW H} {ps : List MemPlace} (hv : Value.okWide Tryd.prog W .any b0 36 v) (h : DataW.Trod enc Tryd.prog W 0 (fun _ => true) true 36 v d ps) :
    ∃ l : List Nat, v = .agg (brow l) ∧ l.length = 32 ∧ ∀ y ∈ l, y < 256 := by
  unfold Value.okWide at hv
  rw [Tryd.underlying36] at hv
  obtain ⟨cs, rfl, _, _⟩ := hv
  obtain ⟨fuel, hf⟩ := h
  obtain ⟨l, e, h1, h2⟩ := open_dig hf
  refine ⟨l, ?_, h1, h2⟩
  simp only [Value.cells] at e
  unfold brow
  rw [← e]
end
end Go.Proofs.YtfajlfcomhjnkaaDoor
namespace Go.Proofs.YtfajlfcomhjnkaaDoor
open Go.RowKit
set_option linter.unusedVariables false
set_option linter.unusedSimpArgs false

/-- The slice value v reads as these numbers of 64 bits. -/
def RdQ (w : World) (v : Value) (xs : List Nat) : Prop :=
  ∃ (ao : Option Addr) (len cap : Nat), v = .slice ao len cap ∧ xs.length = len ∧ len ≤ cap ∧ cap ≤ 9223372036854775807 ∧ (∀ x ∈ xs, x < 18446744073709551616) ∧
    (0 < len → ∃ b off, ao = some ⟨b, off, none⟩ ∧ ∀ i, i < len → w.cell? ⟨b, off + i, none⟩ = some (.int .u64 ((xs.getD i 0 : Nat) : Int)))
theorem RdQ.old {w0 w : World} {v : Value} {ws : List Nat} (h : RdQ w0 v ws) (k : Kept [] w0 w) : RdQ w v ws := by
  obtain ⟨ao, len, cap, rfl, h1, h2, h3, h5, h6⟩ := h
  refine ⟨ao, len, cap, rfl, h1, h2, h3, h5, fun hp => ?_⟩
  obtain ⟨b, off, rfl, hc⟩ := h6 hp
  exact ⟨b, off, rfl, fun i hi => k.cell (hc i hi) (by simp)⟩
end Go.Proofs.YtfajlfcomhjnkaaDoor
namespace Go.Proofs.YtfajlfcomhjnkaaDoor
open Go.ChangeShapes Go.WideShapes Go.ChangeAt Go.RowKit Go.Deep
set_option linter.unusedVariables false
set_option linter.unusedSimpArgs false
section
variable {H : Type} {enc : TypeId × Value → H} {W : World}

/-- Digests that came in. -/
theorem open_digs2 {fuel : Nat} {cs : List Value} {x : DataW H × List MemPlace} (h : DataW.trod enc Tryd.prog W 0 (fun _ => true) true fuel 22 cs = some x) (hB : Rows.uptoBulk x.1 ≤ 1048576) :
    ∃ v ds, cs = [v] ∧ RdD W v ds ∧ ds.length ≤ 1048576 := by
  rcases open_slice Tryd.underlying22 h with ⟨rfl, rfl⟩ | ⟨a, len, cap, m, n, D, Pl, rfl, _, hl, hm, hmm, rfl, hx⟩
  · exact ⟨_, [], rfl, ⟨none, 0, 0, rfl, rfl, Nat.le_refl _, by omega, fun d hd => by simp at hd, fun h => by omega⟩, by simp⟩
  · have hC : Tryd.prog.cellsOf 36 = 32 := by kernel_rfl
    rw [hC] at hx
    simp only [if_true] at hmm
    simp only [Rows.uptoBulk] at hB
    have hcap : cap ≤ 1048576 := by
      have h1 := bulk_len ((List.range len).map D)
      have h2 := bulk_len ((List.range (m - len)).map fun j => D (len + j))
      simp at h1 h2
      omega
    obtain ⟨f, hf⟩ := choose_lt (α := List Nat) (n := len) (p := fun i o => (∀ j v, (o.map u8)[j]? = some v → W.cell? ((a.add (i * 32)).add j) = some v) ∧ o.length = 32 ∧ ∀ y ∈ o, y < 256) (by
      intro i hi
      obtain ⟨cs', h1, h2⟩ := hx i (by omega)
      obtain ⟨l, rfl, hl1, hl2⟩ := open_dig h2
      obtain ⟨_, hlen, hc⟩ := World.cells?_some h1
      refine ⟨l, fun j v hv => ?_, hl1, hl2⟩
      have hj := (List.getElem?_eq_some_iff.1 hv).1
      have := hc j (by rw [List.length_map] at hj; omega)
      rw [this, ← hv, List.getElem?_eq_getElem hj])
    refine ⟨_, (List.range len).map f, rfl, ⟨some a, len, cap, rfl, by simp, hl, by omega, ?_, ?_⟩, by simp; omega⟩
    · intro d hd
      obtain ⟨i, hi, rfl⟩ := List.mem_map.1 hd
      exact (hf i (List.mem_range.1 hi)).2
    · intro hp
      obtain ⟨b, off, spot⟩ := a
      have h0 := hf 0 hp
      have hc0 := h0.1 0 (u8 ((f 0).getD 0 0)) (by rw [List.getElem?_map, List.getD_eq_getElem?_getD, List.getElem?_eq_getElem (by omega)]; rfl)
      have hspot : spot = none := by simpa [Addr.add] using World.cell?_spot hc0
      subst hspot
      refine ⟨b, off, rfl, fun i hi j v hv => ?_⟩
      have e9 : ((List.range len).map f).getD i [] = f i := by simp [List.getD_eq_getElem?_getD, hi]
      rw [e9] at hv
      have := (hf i hi).1 j v hv
      rw [Addr.add_mid, Addr.add_mid] at this
      exact this

end
end Go.Proofs.YtfajlfcomhjnkaaDoor
namespace Go.Proofs.YtfajlfcomhjnkaaDoor
open Go.ChangeShapes Go.WideShapes Go.ChangeAt Go.RowKit Go.Deep
set_option linter.unusedVariables false
set_option linter.unusedSimpArgs false
theorem bulk_mul {H : Type} (c : Nat) (l : List (DataW H)) (h : ∀ y ∈ l, c ≤ Rows.uptoBulk y) : c * l.length ≤ Rows.uptoBulkAll l := by
  induction l with
  | nil => simp [Rows.uptoBulkAll]
  | cons x r ih =>
    have h1 := h x (by simp)
    have h2 := ih (fun y hy => h y (by simp [hy]))
    simp only [Rows.uptoBulkAll, List.length_cons, Nat.mul_add, Nat.mul_one]
    omega
section
variable {H : Type} {enc : TypeId × Value → H} {W : World}
theorem dig_bulk {fuel : Nat} {cs : List Value} {x : DataW H × List MemPlace} (h : DataW.trod enc Tryd.prog W 0 (fun _ => true) true fuel 36 cs = some x) : 33 ≤ Rows.uptoBulk x.1 := by
  obtain ⟨xs, m, _, rfl, hl, hn, hc⟩ := DataW.trod_array Tryd.underlying36 h
  have h9 := bulk_len (xs.map (fun x => x.fst))
  rw [List.length_map] at h9
  simp only [Rows.uptoBulk]
  omega
/-- Digests that came in: how many there may be. -/
theorem open_digs3 {fuel : Nat} {cs : List Value} {x : DataW H × List MemPlace} (h : DataW.trod enc Tryd.prog W 0 (fun _ => true) true fuel 22 cs = some x) (hB : Rows.uptoBulk x.1 ≤ 1048576) :
    ∃ v ds, cs = [v] ∧ RdD W v ds ∧ 33 * ds.length + 1 ≤ Rows.uptoBulk x.1 := by
  obtain ⟨v, ds, e, hr, _⟩ := open_digs2 h hB
  refine ⟨v, ds, e, hr, ?_⟩
  rcases open_slice Tryd.underlying22 h with ⟨rfl, rfl⟩ | ⟨a, len, cap, m, n, D, Pl, rfl, _, hl, hm, hmm, rfl, hx⟩
  · simp at e
    subst e
    obtain ⟨_, _, _, e2, h1, _⟩ := hr
    cases e2
    rw [h1]
    simp [Rows.uptoBulk]
  · simp at e
    subst e
    obtain ⟨_, _, _, e2, h1, _⟩ := hr
    cases e2
    rw [h1]
    simp only [Rows.uptoBulk]
    have h2 := bulk_mul 33 ((List.range len).map D) (by
      intro y hy
      obtain ⟨i, hi, rfl⟩ := List.mem_map.1 hy
      obtain ⟨cs', _, h3⟩ := hx i (by have := List.mem_range.1 hi; simp only [if_true] at hmm; omega)
      exact dig_bulk h3)
    simp at h2
    omega
end
end Go.Proofs.YtfajlfcomhjnkaaDoor
