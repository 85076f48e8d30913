import Derived.Test.YtfajlfcomhjnkaaDoorTopD
import Derived.Test.YtfajlfcomhjnkaaDoorTopB
import Derived.Test.YtfajlfcomhjnkaaDoorTopC
import Derived.Test.YtfajlfcomhjnkaaDoorRowz
import Derived.Deep.RegionHeld3
import Derived.Test.YtfajlfcomhjnkaaDoorBase
import Derived.Test.YtfajlfcomhjnkaaDoorCards
import Derived.Test.YtfajlfcomhjnkaaDoorTie
import Derived.ProofKit
import Derived.OpenShut
import Derived.Deep.Slices
import Derived.SizedLaws
import Derived.Test.YtfajlfcomhjnkaaDoorDForm
namespace Go.Proofs.YtfajlfcomhjnkaaDoor
open Go.RowKit Go.BigFrame
set_option linter.unusedVariables false
set_option linter.unusedSimpArgs false

set_option maxRecDepth 100000 in
set_option maxHeartbeats 1000000 in
/-- Lists that read alike are alike. -/
theorem samep_any (va vb : Value) (ds : List (List Nat)) (w : World) (ha : RdD w va ds) (hb : RdD w vb ds) :
    Calls Tryd.prog 13 #[va, vb] w fun e w' => e = .returned (.bool true) ∧ Kept [] w w' := by
  have HA := hide ha
  have HB := hide hb
  obtain ⟨aa, an, ac, rfl, a1, a2, a3, a4, a5⟩ := ha
  obtain ⟨ba, bn, bc, rfl, b1, b2, b3, b4, b5⟩ := hb
  subst a1
  subst b1
  clear a4 a5 b4 b5
  go_enter Tryd.func13, Tryd.ntmps13
  go_wp2_with fail
  go_loopw [5] (fun t5 wr => ∃ (i : Nat), i ≤ ds.length ∧ t5 = .int .i64 (i : Int) ∧ Hid (Kept [] w wr)) (fun t _ => ds.length - (intOf t).toNat)
  case atStart => exact ⟨0, Nat.zero_le _, rfl, hide (Kept.refl _ _)⟩
  case round =>
    obtain ⟨i, hi, rfl, HK⟩ := hrel
    by_cases hlt : i < ds.length
    · have hlt' : (i : Int) < (ds.length : Int) := by omega
      obtain ⟨b, o, rfl, hc⟩ := ((unhide HA).old (unhide HK)).range (by omega)
      obtain ⟨b', o', rfl, hc'⟩ := ((unhide HB).old (unhide HK)).range (by omega)
      have r1 := hc i hlt
      have r2 := hc' i hlt
      have hdg := (unhide HA).dg (d := ds.getD i []) (by rw [List.getD_eq_getElem?_getD, List.getElem?_eq_getElem hlt]; exact List.getElem_mem hlt)
      generalize ds.getD i [] = d at r1 r2 hdg
      have hdl := hdg.1
      have hq := fun W => dig_eq W d d hdl hdl
      rw [decide_eq_true rfl] at hq
      have ia : ¬ (i : Int) < 0 := by omega
      have ib : ¬ (ds.length : Int) ≤ i := by omega
      clear hc hc' hdg
      have hne : ∀ p : Prop, (∀ w', Kept [] wr w' → p) = p := fun p => propext ⟨fun h => h wr (Kept.refl [] wr), fun h _ _ => h⟩
      go_wp2_with fail
      refine wp_region_keep (by kernel_rfl) (by kernel_rfl) ?_
      iterate 3 (go_big_quiet_step (fail))
      refine wpQuiet_mid rfl 36 _ rfl b (o + i * 32) rfl (d.map u8) _ (fun w' hw' => range_kept r1 hw' (by simp)) Tryd.underlying36 rfl (by rw [List.length_map, hdl]; exact Tryd.size_dig) ?_
      simp only [Act.put, List.setIfInBounds_toArray, List.set_cons_succ, List.set_cons_zero]
      iterate 3 (go_big_quiet_step (fail))
      refine wpQuiet_mid rfl 36 _ rfl b' (o' + i * 32) rfl (d.map u8) _ (fun w' hw' => range_kept r2 hw' (by simp)) Tryd.underlying36 rfl (by rw [List.length_map, hdl]; exact Tryd.size_dig) ?_
      simp only [Act.put, List.setIfInBounds_toArray, List.set_cons_succ, List.set_cons_zero]
      refine wpQuiet_val rfl (.bool false) (fun w' _ => run_neq 36 _ _ _ rfl (d.map u8).toArray (d.map u8).toArray rfl rfl w' true (by kernel_rfl) (hq w')) ?_
      simp only [Act.put, List.setIfInBounds_toArray, List.set_cons_succ, List.set_cons_zero]
      refine wpQuiet_nil ?_
      intro w6 hw6
      have HK6 := hide ((unhide HK).trans hw6 (by simp))
      clear hw6 hne hq r1 r2
      go_wp2_with fail
      refine ⟨⟨i + 1, by omega, by simp, HK6⟩, ?_⟩
      simp [intOf]
      omega
    · have hlt' : ¬ (i : Int) < (ds.length : Int) := by omega
      go_wp2_with fail
      go_ret
      exact ⟨rfl, unhide HK⟩

theorem run_mid {P : Program} {op : Oper} {a : Act} (ty : TypeId) (x : Operand) (ho : op.op = .load ty x) (b off : Nat) (hx : a.eval x = .pointer (some ⟨b, off, none⟩)) (cs : List Value) (d : TypeDesc) (w : World) (hg : w.rangeAt b off cs)
    (hu : P.underlying ty = some d) (hd : d.isRow = true) (hi : (P.info? ty).map (·.size) = some cs.length) : (execOp a.eval op).run P w = .ok (.value (.agg cs.toArray)) w := by
  unfold execOp
  simp only [ho]
  have := run_loadVar_mid (P := P) w b off ty cs d hg hu hd hi
  simp only [hx, Instr.loadAt, Instr.sureAddr, Sem.run_bind, Sem.run_pure, Result.andThen_ok, this]

theorem wp_appendP {P : Program} {o : Oper} {a : Act} {w : World} {K : Act → World → Prop} {Q : Exit → Act → World → Prop} {s x : Operand} {t : TypeId} (ho : o.op = .call { callee := .builtin .append, args := #[s, x], argTypes := #[t, t] }) (hty : o.type = t) {v u r : Value} {w1 : World} (hs : a.eval s = v) (hx : a.eval x = u)
    (hrun : (Builtin.append_ #[t, t] t #[v, u]).run P w = .ok r w1) (hK : K (a.put o.dst r) w1) : o.wp P a w K Q := by
  unfold Oper.wp execOp
  simp only [ho, hty, resolve, invoke, builtin, Sem.run_bind, Sem.run_pure, Result.andThen_ok, List.map_toArray, List.map_cons, List.map_nil, hs, hx, hrun]
  exact hK

theorem upL_dg (z : Int) : ∀ (ls : List (List Nat)), (∀ d ∈ ls, Dg d) → ∀ d ∈ upL z ls, Dg d
  | [], _, d, hd => by simp [upL] at hd
  | [a], h, d, hd => h d (by simpa [upL] using hd)
  | a :: b :: r, h, d, hd => by
    rw [upL, List.mem_cons] at hd
    rcases hd with rfl | hd
    · exact nodS_dg z _ _
    · exact upL_dg z r (fun x hx => h x (by simp [hx])) d hd

set_option maxRecDepth 100000 in
set_option maxHeartbeats 1000000 in
theorem up_any (k : Nat) (hk : 1 ≤ k ∧ k ≤ 32) (lv : Value) (ls : List (List Nat)) (w : World) (hl : RdD w lv ls) (hN : ls.length ≤ 1000000) :
    Calls Tryd.prog 59 #[.int .i64 (k : Int), lv] w fun e w' => ∃ u, e = .returned u ∧ OwD w w' u (upL (k : Int) ls) := by
  have HL := hide hl
  have HDG := hide (fun d hd => hl.dg (d := d) hd)
  have HUL := hide (upL_len (k : Int) ls)
  obtain ⟨la, ll, lc, rfl, l1, l2, l3, l4, l5⟩ := hl
  subst l1
  have HC5 := hide (fun h => l5 h)
  clear l4 l5
  go_enter Tryd.func59, Tryd.ntmps59
  go_wp2_with fail
  go_loopw [5, 6] (fun t5 t6 wr => ∃ (j : Nat), 2 * j ≤ ls.length + 1 ∧ t6 = .int .i64 ((2 * j : Nat) : Int) ∧ Hid (OwD w wr t5 ((upL (k : Int) ls).take j))) (fun _ t _ => ls.length + 1 - (intOf t).toNat)
  case atStart => exact ⟨0, by omega, rfl, hide (OwD.nil _)⟩
  case round =>
    obtain ⟨j, hj, rfl, HO⟩ := hrel
    by_cases hlt : 2 * j < ls.length
    · obtain ⟨b, o, hla, hc⟩ := unhide HC5 (by omega)
      subst hla
      have HAT := hide (upL_at (k : Int) ls j)
      have r0 := hc (2 * j) hlt
      have hbw : b < w.heap.size := by
        have hd0 := (unhide HDG (ls.getD (2 * j) []) (by rw [List.getD_eq_getElem?_getD, List.getElem?_eq_getElem hlt]; exact List.getElem_mem hlt)).1
        cases hx : ls.getD (2 * j) [] with
        | nil => rw [hx] at hd0; simp at hd0
        | cons y r => rw [hx] at r0; exact block_lt_of_cell (r0 0 _ rfl)
      have HLN := hide (by rw [List.length_take]; omega : ((upL (k : Int) ls).take j).length ≤ j)
      have hdg0 := unhide HDG (ls.getD (2 * j) []) (by rw [List.getD_eq_getElem?_getD, List.getElem?_eq_getElem hlt]; exact List.getElem_mem hlt)
      obtain ⟨i, hij⟩ : ∃ i, 2 * j = i := ⟨_, rfl⟩
      rw [hij] at hlt r0 hdg0 HAT
      have HIJ := hide hij
      have hlt' : (i : Int) < (ls.length : Int) := by omega
      have ia : ¬ (i : Int) < 0 := by omega
      have ib : ¬ (ls.length : Int) ≤ i := by omega
      have hi1 : IntKind.i64.wrap ((i : Int) + 1) = (i : Int) + 1 := by simp [IntKind.wrap, IntKind.signed, IntKind.bits]; omega
      have hi2 : IntKind.i64.wrap ((i : Int) + 2) = (i : Int) + 2 := by simp [IntKind.wrap, IntKind.signed, IntKind.bits]; omega
      rw [hij]
      clear hij
      have r0 := range_kept r0 (unhide HO).kept (by simp)
      by_cases hbr : i + 1 < ls.length
      · have hbr' : (i : Int) + 1 < (ls.length : Int) := by omega
        have hdg1 := unhide HDG (ls.getD (i + 1) []) (by rw [List.getD_eq_getElem?_getD, List.getElem?_eq_getElem hbr]; exact List.getElem_mem hbr)
        have r1 := range_kept (hc (i + 1) hbr) (unhide HO).kept (by simp)
        rw [if_pos hbr] at HAT
        generalize ls.getD i [] = d0 at r0 hdg0 HAT
        generalize ls.getD (i + 1) [] = d1 at r1 hdg1 HAT
        have HSN := hide (by rw [List.take_add_one, unhide HAT]; rfl : (upL (k : Int) ls).take (j + 1) = (upL (k : Int) ls).take j ++ [nodS (k : Int) d0 d1])
        have ic : ¬ (i : Int) + 1 < 0 := by omega
        have id' : ¬ (ls.length : Int) ≤ (i : Int) + 1 := by omega
        have HND := hide (fun W => refNode_any k d0 d1 W hk hdg0 hdg1)
        have HDX := hide (nodS_dg (k : Int) d0 d1)
        generalize nodS (k : Int) d0 d1 = X at HND HDX HSN
        generalize (upL (k : Int) ls).take j = ds at HO HSN HLN
        obtain ⟨ua, ucap, rfl⟩ := owns_form (unhide HO).own
        have hxl := (unhide HDX).1
        have h0l := hdg0.1
        have h1l := hdg1.1
        have HR0 := hide r0
        have HR1 := hide r1
        have hnb : b ∉ (Value.slice ua ds.length ucap).ownBlock.toList := by
          intro hm
          have := ((unhide HO).own.lt b (by simpa using hm)).1
          omega
        clear hc r0 r1 HAT
        go_wp2_with fail
        refine wp_mu15 (by kernel_rfl) (by kernel_rfl) (by kernel_rfl) (by kernel_rfl) (by kernel_rfl) (by kernel_rfl) (by kernel_rfl) (by kernel_rfl) (by kernel_rfl) (by kernel_rfl) (by kernel_rfl) (by kernel_rfl) (by kernel_rfl) (by kernel_rfl) (by kernel_rfl) (by kernel_rfl) (by kernel_rfl) (by kernel_rfl) (by kernel_rfl) (by kernel_rfl) (by kernel_rfl) (by kernel_rfl) (by kernel_rfl) (by kernel_rfl) (by kernel_rfl) (by kernel_rfl) (by kernel_rfl) (by kernel_rfl) (by kernel_rfl) (by kernel_rfl) rfl rfl rfl
          (.slice ua ds.length ucap) (.int .i64 (k : Int)) (.slice (some ⟨b, o, none⟩) ls.length lc) (.int .i64 (i : Int)) (.pointer (some ⟨b, o + i * 32, none⟩)) (.agg (d0.map Go.Proofs.YtfajlfcomhjnkaaDoor.u8).toArray) (.slice (some ⟨b, o, none⟩) ls.length lc) (.int .i64 (i : Int)) (.int .i64 ((i : Int) + 1)) (.pointer (some ⟨b, o + (i + 1) * 32, none⟩)) (.agg (d1.map Go.Proofs.YtfajlfcomhjnkaaDoor.u8).toArray) _ _ _ _ _ _ _ _ _ _ _
          (fun w' => Kept (Value.slice ua ds.length ucap).ownBlock.toList wr w')
          (fun w' => Kept [] wr w')
          (fun u11 w' => u11 = .agg (X.map Go.Proofs.YtfajlfcomhjnkaaDoor.u8).toArray ∧ Kept [] wr w')
          (fun u11 u12 w' => u11 = .agg (X.map Go.Proofs.YtfajlfcomhjnkaaDoor.u8).toArray ∧ (∃ H, u12 = .slice (some ⟨H, 0, none⟩) 1 1 ∧ w'.heap[H]? = some (.cells (brow X) 36 (0, 0))) ∧ Kept [] wr w')
          (fun u11 u12 u13 w' => (∃ aa cc, u13 = .slice aa (ds.length + 1) cc) ∧ OwD w w' u13 (ds ++ [X]) ∧ Kept (Value.slice ua ds.length ucap).ownBlock.toList wr w')
          (fun u13 => u13)
          (by simp only [Act.put, List.setIfInBounds_toArray, List.set_cons_zero, List.set_cons_succ]; rfl) (by exact Or.inl ⟨by rfl, fun W' hW' => by go_simp⟩)
          (by simp only [Act.put, List.setIfInBounds_toArray, List.set_cons_zero, List.set_cons_succ]; rfl) (by exact Or.inl ⟨by rfl, fun W' hW' => by go_simp⟩)
          (by simp only [Act.put, List.setIfInBounds_toArray, List.set_cons_zero, List.set_cons_succ]; rfl) (by exact Or.inl ⟨by rfl, fun W' hW' => by go_simp⟩)
          (by simp only [Act.put, List.setIfInBounds_toArray, List.set_cons_zero, List.set_cons_succ]; rfl) (by exact Or.inl ⟨by rfl, fun W' hW' => by go_simp⟩)
          (by simp only [Act.put, List.setIfInBounds_toArray, List.set_cons_zero, List.set_cons_succ]; rfl) (by exact Or.inl ⟨by rfl, fun W' hW' => by go_simp⟩)
          (by simp only [Act.put, List.setIfInBounds_toArray, List.set_cons_zero, List.set_cons_succ]; rfl) (by exact Or.inl ⟨by rfl, fun W' hW' => run_mid 36 (.tmp 22) rfl b (o + i * 32) rfl (d0.map Go.Proofs.YtfajlfcomhjnkaaDoor.u8) _ W' (range_kept (unhide HR0) hW' hnb) Tryd.underlying36 rfl (by rw [List.length_map, h0l]; exact Tryd.size_dig)⟩)
          (by simp only [Act.put, List.setIfInBounds_toArray, List.set_cons_zero, List.set_cons_succ]; rfl) (by exact Or.inl ⟨by rfl, fun W' hW' => by go_simp⟩)
          (by simp only [Act.put, List.setIfInBounds_toArray, List.set_cons_zero, List.set_cons_succ]; rfl) (by exact Or.inl ⟨by rfl, fun W' hW' => by go_simp⟩)
          (by simp only [Act.put, List.setIfInBounds_toArray, List.set_cons_zero, List.set_cons_succ]; rfl) (by exact Or.inl ⟨by rfl, fun W' hW' => by go_simp⟩)
          (by simp only [Act.put, List.setIfInBounds_toArray, List.set_cons_zero, List.set_cons_succ]; rfl) (by exact Or.inl ⟨by rfl, fun W' hW' => by go_simp⟩)
          (by simp only [Act.put, List.setIfInBounds_toArray, List.set_cons_zero, List.set_cons_succ]; rfl) (by exact Or.inl ⟨by rfl, fun W' hW' => run_mid 36 (.tmp 27) rfl b (o + (i + 1) * 32) rfl (d1.map Go.Proofs.YtfajlfcomhjnkaaDoor.u8) _ W' (range_kept (unhide HR1) hW' hnb) Tryd.underlying36 rfl (by rw [List.length_map, h1l]; exact Tryd.size_dig)⟩)
          (Kept.refl [] wr).drew
          ⟨fun w' h => h.mono (by simp), fun u w' h => h.2.mono (by simp), fun u y w' h => h.2.2.mono (by simp), fun u y x w' h => h.2.2⟩
          (by intro w' i9 K hK; exact wp_callN rfl Tryd.call24 [.int .i64 (k : Int), .agg (brow d0), .agg (brow d1)] rfl (unhide HND w') (fun e w2 h => ⟨_, h.1, hK _ _ ⟨rfl, i9.trans h.2 (by simp)⟩⟩))
          (by
            intro u11 w' hh K hK
            simp only [Act.put, List.setIfInBounds_toArray, List.set_cons_zero, List.set_cons_succ] at hK ⊢
            obtain ⟨rfl, i9⟩ := hh
            have hfs : ∀ A : Array Value, (List.foldl (fun cs x => cs.setIfInBounds x.snd x.fst) A (List.map Go.Proofs.YtfajlfcomhjnkaaDoor.u8 X).zipIdx).size = A.size := fun A => fold_size _ A 0
            unfold Oper.wp execOp
            go_simp
            rw [zb32, one_digP X hxl]
            exact hK _ _ ⟨rfl, ⟨_, rfl, heap_alloc_new _ _⟩, i9.alloc _⟩)
          (by
            intro u11 u12 w' hh K hK
            simp only [Act.put, List.setIfInBounds_toArray, List.set_cons_zero, List.set_cons_succ] at hK ⊢
            obtain ⟨rfl, ⟨H, rfl, hH⟩, i9⟩ := hh
            have hO := (unhide HO).pass i9
            obtain ⟨ao1, cap1, w1, hrun, h2, h3⟩ := appendD w' w.heap.size (.slice ua ds.length ucap) ds [X] (some ⟨H, 0, none⟩) 1 1 hO.own (RdD.oneP hH (unhide HDX)) (by have := unhide HLN; simp; omega) hO.kept.size
            exact wp_appendP rfl rfl rfl rfl hrun (hK _ _ ⟨⟨_, _, rfl⟩, hO.push (unhide HDX) h2 h3, (i9.mono (by simp)).grown h3 (by intro k hk; left; simp [hk])⟩))
          (by rintro u11 u12 u13 w' ⟨⟨aa, cc, rfl⟩, _⟩; exact Or.inl ⟨by rfl, fun W' hW' => by go_simp⟩)
          ?_
        rintro u11 u12 u13 X4 ⟨⟨aa, cc, rfl⟩, hO4, k4⟩
        simp only [Act.put, List.setIfInBounds_toArray, List.set_cons_zero, List.set_cons_succ]
        have HO4 := hide hO4
        clear hO4 k4
        go_wp2_with (first | simp only [hi2])
        refine ⟨⟨j + 1, by have := unhide HIJ; omega, by have := unhide HIJ; simp; omega, by rw [unhide HSN]; exact HO4⟩, ?_⟩
        simp [intOf]
        omega
      · have hbr' : ¬ (i : Int) + 1 < (ls.length : Int) := by omega
        rw [if_neg hbr, if_pos hlt] at HAT
        generalize ls.getD i [] = X at r0 hdg0 HAT
        have HSN := hide (by rw [List.take_add_one, unhide HAT]; rfl : (upL (k : Int) ls).take (j + 1) = (upL (k : Int) ls).take j ++ [X])
        generalize (upL (k : Int) ls).take j = ds at HO HSN HLN
        obtain ⟨ua, ucap, rfl⟩ := owns_form (unhide HO).own
        have HDX := hide hdg0
        have hxl := hdg0.1
        have HR0 := hide r0
        have HOC := hide ((unhide HO).pass ((Kept.refl [] wr).alloc (.cells (brow X) 36)))
        have HNC := hide (heap_alloc_new wr (.cells (brow X) 36))
        clear hc r0 HAT hdg0
        go_wp2_with (first
          | simp only [hi2]
          | (refine wpList_load_mid rfl 36 _ rfl b (o + i * 32) rfl (X.map Go.Proofs.YtfajlfcomhjnkaaDoor.u8) _ (unhide HR0) Tryd.underlying36 rfl (by rw [List.length_map, hxl]; exact Tryd.size_dig) ?_)
          | (at_builtin; rw [zb32, one_digP X hxl]; refine wpList_appendD rfl _ _ rfl rfl (wr.alloc (.cells (brow X) 36)) w.heap.size (.slice ua ds.length ucap) ds [X] (some ⟨wr.heap.size, 0, none⟩) 1 1 (unhide HOC).own (RdD.oneP (unhide HNC) (unhide HDX)) (by have := unhide HLN; simp; omega) (unhide HOC).kept.size rfl rfl ?_; intro ao3 cap3 w3 HO3 HG3; have HO4 := hide ((unhide HOC).push (unhide HDX) (unhide HO3) (unhide HG3)); clear HO3 HG3))
        refine ⟨⟨j + 1, by have := unhide HIJ; omega, by have := unhide HIJ; simp; omega, by rw [unhide HSN]; exact HO4⟩, ?_⟩
        simp [intOf]
        omega
    · have hlt' : ¬ ((2 * j : Nat) : Int) < (ls.length : Int) := by omega
      have HE := hide (by rw [List.take_of_length_le (by rw [unhide HUL]; omega)] : (upL (k : Int) ls).take j = upL (k : Int) ls)
      rw [unhide HE] at HO
      go_wp2_with fail
      go_ret
      exact ⟨_, rfl, unhide HO⟩
end Go.Proofs.YtfajlfcomhjnkaaDoor
namespace Go.Proofs.YtfajlfcomhjnkaaDoor
open Go.RowKit Go.BigFrame
set_option linter.unusedVariables false
set_option linter.unusedSimpArgs false

def lenV : Value → Nat
  | .slice _ n _ => n
  | _ => 0
theorem RdD.keptP {L : List Nat} {w w' : World} {v : Value} {ds : List (List Nat)} (h : RdD w v ds) (k : Kept L w w') (hn : ∀ b ∈ blk v, b ∉ L) : RdD w' v ds := by
  obtain ⟨ao, len, cap, rfl, h1, h2, h3, h4, h5⟩ := h
  refine ⟨ao, len, cap, rfl, h1, h2, h3, h4, fun hp => ?_⟩
  obtain ⟨b, o, rfl, hc⟩ := h5 hp
  exact ⟨b, o, rfl, fun i hi => range_kept (hc i hi) k (hn b (by simp [blk]))⟩
theorem OwD.bk {w0 w : World} {v : Value} {ds : List (List Nat)} (h : OwD w0 w v ds) : ∀ b ∈ blk v, w0.heap.size ≤ b := by
  intro b hb
  rcases h.own.2 with ⟨rfl, _⟩ | ⟨g, cap, cur, rfl, hg, _⟩
  · simp [blk] at hb
  · simp [blk] at hb; omega
theorem lvN_le (N h : Nat) : lvN N h ≤ N := by
  rcases Nat.lt_or_ge N (lvN N h) with h1 | h1
  · have h2 := lt_lvN.1 h1
    have h3 : 1 ≤ 2 ^ h := Nat.one_le_two_pow
    have := Nat.le_mul_of_pos_right N (show 0 < 2 ^ h by omega)
    omega
  · exact h1
/-- The digests of an inclusion proof up to a height. -/
def ptD (z : Int) (L : List (List Nat)) (i h : Nat) : List (List Nat) := (levs L.length i h).map fun s => rngD z (noT z) L s.1 s.2
theorem ptD_some {z : Int} {L : List (List Nat)} {i h : Nat} (hb : broN i h * 2 ^ h < L.length) : ptD z L i (h + 1) = ptD z L i h ++ [(lvl z (noT z) L h).getD (broN i h) []] := by
  unfold ptD
  rw [levs_succ, List.map_append, lvl_getD hb]
  unfold broS
  rw [if_pos hb]
  rfl
theorem ptD_none {z : Int} {L : List (List Nat)} {i h : Nat} (hb : ¬ broN i h * 2 ^ h < L.length) : ptD z L i (h + 1) = ptD z L i h := by
  unfold ptD
  rw [levs_succ]
  unfold broS
  rw [if_neg hb]
  simp
theorem ptD_len (z : Int) (L : List (List Nat)) (i h : Nat) : (ptD z L i h).length ≤ h := by
  unfold ptD levs
  rw [List.length_map]
  refine Nat.le_trans (List.length_filterMap_le _ _) ?_
  simp
theorem ptD_end {z : Int} {L : List (List Nat)} {i h : Nat} (hi : i < L.length) (hN : L.length ≤ 2 ^ h) (hh : h ≤ 64) : ptD z L i h = ptD z L i 64 := by
  unfold ptD
  have := levs_stop hi hN (64 - h)
  rw [show h + (64 - h) = 64 by omega] at this
  rw [this]

set_option maxRecDepth 100000 in
set_option maxHeartbeats 1000000 in
theorem refPath_any (k : Nat) (hk : 1 ≤ k ∧ k ≤ 32) (lv : Value) (L : List (List Nat)) (i : Nat) (w : World) (hl : RdD w lv L) (hi : i < L.length) (hN : L.length ≤ 1000000) :
    Calls Tryd.prog 39 #[.int .i64 (k : Int), lv, .int .i64 (i : Int)] w fun e w' => ∃ u, e = .returned u ∧ OwD w w' u (ptD (k : Int) L i 64) := by
  have HL := hide hl
  have hlz : lvl (k : Int) (noT (k : Int)) L 0 = L := lvl_zero _ _ _
  have HLZ := hide hlz
  go_enter Tryd.func39, Tryd.ntmps39
  obtain ⟨la, ll, lc, rfl, -⟩ := hl
  clear hlz
  go_wp2_with fail
  go_loopw [2, 7, 8] (fun t2 t7 t8 wr => ∃ (h : Nat), h ≤ 60 ∧ t2 = .int .i64 ((i / 2 ^ h : Nat) : Int) ∧ Hid (OwD w wr t7 (ptD (k : Int) L i h)) ∧ Hid (RdD wr t8 (lvl (k : Int) (noT (k : Int)) L h)) ∧ Hid (∀ b ∈ blk t8, t7.ownBlock ≠ some b)) (fun _ _ t _ => lenV t)
  case atStart => exact ⟨0, by omega, by simp, hide (by unfold ptD levs; exact OwD.nil _), hide (by rw [unhide HLZ]; exact unhide HL), hide (by intro b _; simp [Value.ownBlock])⟩
  case round =>
    obtain ⟨h, hh, rfl, HO, HR, HNE⟩ := hrel
    have hll := lvl_len (k : Int) (noT (k : Int)) L h
    have HLU := hide (lvl_up (k : Int) (noT (k : Int)) L h)
    have HLV1 := hide (lvN_up L.length h)
    have HBS := hide (fun hb => ptD_some (z := (k : Int)) (L := L) (i := i) (h := h) hb)
    have HBN := hide (fun hb => ptD_none (z := (k : Int)) (L := L) (i := i) (h := h) hb)
    have HPL := hide (ptD_len (k : Int) L i h)
    have HPE := hide (fun hN => ptD_end (z := (k : Int)) (L := L) (i := i) (h := h) hi hN (by omega))
    have HLT := hide (fun b => lt_lvN (N := L.length) (h := h) (b := b))
    have HQ2 := hide (by rw [Nat.pow_succ, ← Nat.div_div_eq_div_mul] : i / 2 ^ (h + 1) = i / 2 ^ h / 2)
    have hqi : i / 2 ^ h ≤ 1000000 := Nat.le_trans (Nat.div_le_self _ _) (by omega)
    have HBRN := hide (by unfold broN; rfl : broN i h = if i / 2 ^ h % 2 = 0 then i / 2 ^ h + 1 else i / 2 ^ h - 1)
    obtain ⟨va, vn, vc, rfl, v1, v2, v3, -⟩ := id (unhide HR)
    have hvn : vn = lvN L.length h := by rw [← hll, v1]
    have HVN := hide hvn
    have HUP := hide (fun W (hr : RdD W (.slice va vn vc) (lvl (k : Int) (noT (k : Int)) L h)) => up_any k hk (.slice va vn vc) _ W hr (by rw [v1, hvn]; exact Nat.le_trans (lvN_le _ _) hN))
    rw [unhide HLU] at HUP
    have HLL := hide (lvl_len (k : Int) (noT (k : Int)) L (h + 1))
    have HDGL := hide (fun d hd => (unhide HR).dg (d := d) hd)
    have hvb : vn ≤ 1000000 := by rw [hvn]; exact Nat.le_trans (lvN_le _ _) hN
    have HH := hide (fun (hv : 1 < vn) => (by
      rcases Nat.lt_or_ge h 20 with h9 | h9
      · exact h9
      · have h8 := lt_lvN.1 (by rw [← hvn]; exact hv : 1 < lvN L.length h)
        have : 2 ^ 20 ≤ 2 ^ h := Nat.pow_le_pow_right (by omega) h9
        omega : h < 20))
    have HV1 := hide v1
    clear v1 hvn hll
    obtain ⟨q, hq⟩ : ∃ q, i / 2 ^ h = q := ⟨_, rfl⟩
    rw [hq] at HQ2 hqi HBRN
    have HQH := hide (by rw [unhide HQ2]; omega : ((i / 2 ^ (h + 1) : Nat) : Int) = (q : Int) / 2)
    rw [hq]
    clear hq
    by_cases hg : 1 < vn
    · have hg' : (1 : Int) < (vn : Int) := by omega
      have hh1 : h + 1 ≤ 60 := by have := unhide HH hg; omega
      obtain ⟨bn, hbn⟩ : ∃ bn, broN i h = bn := ⟨_, rfl⟩
      have hbn2 : bn = if q % 2 = 0 then q + 1 else q - 1 := by rw [← hbn]; exact unhide HBRN
      rw [hbn] at HBS HBN
      have HVN2 := unhide HVN
      have HLTB := hide ((unhide HLT bn))
      rw [← HVN2] at HLTB
      generalize lvl (k : Int) (noT (k : Int)) L h = lev at HR HUP HDGL HV1 HBS
      generalize hlev2 : lvl (k : Int) (noT (k : Int)) L (h + 1) = lev2 at HUP HLL
      have HLEV2 := hide hlev2
      clear hlev2 hbn HBRN HLU HPE HLT
      have HME := hide (by rw [unhide HLL, unhide HLV1, ← HVN2]; omega : lev2.length < vn)
      clear HVN2
      rcases (by omega : q % 2 = 0 ∨ q % 2 = 1) with hpar | hpar
      · have hz : (q : Int) % 2 = 0 := by omega
        have hz2 : (q : Int).tmod 2 = 0 := by rw [Int.tmod_eq_emod_of_nonneg (by omega)]; exact hz
        rw [if_pos hpar] at hbn2
        subst hbn2
        by_cases hbl : q + 1 < vn
        · have hbl' : (q : Int) + 1 < (vn : Int) := by omega
          have ic : ¬ (q : Int) + 1 < 0 := by omega
          have id' : ¬ (vn : Int) ≤ (q : Int) + 1 := by omega
          have hlv : q + 1 < lev.length := by rw [unhide HV1]; exact hbl
          obtain ⟨b, o, rfl, hc⟩ := (unhide HR).range (by omega)
          have HC := hide (hc (q + 1) hlv)
          have HDX := hide (unhide HDGL (lev.getD (q + 1) []) (by rw [List.getD_eq_getElem?_getD, List.getElem?_eq_getElem hlv]; exact List.getElem_mem hlv))
          have HSN := hide (unhide HBS ((unhide HLTB).1 hbl))
          generalize lev.getD (q + 1) [] = X at HC HDX HSN
          generalize ptD (k : Int) L i h = ds at HO HSN HPL
          obtain ⟨ua, ucap, rfl⟩ := owns_form (unhide HO).own
          have hxl := (unhide HDX).1
          have HOC := hide ((unhide HO).pass ((Kept.refl [] wr).alloc (.cells (brow X) 36)))
          have HNC := hide (heap_alloc_new wr (.cells (brow X) 36))
          have HRC := hide ((unhide HR).old ((Kept.refl [] wr).alloc (.cells (brow X) 36)))
          clear hc HBS HBN HLTB HDGL HR
          go_wp2_with (first
            | (refine wpList_load_mid rfl 36 _ rfl b (o + (q + 1) * 32) rfl (X.map Go.Proofs.YtfajlfcomhjnkaaDoor.u8) _ (unhide HC) Tryd.underlying36 rfl (by rw [List.length_map, hxl]; exact Tryd.size_dig) ?_)
            | (at_builtin; rw [zb32, one_digP X hxl]; refine wpList_appendD rfl _ _ rfl rfl (wr.alloc (.cells (brow X) 36)) w.heap.size (.slice ua ds.length ucap) ds [X] (some ⟨wr.heap.size, 0, none⟩) 1 1 (unhide HOC).own (RdD.oneP (unhide HNC) (unhide HDX)) (by have := unhide HPL; simp; omega) (unhide HOC).kept.size rfl rfl ?_; intro ao3 cap3 w3 HO3 HG3; have HO4 := hide ((unhide HOC).push (unhide HDX) (unhide HO3) (unhide HG3)); have HR3 := hide ((unhide HRC).keptP ((Kept.refl (Value.slice ua ds.length ucap).ownBlock.toList _).grown (unhide HG3) (by intro k hk; left; simp [hk])) (by intro b9 hb9 hm; exact unhide HNE b9 hb9 (by simpa using hm))); clear HO3 HG3))
          refine (unhide HUP w3 (unhide HR3)).mono ?_
          rintro e w4 ⟨u, rfl, o4⟩
          obtain ⟨u4, c4, rfl⟩ := o4.form
          have HO5 := hide ((unhide HO4).pass o4.kept)
          have HR5 := hide o4.rd
          have HN5 := hide (by intro b9 hb9 e9; have h1 := o4.bk b9 hb9; have h2 := ((unhide HO4).own.lt b9 e9).2; omega : ∀ b ∈ blk (.slice u4 lev2.length c4), (Value.slice ao3 (ds.length + [X].length) cap3).ownBlock ≠ some b)
          clear o4 HO4 HR3 HUP
          go_wp2_with fail
          go_roundw
          case rel => exact ⟨h + 1, hh1, by rw [unhide HQH], by rw [unhide HSN]; exact HO5, by rw [unhide HLEV2]; exact HR5, HN5⟩
          case measure => simp only [lenV]; exact unhide HME
        · have hbl' : ¬ (q : Int) + 1 < (vn : Int) := by omega
          have HSN := hide (unhide HBN (fun hx => hbl ((unhide HLTB).2 hx)))
          clear HBS HBN HLTB HDGL
          go_wp2_with fail
          refine (unhide HUP wr (unhide HR)).mono ?_
          rintro e w4 ⟨u, rfl, o4⟩
          obtain ⟨u4, c4, rfl⟩ := o4.form
          have HO5 := hide ((unhide HO).pass o4.kept)
          have HR5 := hide o4.rd
          have HN5 := hide (by intro b9 hb9 e9; have h1 := o4.bk b9 hb9; have h2 := ((unhide HO).own.lt b9 e9).2; omega : ∀ b ∈ blk (.slice u4 lev2.length c4), u7.ownBlock ≠ some b)
          clear o4 HO HUP
          go_wp2_with fail
          go_roundw
          case rel => exact ⟨h + 1, hh1, by rw [unhide HQH], by rw [unhide HSN]; exact HO5, by rw [unhide HLEV2]; exact HR5, HN5⟩
          case measure => simp only [lenV]; exact unhide HME
      · have hz : (q : Int) % 2 = 1 := by omega
        have hz2 : (q : Int).tmod 2 = 1 := by rw [Int.tmod_eq_emod_of_nonneg (by omega)]; exact hz
        rw [if_neg (by omega)] at hbn2
        subst hbn2
        by_cases hbl : q - 1 < vn
        · have hbl' : (q : Int) - 1 < (vn : Int) := by omega
          have ic : ¬ (q : Int) - 1 < 0 := by omega
          have id' : ¬ (vn : Int) ≤ (q : Int) - 1 := by omega
          have hlv : q - 1 < lev.length := by rw [unhide HV1]; exact hbl
          obtain ⟨b, o, rfl, hc⟩ := (unhide HR).range (by omega)
          have HC := hide (hc (q - 1) hlv)
          have HDX := hide (unhide HDGL (lev.getD (q - 1) []) (by rw [List.getD_eq_getElem?_getD, List.getElem?_eq_getElem hlv]; exact List.getElem_mem hlv))
          have HSN := hide (unhide HBS ((unhide HLTB).1 hbl))
          generalize lev.getD (q - 1) [] = X at HC HDX HSN
          generalize ptD (k : Int) L i h = ds at HO HSN HPL
          obtain ⟨ua, ucap, rfl⟩ := owns_form (unhide HO).own
          have hxl := (unhide HDX).1
          have HOC := hide ((unhide HO).pass ((Kept.refl [] wr).alloc (.cells (brow X) 36)))
          have HNC := hide (heap_alloc_new wr (.cells (brow X) 36))
          have HRC := hide ((unhide HR).old ((Kept.refl [] wr).alloc (.cells (brow X) 36)))
          clear hc HBS HBN HLTB HDGL HR
          go_wp2_with (first
            | (refine wpList_load_mid rfl 36 _ rfl b (o + (q - 1) * 32) rfl (X.map Go.Proofs.YtfajlfcomhjnkaaDoor.u8) _ (unhide HC) Tryd.underlying36 rfl (by rw [List.length_map, hxl]; exact Tryd.size_dig) ?_)
            | (at_builtin; rw [zb32, one_digP X hxl]; refine wpList_appendD rfl _ _ rfl rfl (wr.alloc (.cells (brow X) 36)) w.heap.size (.slice ua ds.length ucap) ds [X] (some ⟨wr.heap.size, 0, none⟩) 1 1 (unhide HOC).own (RdD.oneP (unhide HNC) (unhide HDX)) (by have := unhide HPL; simp; omega) (unhide HOC).kept.size rfl rfl ?_; intro ao3 cap3 w3 HO3 HG3; have HO4 := hide ((unhide HOC).push (unhide HDX) (unhide HO3) (unhide HG3)); have HR3 := hide ((unhide HRC).keptP ((Kept.refl (Value.slice ua ds.length ucap).ownBlock.toList _).grown (unhide HG3) (by intro k hk; left; simp [hk])) (by intro b9 hb9 hm; exact unhide HNE b9 hb9 (by simpa using hm))); clear HO3 HG3))
          refine (unhide HUP w3 (unhide HR3)).mono ?_
          rintro e w4 ⟨u, rfl, o4⟩
          obtain ⟨u4, c4, rfl⟩ := o4.form
          have HO5 := hide ((unhide HO4).pass o4.kept)
          have HR5 := hide o4.rd
          have HN5 := hide (by intro b9 hb9 e9; have h1 := o4.bk b9 hb9; have h2 := ((unhide HO4).own.lt b9 e9).2; omega : ∀ b ∈ blk (.slice u4 lev2.length c4), (Value.slice ao3 (ds.length + [X].length) cap3).ownBlock ≠ some b)
          clear o4 HO4 HR3 HUP
          go_wp2_with fail
          go_roundw
          case rel => exact ⟨h + 1, hh1, by rw [unhide HQH], by rw [unhide HSN]; exact HO5, by rw [unhide HLEV2]; exact HR5, HN5⟩
          case measure => simp only [lenV]; exact unhide HME
        · have hbl' : ¬ (q : Int) - 1 < (vn : Int) := by omega
          have HSN := hide (unhide HBN (fun hx => hbl ((unhide HLTB).2 hx)))
          clear HBS HBN HLTB HDGL
          go_wp2_with fail
          refine (unhide HUP wr (unhide HR)).mono ?_
          rintro e w4 ⟨u, rfl, o4⟩
          obtain ⟨u4, c4, rfl⟩ := o4.form
          have HO5 := hide ((unhide HO).pass o4.kept)
          have HR5 := hide o4.rd
          have HN5 := hide (by intro b9 hb9 e9; have h1 := o4.bk b9 hb9; have h2 := ((unhide HO).own.lt b9 e9).2; omega : ∀ b ∈ blk (.slice u4 lev2.length c4), u7.ownBlock ≠ some b)
          clear o4 HO HUP
          go_wp2_with fail
          go_roundw
          case rel => exact ⟨h + 1, hh1, by rw [unhide HQH], by rw [unhide HSN]; exact HO5, by rw [unhide HLEV2]; exact HR5, HN5⟩
          case measure => simp only [lenV]; exact unhide HME
    · have hg' : ¬ (1 : Int) < (vn : Int) := by omega
      have HE := hide (unhide HPE (by
        rcases Nat.lt_or_ge (2 ^ h) L.length with h9 | h9
        · have := lt_lvN.2 (by omega : 1 * 2 ^ h < L.length)
          have := unhide HVN
          omega
        · exact h9))
      rw [unhide HE] at HO
      go_wp2_with fail
      go_ret
      exact ⟨_, rfl, unhide HO⟩
end Go.Proofs.YtfajlfcomhjnkaaDoor
namespace Go.Proofs.YtfajlfcomhjnkaaDoor
open Go.RowKit Go.BigFrame
set_option linter.unusedVariables false
set_option linter.unusedSimpArgs false

set_option maxRecDepth 100000 in
set_option maxHeartbeats 1000000 in
theorem docIncl_any (k : Nat) (hk : 1 ≤ k ∧ k ≤ 32) (lv : Value) (L : List (List Nat)) (i n : Nat) (w : World) (hl : RdD w lv L) (hN : L.length ≤ 1000000) (hn64 : n < 18446744073709551616) :
    Calls Tryd.prog 23 #[.int .i64 (k : Int), lv, .int .u64 (i : Int), .int .u64 (n : Int)] w fun e w' => ∃ u, e = .returned (.tuple #[u, .int .i64 (inE L i n)]) ∧ OwD w w' u (inD (k : Int) L i n) := by
  have HL := hide hl
  obtain ⟨la, ll, lc, rfl, l1, l2, l3, -⟩ := id hl
  have hcv : IntKind.u64.wrap (ll : Int) = (ll : Int) := by rw [wrM]; omega
  by_cases h1 : n ≤ i
  · have h1' : (n : Int) ≤ (i : Int) := by omega
    have hE : inE L i n = 4 := by unfold inE; rw [if_pos (Or.inl h1)]
    have hD : inD (k : Int) L i n = [] := by unfold inD; rw [if_pos (Or.inl h1)]
    rw [hE, hD]
    clear hE hD hl l1
    go_enter Tryd.func23, Tryd.ntmps23
    go_wp2_with fail
    all_goals exact ⟨rfl, _, results_tmp2 rfl _ _ _, _, rfl, OwD.nil _⟩
  · have h1' : ¬ (n : Int) ≤ (i : Int) := by omega
    by_cases h2 : ll < n
    · have h2' : (ll : Int) < (n : Int) := by omega
      have hE : inE L i n = 4 := by unfold inE; rw [if_pos (Or.inr (by omega))]
      have hD : inD (k : Int) L i n = [] := by unfold inD; rw [if_pos (Or.inr (by omega))]
      rw [hE, hD]
      clear hE hD hl l1
      go_enter Tryd.func23, Tryd.ntmps23
      go_wp2_with (simp only [hcv])
      all_goals exact ⟨rfl, _, results_tmp2 rfl _ _ _, _, rfl, OwD.nil _⟩
    · have h2' : ¬ (ll : Int) < (n : Int) := by omega
      have hE : inE L i n = 0 := by unfold inE; rw [if_neg (by omega)]
      have HP := hide (refPath_any k hk (.slice la n lc) (L.take n) i w (hl.upto n (by omega)) (by rw [List.length_take]; omega) (by rw [List.length_take]; omega))
      have hD : inD (k : Int) L i n = ptD (k : Int) (L.take n) i 64 := by
        rw [inD_levs (by omega) (by omega) hn64]
        unfold ptD
        rw [List.length_take, Nat.min_eq_left (by omega)]
      rw [hE, hD]
      have hci : IntKind.i64.wrap (i : Int) = (i : Int) := by simp [IntKind.wrap, IntKind.signed, IntKind.bits]; omega
      have hnl : n ≤ ll := by omega
      have hnc : ¬ (lc : Int) < (n : Int) := by omega
      have hnc2 : n ≤ lc := by omega
      generalize ptD (k : Int) (L.take n) i 64 = ds at HP ⊢
      clear hE hD hl l1
      go_enter Tryd.func23, Tryd.ntmps23
      go_wp2_with (first | simp only [hcv] | simp only [hci])
      refine (unhide HP).mono ?_
      rintro e w1 ⟨u, rfl, o1⟩
      have HO := hide o1
      clear o1
      go_wp2_with fail
      exact ⟨rfl, _, results_tmp2 rfl _ _ _, u, rfl, unhide HO⟩
end Go.Proofs.YtfajlfcomhjnkaaDoor
/-
  Laws for drawn regions, by genreg.py. No program.
-/
namespace Go.Proofs.YtfajlfcomhjnkaaDoor
open Go Go.RowKit Go.BigFrame
set_option linter.unusedVariables false
set_option linter.unusedSimpArgs false
section
variable {P : Program} {Q : Exit → Act → World → Prop}
theorem wp_fo9 {id : Nat} {o0 o1 o2 o3 o4 o5 o6 o7 o8 : Oper} {a : Act} {w : World} (hm : P.follows .mixedOrders = true) (hs : Region.noSelect #[o0, o1, o2, o3, o4, o5, o6, o7, o8] = true)
    (f0 : Region.free .any #[o0, o1, o2, o3, o4, o5, o6, o7, o8] #[false, false, false, false, false, false, false, false, false] 0 = true) (r0 : (Region.ready .any #[o0, o1, o2, o3, o4, o5, o6, o7, o8] #[false, false, false, false, false, false, false, false, false]).contains 0 = true)
    (f1 : Region.free .any #[o0, o1, o2, o3, o4, o5, o6, o7, o8] #[true, false, false, false, false, false, false, false, false] 1 = true) (r1 : (Region.ready .any #[o0, o1, o2, o3, o4, o5, o6, o7, o8] #[true, false, false, false, false, false, false, false, false]).contains 1 = true)
    (f2 : Region.free .any #[o0, o1, o2, o3, o4, o5, o6, o7, o8] #[true, true, false, false, false, false, false, false, false] 2 = true) (r2 : (Region.ready .any #[o0, o1, o2, o3, o4, o5, o6, o7, o8] #[true, true, false, false, false, false, false, false, false]).contains 2 = true)
    (f3 : Region.free .any #[o0, o1, o2, o3, o4, o5, o6, o7, o8] #[true, true, true, false, false, false, false, false, false] 3 = true) (r3 : (Region.ready .any #[o0, o1, o2, o3, o4, o5, o6, o7, o8] #[true, true, true, false, false, false, false, false, false]).contains 3 = true)
    (f4 : Region.free .any #[o0, o1, o2, o3, o4, o5, o6, o7, o8] #[true, true, true, true, false, false, false, false, false] 4 = true) (r4 : (Region.ready .any #[o0, o1, o2, o3, o4, o5, o6, o7, o8] #[true, true, true, true, false, false, false, false, false]).contains 4 = true)
    (q_ : Region.ready .any #[o0, o1, o2, o3, o4, o5, o6, o7, o8] #[true, true, true, true, true, false, false, false, false] = [5, 6])
    (q5_ : Region.ready .any #[o0, o1, o2, o3, o4, o5, o6, o7, o8] #[true, true, true, true, true, true, false, false, false] = [6])
    (q6_ : Region.ready .any #[o0, o1, o2, o3, o4, o5, o6, o7, o8] #[true, true, true, true, true, false, true, false, false] = [5])
    (q5_6_ : Region.ready .any #[o0, o1, o2, o3, o4, o5, o6, o7, o8] #[true, true, true, true, true, true, true, false, false] = [7])
    (q5_6_7_ : Region.ready .any #[o0, o1, o2, o3, o4, o5, o6, o7, o8] #[true, true, true, true, true, true, true, true, false] = [8])
    (q5_6_7_8_ : Region.ready .any #[o0, o1, o2, o3, o4, o5, o6, o7, o8] #[true, true, true, true, true, true, true, true, true] = [])
    (g5 : o5.guard = none)    (g6 : o6.guard = none)    (g7 : o7.guard = none)    (g8 : o8.guard = none)
    (ne6_5 : ∀ d, o6.dst = some d → o5.dst ≠ some d)
    (v0 v1 v2 v3 v4 : Value) (A0 A1 A2 A3 A4 : Act)
    (S : World → Prop)
    (I_ : World → Prop)
    (I5_ : Value → World → Prop)
    (I6_ : Value → World → Prop)
    (I5_6_ : Value → Value → World → Prop)
    (I5_6_7_ : Value → Value → Value → World → Prop)
    (I5_6_7_8_ : Value → Value → Value → Value → World → Prop)
    (p0 : a.put o0.dst v0 = A0) (hy0 : YieldsIf P #[o0, o1, o2, o3, o4, o5, o6, o7, o8] S o0 v0 a)
    (p1 : A0.put o1.dst v1 = A1) (hy1 : YieldsIf P #[o0, o1, o2, o3, o4, o5, o6, o7, o8] S o1 v1 A0)
    (p2 : A1.put o2.dst v2 = A2) (hy2 : YieldsIf P #[o0, o1, o2, o3, o4, o5, o6, o7, o8] S o2 v2 A1)
    (p3 : A2.put o3.dst v3 = A3) (hy3 : YieldsIf P #[o0, o1, o2, o3, o4, o5, o6, o7, o8] S o3 v3 A2)
    (p4 : A3.put o4.dst v4 = A4) (hy4 : YieldsIf P #[o0, o1, o2, o3, o4, o5, o6, o7, o8] S o4 v4 A3)
    (i0 : I_ w.drew)
    (hIS : (∀ w', I_  w' → S w') ∧ (∀ (u5 : Value) w', I5_ u5 w' → S w') ∧ (∀ (u6 : Value) w', I6_ u6 w' → S w') ∧ (∀ (u5 u6 : Value) w', I5_6_ u5 u6 w' → S w') ∧ (∀ (u5 u6 u7 : Value) w', I5_6_7_ u5 u6 u7 w' → S w') ∧ (∀ (u5 u6 u7 u8 : Value) w', I5_6_7_8_ u5 u6 u7 u8 w' → S w'))
    (s_5 : ∀ w', I_  w' → ∀ K : Act → World → Prop, (∀ (u5 : Value) w2, I5_ u5 w2 → K (A4.put o5.dst u5) w2) → o5.wp P A4 w' K (NoPanic Q))
    (s_6 : ∀ w', I_  w' → ∀ K : Act → World → Prop, (∀ (u6 : Value) w2, I6_ u6 w2 → K (A4.put o6.dst u6) w2) → o6.wp P A4 w' K (NoPanic Q))
    (s5_6 : ∀ (u5 : Value) w', I5_ u5 w' → ∀ K : Act → World → Prop, (∀ (u6 : Value) w2, I5_6_ u5 u6 w2 → K ((A4.put o5.dst u5).put o6.dst u6) w2) → o6.wp P (A4.put o5.dst u5) w' K (NoPanic Q))
    (s6_5 : ∀ (u6 : Value) w', I6_ u6 w' → ∀ K : Act → World → Prop, (∀ (u5 : Value) w2, I5_6_ u5 u6 w2 → K ((A4.put o6.dst u6).put o5.dst u5) w2) → o5.wp P (A4.put o6.dst u6) w' K (NoPanic Q))
    (s5_6_7 : ∀ (u5 u6 : Value) w', I5_6_ u5 u6 w' → ∀ K : Act → World → Prop, (∀ (u7 : Value) w2, I5_6_7_ u5 u6 u7 w2 → K (((A4.put o5.dst u5).put o6.dst u6).put o7.dst u7) w2) → o7.wp P ((A4.put o5.dst u5).put o6.dst u6) w' K (NoPanic Q))
    (s5_6_7_8 : ∀ (u5 u6 u7 : Value) w', I5_6_7_ u5 u6 u7 w' → ∀ K : Act → World → Prop, (∀ (u8 : Value) w2, I5_6_7_8_ u5 u6 u7 u8 w2 → K ((((A4.put o5.dst u5).put o6.dst u6).put o7.dst u7).put o8.dst u8) w2) → o8.wp P (((A4.put o5.dst u5).put o6.dst u6).put o7.dst u7) w' K (NoPanic Q))
    (h : ∀ (u5 u6 u7 u8 : Value) w', I5_6_7_8_ u5 u6 u7 u8 w' → Q .normal ((((A4.put o5.dst u5).put o6.dst u6).put o7.dst u7).put o8.dst u8) w') :
    (Code.region id #[o0, o1, o2, o3, o4, o5, o6, o7, o8] true).wp P Q a w := by
  subst p0 p1 p2 p3 p4
  obtain ⟨z_, z5_, z6_, z5_6_, z5_6_7_, z5_6_7_8_⟩ := hIS
  refine wp_region_noPanic ?_
  refine wp_region_held_drew (S := S) hm (z_ _ i0) (fun hH => ?_)
  show wpAnyH P .any #[o0, o1, o2, o3, o4, o5, o6, o7, o8] (NoPanic Q) S 9 #[false, false, false, false, false, false, false, false, false] a w.drew
  refine wpAnyH_take (i := 0) (oi := o0) rfl hs f0 r0 (fun _ _ _ h => h) hy0 hH ?_
  refine wpAnyH_take (i := 1) (oi := o1) rfl hs f1 r1 (fun _ _ _ h => h) hy1 hH ?_
  refine wpAnyH_take (i := 2) (oi := o2) rfl hs f2 r2 (fun _ _ _ h => h) hy2 hH ?_
  refine wpAnyH_take (i := 3) (oi := o3) rfl hs f3 r3 (fun _ _ _ h => h) hy3 hH ?_
  refine wpAnyH_take (i := 4) (oi := o4) rfl hs f4 r4 (fun _ _ _ h => h) hy4 hH ?_
  generalize (((((a.put o0.dst v0).put o1.dst v1).put o2.dst v2).put o3.dst v3).put o4.dst v4) = B at *
  have wa5 : ∀ y, Region.wanted o5 y = true := fun y => by unfold Region.wanted; rw [g5]
  have wa6 : ∀ y, Region.wanted o6 y = true := fun y => by unfold Region.wanted; rw [g6]
  have wa7 : ∀ y, Region.wanted o7 y = true := fun y => by unfold Region.wanted; rw [g7]
  have wa8 : ∀ y, Region.wanted o8 y = true := fun y => by unfold Region.wanted; rw [g8]
  have t5_6_7_8_ : ∀ (u5 u6 u7 u8 : Value) w', I5_6_7_8_ u5 u6 u7 u8 w' → wpAnyH P .any #[o0, o1, o2, o3, o4, o5, o6, o7, o8] (NoPanic Q) S 0 #[true, true, true, true, true, true, true, true, true] ((((B.put o5.dst u5).put o6.dst u6).put o7.dst u7).put o8.dst u8) w' := by
    intro u5 u6 u7 u8 w0 i0
    exact ⟨q5_6_7_8_, NoPanic.normal (h u5 u6 u7 u8 w0 i0)⟩
  have t5_6_7_ : ∀ (u5 u6 u7 : Value) w', I5_6_7_ u5 u6 u7 w' → wpAnyH P .any #[o0, o1, o2, o3, o4, o5, o6, o7, o8] (NoPanic Q) S 1 #[true, true, true, true, true, true, true, true, false] (((B.put o5.dst u5).put o6.dst u6).put o7.dst u7) w' := by
    intro u5 u6 u7 w0 i0
    refine wpAnyH_ready (rs := [8]) q5_6_7_ (by simp) (AllReadyH.cons (o := o8) rfl (fun K hK => ?_) AllReadyH.nil)
    · rw [if_pos (wa8 _)]
      refine s5_6_7_8 u5 u6 u7 w0 i0 K (fun u8 w1 i1 => hK.out _ _ (z5_6_7_8_ u5 u6 u7 u8 w1 i1) (fun _ => ?_))
      clear hK
      exact t5_6_7_8_ u5 u6 u7 u8 w1 i1
  have t5_6_ : ∀ (u5 u6 : Value) w', I5_6_ u5 u6 w' → wpAnyH P .any #[o0, o1, o2, o3, o4, o5, o6, o7, o8] (NoPanic Q) S 2 #[true, true, true, true, true, true, true, false, false] ((B.put o5.dst u5).put o6.dst u6) w' := by
    intro u5 u6 w0 i0
    refine wpAnyH_ready (rs := [7]) q5_6_ (by simp) (AllReadyH.cons (o := o7) rfl (fun K hK => ?_) AllReadyH.nil)
    · rw [if_pos (wa7 _)]
      refine s5_6_7 u5 u6 w0 i0 K (fun u7 w1 i1 => hK.out _ _ (z5_6_7_ u5 u6 u7 w1 i1) (fun _ => ?_))
      clear hK
      exact t5_6_7_ u5 u6 u7 w1 i1
  have t6_ : ∀ (u6 : Value) w', I6_ u6 w' → wpAnyH P .any #[o0, o1, o2, o3, o4, o5, o6, o7, o8] (NoPanic Q) S 3 #[true, true, true, true, true, false, true, false, false] (B.put o6.dst u6) w' := by
    intro u6 w0 i0
    refine wpAnyH_ready (rs := [5]) q6_ (by simp) (AllReadyH.cons (o := o5) rfl (fun K hK => ?_) AllReadyH.nil)
    · rw [if_pos (wa5 _)]
      refine s6_5 u6 w0 i0 K (fun u5 w1 i1 => hK.out _ _ (z5_6_ u5 u6 w1 i1) (fun _ => ?_))
      clear hK
      rw [Act.put_comm _ _ _ ne6_5]
      exact t5_6_ u5 u6 w1 i1
  have t5_ : ∀ (u5 : Value) w', I5_ u5 w' → wpAnyH P .any #[o0, o1, o2, o3, o4, o5, o6, o7, o8] (NoPanic Q) S 3 #[true, true, true, true, true, true, false, false, false] (B.put o5.dst u5) w' := by
    intro u5 w0 i0
    refine wpAnyH_ready (rs := [6]) q5_ (by simp) (AllReadyH.cons (o := o6) rfl (fun K hK => ?_) AllReadyH.nil)
    · rw [if_pos (wa6 _)]
      refine s5_6 u5 w0 i0 K (fun u6 w1 i1 => hK.out _ _ (z5_6_ u5 u6 w1 i1) (fun _ => ?_))
      clear hK
      exact t5_6_ u5 u6 w1 i1
  have t_ : ∀ w', I_  w' → wpAnyH P .any #[o0, o1, o2, o3, o4, o5, o6, o7, o8] (NoPanic Q) S 4 #[true, true, true, true, true, false, false, false, false] B w' := by
    intro w0 i0
    refine wpAnyH_ready (rs := [5, 6]) q_ (by simp) (AllReadyH.cons (o := o5) rfl (fun K hK => ?_) (AllReadyH.cons (o := o6) rfl (fun K hK => ?_) AllReadyH.nil))
    · rw [if_pos (wa5 _)]
      refine s_5  w0 i0 K (fun u5 w1 i1 => hK.out _ _ (z5_ u5 w1 i1) (fun _ => ?_))
      clear hK
      exact t5_ u5 w1 i1
    · rw [if_pos (wa6 _)]
      refine s_6  w0 i0 K (fun u6 w1 i1 => hK.out _ _ (z6_ u6 w1 i1) (fun _ => ?_))
      clear hK
      exact t6_ u6 w1 i1
  exact t_ w.drew i0

theorem wp_fp7 {id : Nat} {o0 o1 o2 o3 o4 o5 o6 : Oper} {a : Act} {w : World} (hm : P.follows .mixedOrders = true) (hs : Region.noSelect #[o0, o1, o2, o3, o4, o5, o6] = true)
    (f0 : Region.free .any #[o0, o1, o2, o3, o4, o5, o6] #[false, false, false, false, false, false, false] 0 = true) (r0 : (Region.ready .any #[o0, o1, o2, o3, o4, o5, o6] #[false, false, false, false, false, false, false]).contains 0 = true)
    (f1 : Region.free .any #[o0, o1, o2, o3, o4, o5, o6] #[true, false, false, false, false, false, false] 1 = true) (r1 : (Region.ready .any #[o0, o1, o2, o3, o4, o5, o6] #[true, false, false, false, false, false, false]).contains 1 = true)
    (f2 : Region.free .any #[o0, o1, o2, o3, o4, o5, o6] #[true, true, false, false, false, false, false] 2 = true) (r2 : (Region.ready .any #[o0, o1, o2, o3, o4, o5, o6] #[true, true, false, false, false, false, false]).contains 2 = true)
    (f3 : Region.free .any #[o0, o1, o2, o3, o4, o5, o6] #[true, true, true, false, false, false, false] 3 = true) (r3 : (Region.ready .any #[o0, o1, o2, o3, o4, o5, o6] #[true, true, true, false, false, false, false]).contains 3 = true)
    (f4 : Region.free .any #[o0, o1, o2, o3, o4, o5, o6] #[true, true, true, true, false, false, false] 4 = true) (r4 : (Region.ready .any #[o0, o1, o2, o3, o4, o5, o6] #[true, true, true, true, false, false, false]).contains 4 = true)
    (q_ : Region.ready .any #[o0, o1, o2, o3, o4, o5, o6] #[true, true, true, true, true, false, false] = [5])
    (q5_ : Region.ready .any #[o0, o1, o2, o3, o4, o5, o6] #[true, true, true, true, true, true, false] = [6])
    (q5_6_ : Region.ready .any #[o0, o1, o2, o3, o4, o5, o6] #[true, true, true, true, true, true, true] = [])
    (g5 : o5.guard = none)    (g6 : o6.guard = none)
    (v0 v1 v2 v3 v4 : Value) (A0 A1 A2 A3 A4 : Act)
    (S : World → Prop)
    (I_ : World → Prop)
    (I5_ : Value → World → Prop)
    (I5_6_ : Value → Value → World → Prop)
    (p0 : a.put o0.dst v0 = A0) (hy0 : YieldsIf P #[o0, o1, o2, o3, o4, o5, o6] S o0 v0 a)
    (p1 : A0.put o1.dst v1 = A1) (hy1 : YieldsIf P #[o0, o1, o2, o3, o4, o5, o6] S o1 v1 A0)
    (p2 : A1.put o2.dst v2 = A2) (hy2 : YieldsIf P #[o0, o1, o2, o3, o4, o5, o6] S o2 v2 A1)
    (p3 : A2.put o3.dst v3 = A3) (hy3 : YieldsIf P #[o0, o1, o2, o3, o4, o5, o6] S o3 v3 A2)
    (p4 : A3.put o4.dst v4 = A4) (hy4 : YieldsIf P #[o0, o1, o2, o3, o4, o5, o6] S o4 v4 A3)
    (i0 : I_ w.drew)
    (hIS : (∀ w', I_  w' → S w') ∧ (∀ (u5 : Value) w', I5_ u5 w' → S w') ∧ (∀ (u5 u6 : Value) w', I5_6_ u5 u6 w' → S w'))
    (s_5 : ∀ w', I_  w' → ∀ K : Act → World → Prop, (∀ (u5 : Value) w2, I5_ u5 w2 → K (A4.put o5.dst u5) w2) → o5.wp P A4 w' K (NoPanic Q))
    (s5_6 : ∀ (u5 : Value) w', I5_ u5 w' → ∀ K : Act → World → Prop, (∀ (u6 : Value) w2, I5_6_ u5 u6 w2 → K ((A4.put o5.dst u5).put o6.dst u6) w2) → o6.wp P (A4.put o5.dst u5) w' K (NoPanic Q))
    (h : ∀ (u5 u6 : Value) w', I5_6_ u5 u6 w' → Q .normal ((A4.put o5.dst u5).put o6.dst u6) w') :
    (Code.region id #[o0, o1, o2, o3, o4, o5, o6] true).wp P Q a w := by
  subst p0 p1 p2 p3 p4
  obtain ⟨z_, z5_, z5_6_⟩ := hIS
  refine wp_region_noPanic ?_
  refine wp_region_held_drew (S := S) hm (z_ _ i0) (fun hH => ?_)
  show wpAnyH P .any #[o0, o1, o2, o3, o4, o5, o6] (NoPanic Q) S 7 #[false, false, false, false, false, false, false] a w.drew
  refine wpAnyH_take (i := 0) (oi := o0) rfl hs f0 r0 (fun _ _ _ h => h) hy0 hH ?_
  refine wpAnyH_take (i := 1) (oi := o1) rfl hs f1 r1 (fun _ _ _ h => h) hy1 hH ?_
  refine wpAnyH_take (i := 2) (oi := o2) rfl hs f2 r2 (fun _ _ _ h => h) hy2 hH ?_
  refine wpAnyH_take (i := 3) (oi := o3) rfl hs f3 r3 (fun _ _ _ h => h) hy3 hH ?_
  refine wpAnyH_take (i := 4) (oi := o4) rfl hs f4 r4 (fun _ _ _ h => h) hy4 hH ?_
  generalize (((((a.put o0.dst v0).put o1.dst v1).put o2.dst v2).put o3.dst v3).put o4.dst v4) = B at *
  have wa5 : ∀ y, Region.wanted o5 y = true := fun y => by unfold Region.wanted; rw [g5]
  have wa6 : ∀ y, Region.wanted o6 y = true := fun y => by unfold Region.wanted; rw [g6]
  have t5_6_ : ∀ (u5 u6 : Value) w', I5_6_ u5 u6 w' → wpAnyH P .any #[o0, o1, o2, o3, o4, o5, o6] (NoPanic Q) S 0 #[true, true, true, true, true, true, true] ((B.put o5.dst u5).put o6.dst u6) w' := by
    intro u5 u6 w0 i0
    exact ⟨q5_6_, NoPanic.normal (h u5 u6 w0 i0)⟩
  have t5_ : ∀ (u5 : Value) w', I5_ u5 w' → wpAnyH P .any #[o0, o1, o2, o3, o4, o5, o6] (NoPanic Q) S 1 #[true, true, true, true, true, true, false] (B.put o5.dst u5) w' := by
    intro u5 w0 i0
    refine wpAnyH_ready (rs := [6]) q5_ (by simp) (AllReadyH.cons (o := o6) rfl (fun K hK => ?_) AllReadyH.nil)
    · rw [if_pos (wa6 _)]
      refine s5_6 u5 w0 i0 K (fun u6 w1 i1 => hK.out _ _ (z5_6_ u5 u6 w1 i1) (fun _ => ?_))
      clear hK
      exact t5_6_ u5 u6 w1 i1
  have t_ : ∀ w', I_  w' → wpAnyH P .any #[o0, o1, o2, o3, o4, o5, o6] (NoPanic Q) S 2 #[true, true, true, true, true, false, false] B w' := by
    intro w0 i0
    refine wpAnyH_ready (rs := [5]) q_ (by simp) (AllReadyH.cons (o := o5) rfl (fun K hK => ?_) AllReadyH.nil)
    · rw [if_pos (wa5 _)]
      refine s_5  w0 i0 K (fun u5 w1 i1 => hK.out _ _ (z5_ u5 w1 i1) (fun _ => ?_))
      clear hK
      exact t5_ u5 w1 i1
  exact t_ w.drew i0

end
end Go.Proofs.YtfajlfcomhjnkaaDoor
namespace Go.Proofs.YtfajlfcomhjnkaaDoor
open Go.RowKit Go.BigFrame
set_option linter.unusedVariables false
set_option linter.unusedSimpArgs false

/-- What Leaf answers. -/
def lfD (L : List (List Nat)) (i : Nat) : List Nat := if L.length ≤ i then List.replicate 32 0 else L.getD i []
def lfE (L : List (List Nat)) (i : Nat) : Int := if L.length ≤ i then 4 else 0
theorem lfD_dg {z : Int} {w : World} {ps : List Pk} (h : PKs z w ps) (i : Nat) : Dg (lfD (leavesK ps) i) := by
  unfold lfD
  split
  · exact ⟨by simp, by simp⟩
  · rename_i h1
    rw [List.getD_eq_getElem?_getD, List.getElem?_eq_getElem (by omega)]
    exact (h.leaves _ (List.getElem_mem _)).1

set_option maxRecDepth 100000 in
set_option maxHeartbeats 400000 in
theorem leafT_nil (i : Int) (w : World) :
    Calls Tryd.prog 20 #[.pointer none, .int .u64 i] w fun e w' => e = .returned (.tuple #[.agg (zb 32), .int .i64 5]) ∧ Kept [] w w' := by
  have HZ := hide (heap_alloc_new w (.cells (zb 32) 36))
  have HK := hide (((Kept.refl [] w).alloc (.cells (zb 32) 36)).setRow (g := w.heap.size) (Or.inr (Nat.le_refl _)) (zb 32))
  go_enter Tryd.func20, Tryd.ntmps20
  go_wp2_with (rw [zb32]; refine wpList_store_row rfl 36 _ _ rfl w.heap.size (zb 32) rfl rfl _ (zb 32) (unhide HZ) (by rw [zb_size]; exact Tryd.size_dig) rfl (brow_one _) ?_)
  refine bodyPost_ret (v := .tuple #[.agg (zb 32), .int .i64 5]) ?_ rfl ⟨rfl, unhide HK⟩
  exact results_cell_tmp rfl _ _ w.heap.size _ (zb 32) (0, 0) _ rfl (setRow_heap _ _ _ _ _ _ (unhide HZ)) Tryd.underlying36 rfl (by rw [zb_size]; exact Tryd.size_dig) _ rfl

set_option maxRecDepth 100000 in
set_option maxHeartbeats 400000 in
theorem leafT_all (z : Int) (t : Nat) (v : Value) (ps : List Pk) (i : Nat) (w : World) (hT : TreeAt z w t v ps) (hb : (leavesK ps).length < 32768) :
    Calls Tryd.prog 20 #[.pointer (some ⟨t, 0, none⟩), .int .u64 i] w fun e w' => e = .returned (.tuple #[.agg (brow (lfD (leavesK ps) i)), .int .i64 (lfE (leavesK ps) i)]) ∧ Kept [] w w' := by
  have hdl := (lfD_dg hT.pk i).1
  have c1 := cell_of_row _ _ 1 _ _ _ hT.row
  simp at c1
  have k0 := (Kept.refl [] w).alloc (.cells (zb 32) 36)
  have d1 := k0.cell c1 (by simp)
  have HZ := hide (heap_alloc_new w (.cells (zb 32) 36))
  have HK := hide k0
  rw [← zb32] at d1
  by_cases h : (leavesK ps).length ≤ i
  · have e1 : lfD (leavesK ps) i = List.replicate 32 0 := if_pos h
    have e2 : lfE (leavesK ps) i = 4 := if_pos h
    rw [e1, e2]
    have h' : ((leavesK ps).length : Int) ≤ i := by omega
    generalize (leavesK ps).length = n at d1 h'
    clear e1 e2 h hdl hb c1 k0 hT
    show Calls Tryd.prog 20 #[.pointer (some ⟨t, 0, none⟩), .int .u64 i] w fun e w' => e = .returned (.tuple #[.agg (zb 32), .int .i64 4]) ∧ Kept [] w w'
    go_enter Tryd.func20, Tryd.ntmps20
    go_wp2_with (rw [zb32]; refine wpList_store_row rfl 36 _ _ rfl w.heap.size (zb 32) rfl rfl _ (zb 32) (unhide HZ) (by rw [zb_size]; exact Tryd.size_dig) rfl (brow_one _) ?_)
    refine bodyPost_ret (v := .tuple #[.agg (zb 32), .int .i64 4]) ?_ rfl ⟨rfl, (unhide HK).setRow (g := w.heap.size) (Or.inr (Nat.le_refl _)) (zb 32)⟩
    exact results_cell_tmp rfl _ _ w.heap.size _ (zb 32) (0, 0) _ rfl (setRow_heap _ _ _ _ _ _ (unhide HZ)) Tryd.underlying36 rfl (by rw [zb_size]; exact Tryd.size_dig) _ rfl
  · have e2 : lfE (leavesK ps) i = 0 := if_neg h
    rw [e2]
    have h' : ¬ ((leavesK ps).length : Int) ≤ i := by omega
    have HKE := hide (by
      have h9 := keptT_any z t v ps i 0 _ (hT.old k0) (by simp; omega) (by simp) hb
      have e3 : perT z 0 (((leavesK ps).drop i).take (2 ^ 0)) = lfD (leavesK ps) i := by
        unfold lfD
        rw [if_neg h]
        simp [perT, List.getD_eq_getElem?_getD, List.getElem?_drop, List.getElem?_take]
      rw [e3] at h9
      exact h9 : Calls Tryd.prog 36 #[.pointer (some ⟨t, 0, none⟩), .int .u64 i, .int .i64 ((0 : Nat) : Int)] (w.alloc (.cells (zb 32) 36)) fun e w' => e = .returned (.agg (brow (lfD (leavesK ps) i))) ∧ Kept [] _ w')
    generalize (leavesK ps).length = n at d1 h'
    generalize lfD (leavesK ps) i = D at HKE hdl ⊢
    clear e2 h hb c1 k0 hT
    go_enter Tryd.func20, Tryd.ntmps20
    go_wp2_with fail
    rw [zb32]
    refine (unhide HKE).mono ?_
    rintro e w5 ⟨rfl, k5⟩
    have HZ5 := hide (k5.heap (unhide HZ) (by simp))
    have HK5 := hide (((unhide HK).trans k5 (by simp)).setRow (g := w.heap.size) (Or.inr (Nat.le_refl _)) (brow D))
    clear k5
    go_wp2_with (refine wpList_store_row rfl 36 _ _ rfl w.heap.size (brow D) rfl rfl _ (zb 32) (unhide HZ5) (by rw [brow_size, hdl]; exact Tryd.size_dig) (by rw [zb_size, brow_size, hdl]) (brow_one _) ?_)
    refine bodyPost_ret (v := .tuple #[.agg (brow D), .int .i64 0]) ?_ rfl ⟨rfl, unhide HK5⟩
    exact results_cell_tmp rfl _ _ w.heap.size _ (brow D) (0, 0) _ rfl (setRow_heap _ _ _ _ _ _ (unhide HZ5)) Tryd.underlying36 rfl (by rw [brow_size, hdl]; exact Tryd.size_dig) _ rfl
end Go.Proofs.YtfajlfcomhjnkaaDoor
namespace Go.Proofs.YtfajlfcomhjnkaaDoor
open Go.RowKit Go.BigFrame
set_option linter.unusedVariables false
set_option linter.unusedSimpArgs false

theorem levs_pre (N i h : Nat) : ∀ d, ∃ r, levs N i (h + d) = levs N i h ++ r
  | 0 => ⟨[], by simp⟩
  | d + 1 => by
    obtain ⟨r, hr⟩ := levs_pre N i h d
    exact ⟨r ++ (broS N i (h + d)).toList, by rw [← Nat.add_assoc, levs_succ, hr, List.append_assoc]⟩
theorem ptD_pre {z : Int} {L : List (List Nat)} {i h : Nat} (hh : h ≤ 64) : ∃ r, ptD z L i 64 = ptD z L i h ++ r := by
  obtain ⟨r, hr⟩ := levs_pre L.length i h (64 - h)
  rw [show h + (64 - h) = 64 by omega] at hr
  exact ⟨r.map fun s => rngD z (noT z) L s.1 s.2, by unfold ptD; rw [hr, List.map_append]⟩
theorem ptD_at {z : Int} {L : List (List Nat)} {i h : Nat} (hh : h < 64) (hb : broN i h * 2 ^ h < L.length) : (ptD z L i h).length < (ptD z L i 64).length ∧ (ptD z L i 64).getD (ptD z L i h).length [] = (lvl z (noT z) L h).getD (broN i h) [] := by
  obtain ⟨r, hr⟩ := ptD_pre (z := z) (L := L) (i := i) (h := h + 1) (by omega)
  rw [ptD_some hb] at hr
  rw [hr]
  refine ⟨by simp, ?_⟩
  rw [List.getD_eq_getElem?_getD, List.append_assoc, List.getElem?_append_right (Nat.le_refl _), Nat.sub_self]
  rfl
/-- The node on the way at a height. -/
def nodH (z : Int) (L : List (List Nat)) (i h : Nat) : List Nat := (lvl z (noT z) L h).getD (i / 2 ^ h) []
theorem nodH_up {z : Int} {L : List (List Nat)} {i h : Nat} (hi : i < L.length) :
    nodH z L i (h + 1) = if i / 2 ^ h % 2 = 1 then nodS z ((lvl z (noT z) L h).getD (broN i h) []) (nodH z L i h) else if i / 2 ^ h + 1 < lvN L.length h then nodS z (nodH z L i h) ((lvl z (noT z) L h).getD (broN i h) []) else nodH z L i h := by
  have hq : i / 2 ^ (h + 1) = i / 2 ^ h / 2 := by rw [Nat.pow_succ, ← Nat.div_div_eq_div_mul]
  have hlt : i / 2 ^ h < lvN L.length h := lt_lvN.2 (Nat.lt_of_le_of_lt (Nat.div_mul_le_self i (2 ^ h)) hi)
  unfold nodH broN
  rw [hq]
  generalize i / 2 ^ h = q at hlt ⊢
  rw [List.getD_eq_getElem?_getD, ← lvl_up, upL_at, lvl_len]
  rcases (by omega : q % 2 = 0 ∨ q % 2 = 1) with hp | hp
  · have e2 : 2 * (q / 2) = q := by omega
    rw [if_neg (by omega : ¬ q % 2 = 1), if_pos hp, e2]
    by_cases hb : q + 1 < lvN L.length h
    · rw [if_pos hb, if_pos hb]; rfl
    · rw [if_neg hb, if_neg hb, if_pos hlt]; rfl
  · have e2 : 2 * (q / 2) + 1 = q := by omega
    have e3 : 2 * (q / 2) = q - 1 := by omega
    rw [if_pos hp, if_neg (by omega : ¬ q % 2 = 0), e2, if_pos hlt, e3]
    rfl
theorem nodH_zero (z : Int) (L : List (List Nat)) (i : Nat) : nodH z L i 0 = L.getD i [] := by
  unfold nodH
  rw [lvl_zero, Nat.pow_zero, Nat.div_one]
theorem nodH_top {z : Int} {L : List (List Nat)} {i h : Nat} (hi : i < L.length) (hN : L.length ≤ 2 ^ h) : nodH z L i h = rngD z (noT z) L 0 L.length := by
  unfold nodH
  rw [Nat.div_eq_of_lt (by omega), lvl_getD (by omega)]
  congr 1
  · omega
  · omega
theorem lvl_fm {z : Int} {L : List (List Nat)} (hw : widthB z = true) (hL : ∀ d ∈ L, Dg d ∧ formB z d = true) {h j : Nat} (hj : j < lvN L.length h) : Dg ((lvl z (noT z) L h).getD j []) ∧ formB z ((lvl z (noT z) L h).getD j []) = true := by
  rw [lvl_getD (lt_lvN.1 hj)]
  exact ⟨log_dg _ _ _ (noT_dg _) (fun d hd => (hL d (List.mem_of_mem_drop (List.mem_of_mem_take hd))).1), log_form _ _ _ hw (noT_form hw) (fun d hd => (hL d (List.mem_of_mem_drop (List.mem_of_mem_take hd))).2)⟩
theorem dnodeF_any (z : Int) (l m : List Nat) (w : World) (hw : widthB z = true) (hl : Dg l) (hm : Dg m) (hlf : formB z l = true) (hmf : formB z m = true) (hT : Tabs w) :
    Calls Tryd.prog 21 #[.int .i64 z, .agg (brow l), .agg (brow m)] w fun e w' => e = .returned (.tuple #[.agg (brow (nodS z l m)), .int .i64 0]) ∧ Kept [] w w' := by
  have hz : 1 ≤ z ∧ z ≤ 32 := by simpa [widthB] using hw
  have h := node_all z l m w (by omega) hl.1 hm.1 hl.2 hm.2 hT
  rw [formedE_two hw hlf hmf] at h
  have e1 : sunD 0 z (nodeB z l m) = nodS z l m := by unfold nodS sunD; rw [if_pos rfl]
  have e2 : sunE 0 z = 0 := by simp [sunE, sumE, hw]
  rw [e1, e2] at h
  exact h
/-- One step of the fold, told whole. -/
structure FoS (z : Int) (L P : List (List Nat)) (i h : Nat) : Prop where
  dg : Dg (nodH z L i h) ∧ formB z (nodH z L i h) = true
  bro : (i / 2 ^ h % 2 = 1 ∨ i / 2 ^ h + 1 < lvN L.length h) → (ptD z L i h).length < P.length ∧ (Dg (P.getD (ptD z L i h).length []) ∧ formB z (P.getD (ptD z L i h).length []) = true) ∧ (ptD z L i (h + 1)).length = (ptD z L i h).length + 1 ∧ nodH z L i (h + 1) = (if i / 2 ^ h % 2 = 1 then nodS z (P.getD (ptD z L i h).length []) (nodH z L i h) else nodS z (nodH z L i h) (P.getD (ptD z L i h).length []))
  non : ¬ (i / 2 ^ h % 2 = 1 ∨ i / 2 ^ h + 1 < lvN L.length h) → (ptD z L i (h + 1)).length = (ptD z L i h).length ∧ nodH z L i (h + 1) = nodH z L i h
  fin : lvN L.length h ≤ 2 → (ptD z L i (h + 1)).length = P.length
  lt : i / 2 ^ h < lvN L.length h
theorem foS_of {z : Int} {L : List (List Nat)} {i h : Nat} (hw : widthB z = true) (hL : ∀ d ∈ L, Dg d ∧ formB z d = true) (hi : i < L.length) (hh : h < 64) : FoS z L (ptD z L i 64) i h := by
  have hlt : i / 2 ^ h < lvN L.length h := lt_lvN.2 (Nat.lt_of_le_of_lt (Nat.div_mul_le_self i (2 ^ h)) hi)
  have hup := nodH_up (z := z) (L := L) (i := i) (h := h) hi
  have hbr : (i / 2 ^ h % 2 = 1 ∨ i / 2 ^ h + 1 < lvN L.length h) ↔ broN i h < lvN L.length h := by
    unfold broN
    generalize i / 2 ^ h = q at hlt ⊢
    split <;> omega
  refine ⟨lvl_fm hw hL hlt, fun hb => ?_, fun hb => ?_, fun hc => ?_, hlt⟩
  · have hb2 := lt_lvN.1 (hbr.1 hb)
    have h1 := ptD_at (z := z) (L := L) (i := i) (h := h) hh hb2
    rw [h1.2]
    refine ⟨h1.1, lvl_fm hw hL (hbr.1 hb), by rw [ptD_some hb2]; simp, ?_⟩
    rw [hup]
    by_cases hp : i / 2 ^ h % 2 = 1
    · rw [if_pos hp, if_pos hp]
    · rw [if_neg hp, if_neg hp, if_pos (by omega)]
  · have hb2 : ¬ broN i h * 2 ^ h < L.length := fun hh' => hb (hbr.2 (lt_lvN.2 hh'))
    refine ⟨by rw [ptD_none hb2], ?_⟩
    rw [hup, if_neg (by omega), if_neg (by omega)]
  · have h1 : lvN L.length (h + 1) ≤ 1 := by rw [lvN_up]; omega
    have h2 : L.length ≤ 2 ^ (h + 1) := by
      rcases Nat.lt_or_ge (2 ^ (h + 1)) L.length with h9 | h9
      · have := lt_lvN.2 (by omega : 1 * 2 ^ (h + 1) < L.length); omega
      · exact h9
    rw [ptD_end hi h2 (by omega)]
end Go.Proofs.YtfajlfcomhjnkaaDoor
namespace Go.Proofs.YtfajlfcomhjnkaaDoor
open Go.RowKit Go.BigFrame
set_option linter.unusedVariables false
set_option linter.unusedSimpArgs false

theorem range_lt {w : World} {b o : Nat} {X : List Nat} (h : w.rangeAt b o (X.map u8)) (hx : X.length = 32) : b < w.heap.size := by
  cases X with
  | nil => simp at hx
  | cons y r => exact block_lt_of_cell (h 0 _ rfl)

set_option maxRecDepth 100000 in
set_option maxHeartbeats 4000000 in
theorem mproofFolds_go (z : Int) (lv : Value) (ls : List (List Nat)) (i n : Nat) (w : World) (hz : -9223372036854775808 ≤ z ∧ z ≤ 9223372036854775807) (hl : RdD w lv ls) (hN : ls.length < 32768) (hi64 : i < 18446744073709551616) (hn64 : n < 18446744073709551616) (hT : Tabs w) (h6 : Tab6 w) :
    Calls Tryd.prog 6 #[.int .i64 z, lv, .int .u64 (i : Int), .int .u64 (n : Int)] w fun e w' => e = .returned (.bool true) ∧ Kept [] w w' := by
  have HTB := hide hT
  have H6 := hide h6
  have HL := hide hl
  clear hT h6 hl
  go_enter Tryd.func6, Tryd.ntmps6
  go_wp2_with fail
  refine (mpawake_any w (unhide HTB) (unhide H6)).mono ?_
  rintro e w1 ⟨rfl, k1⟩
  have HK1 := hide k1
  clear k1
  go_wp2_with fail
  cases hwb : widthB z with
  | false =>
    refine (tree_bad z lv ls w1 hz hwb).mono ?_
    rintro e w2 ⟨h1, _⟩
    obtain ⟨rfl, k2⟩ := h1 hwb
    have HK2 := hide ((unhide HK1).trans k2 (by simp))
    clear k2 h1
    go_wp2_with fail
    all_goals go_ret
    all_goals exact ⟨rfl, unhide HK2⟩
  | true =>
    obtain ⟨hz1, hz2⟩ : 1 ≤ z ∧ z ≤ 32 := by simpa [widthB] using hwb
    obtain ⟨k, rfl⟩ : ∃ k : Nat, z = k := ⟨z.toNat, by omega⟩
    refine (tree_ok k lv ls w1 (by omega) (by omega) ((unhide HL).old (unhide HK1)) (by omega) ((unhide HTB).kept (unhide HK1) (by simp) (by simp)) ((unhide H6).kept (unhide HK1))).mono ?_
    rintro e w2 ⟨_, h2⟩
    obtain ⟨t, v, qs, u, rfl, tr, hlv, ow⟩ := h2 hwb
    rw [Int.toNat_natCast] at hlv ow
    have HT2 := hide tr
    have HO2 := hide (ow.back (unhide HK1))
    have HLV := hide hlv
    have HWB := hide hwb
    have hll9 : (ls.map (cutL k)).length = ls.length := by rw [List.length_map]
    have HLL := hide hll9
    clear h2 tr hlv ow hwb hll9
    obtain ⟨ua, uc, rfl⟩ := (unhide HO2).form
    generalize ls.map (cutL k) = L at HO2 HLV HLL
    obtain ⟨nl, hnl⟩ : ∃ nl, ls.length = nl := ⟨_, rfl⟩
    have HNL := hide (by rw [unhide HLL, hnl] : L.length = nl)
    have hcv : IntKind.u64.wrap (nl : Int) = (nl : Int) := by rw [wrM]; omega
    rw [hnl] at hN
    simp only [unhide HNL]
    clear hnl HLL
    by_cases hin : n ≤ i
    · have hin' : (n : Int) ≤ (i : Int) := by omega
      go_wp2_with (simp only [hcv])
      all_goals go_ret
      all_goals exact ⟨rfl, (unhide HO2).kept⟩
    · have hin' : ¬ (n : Int) ≤ (i : Int) := by omega
      by_cases hbig : nl < n
      · have hbig' : (nl : Int) < (n : Int) := by omega
        go_wp2_with (simp only [hcv])
        all_goals go_ret
        all_goals exact ⟨rfl, (unhide HO2).kept⟩
      · have hbig' : ¬ (nl : Int) < (n : Int) := by omega
        have HB := hide (by rw [unhide HLV, unhide HNL]; exact hN : (leavesK qs).length < 32768)
        have HTK := hide (fun W (kk : Kept [] w2 W) => (unhide HTB).kept ((unhide HO2).kept.trans kk (by simp)) (by simp) (by simp))
        have H6K := hide (fun W (kk : Kept [] w2 W) => (unhide H6).kept ((unhide HO2).kept.trans kk (by simp)))
        have HIN := hide (fun W (kk : Kept [] w2 W) => mincl_any (k : Int) t v qs i n W ((unhide HT2).old kk) (unhide HB) (unhide HTK W kk) (unhide H6K W kk) hn64)
        have HLF := hide (fun W (kk : Kept [] w2 W) => leafT_all (k : Int) t v qs i W ((unhide HT2).old kk) (unhide HB))
        have HRT := hide (fun W (kk : Kept [] w2 W) => rootT_all (k : Int) t v qs n W ((unhide HT2).old kk) (unhide HB) (unhide HTK W kk) (unhide H6K W kk))
        have HLV2 := hide (unhide HT2).pk.leaves
        rw [unhide HLV] at HIN HLF HRT HLV2
        have hln : (L.take n).length = n := by rw [List.length_take, unhide HNL]; omega
        have hfl : ∀ d ∈ L.take n, Dg d ∧ formB (k : Int) d = true := fun d hd => unhide HLV2 d (List.mem_of_mem_take hd)
        have HFO := hide (fun h (hh : h < 64) => foS_of (z := (k : Int)) (i := i) (h := h) (unhide HWB) hfl (by rw [hln]; omega) hh)
        have HTOP := hide (fun h (hh : n ≤ 2 ^ h) => nodH_top (z := (k : Int)) (L := L.take n) (i := i) (h := h) (by rw [hln]; omega) (by rw [hln]; exact hh))
        have HZ0 := hide (nodH_zero (k : Int) (L.take n) i)
        rw [hln] at HTOP
        rw [inD_levs (by omega) (by rw [unhide HNL]; omega) hn64, show inE L i n = 0 from if_neg (by rw [unhide HNL]; omega)] at HIN
        have hpt : ((levs n i 64).map fun s => rngD (k : Int) (noT (k : Int)) (L.take n) s.1 s.2) = ptD (k : Int) (L.take n) i 64 := by unfold ptD; rw [hln]
        rw [hpt] at HIN
        rw [show lfD L i = (L.take n).getD i [] from by
          unfold lfD
          rw [if_neg (by rw [unhide HNL]; omega), List.getD_eq_getElem?_getD, List.getD_eq_getElem?_getD, List.getElem?_take_of_lt (by omega)], show lfE L i = 0 from if_neg (by rw [unhide HNL]; omega)] at HLF
        rw [show rgD (k : Int) L 0 n = rngD (k : Int) (noT (k : Int)) (L.take n) 0 n from by
          unfold rgD
          rw [if_neg (by rw [unhide HNL]; omega), rngD_take (Nat.le_refl _)], show rgE L 0 n = 0 from if_neg (by rw [unhide HNL]; omega)] at HRT
        have HLVN := hide (fun h => by have h9 := lvN_up (L.take n).length h; rw [hln] at h9; exact h9 : ∀ h, lvN n (h + 1) = (lvN n h + 1) / 2)
        have HLE := hide (fun h => lvN_le n h)
        have HQ2 := hide (fun h => by rw [Nat.pow_succ, ← Nat.div_div_eq_div_mul] : ∀ h, i / 2 ^ (h + 1) = i / 2 ^ h / 2)
        have H20 := hide (fun h (hc : 1 < lvN n h) => (by
          rcases Nat.lt_or_ge h 20 with h9 | h9
          · exact h9
          · have h8 := lt_lvN.1 hc
            have : 2 ^ 20 ≤ 2 ^ h := Nat.pow_le_pow_right (by omega) h9
            omega : h < 20))
        have HST := hide (fun h (hc : ¬ 1 < lvN n h) => (by
          rcases Nat.lt_or_ge (2 ^ h) n with h9 | h9
          · have := lt_lvN.2 (by omega : 1 * 2 ^ h < n); omega
          · exact h9 : n ≤ 2 ^ h))
        have HN0 := hide (by unfold lvN; simp : lvN n 0 = n)
        generalize L.take n = M at HFO HTOP HZ0 HIN HLF HRT hln hfl
        have HLN := hide hln
        obtain ⟨P, hP⟩ : ∃ P, ptD (k : Int) M i 64 = P := ⟨_, rfl⟩
        rw [hP] at HIN HFO
        have HPP := hide hP
        clear hpt hP hfl hln HLV HLV2 HT2
        have HDX0 := hide ((unhide HFO 0 (by omega)).dg)
        rw [unhide HZ0] at HDX0
        generalize hd0 : M.getD i [] = d0 at HLF HDX0 HZ0
        have hd0l := (unhide HDX0).1.1
        clear hd0
        go_wp2_with (simp only [hcv])
        refine (unhide HIN w2 (Kept.refl _ _)).mono ?_
        rintro e w3 ⟨p, rfl, o3⟩
        have HP3 := hide o3
        have HK3 := hide o3.kept
        obtain ⟨pa, pc, rfl⟩ := o3.form
        clear o3 HIN
        go_wp2_with fail
        refine (unhide HLF w3 (unhide HK3)).mono ?_
        rintro e wa ⟨rfl, ka⟩
        have kab := ka.trans (kept_old wa d0) (by simp)
        have HG0 := hide (cell_new wa d0)
        have HP4 := hide ((unhide HP3).pass kab)
        have HK4 := hide ((unhide HK3).trans kab (by simp))
        have HGW := hide (Nat.le_trans (unhide HK3).size ka.size : w2.heap.size ≤ wa.heap.size)
        have HPB := hide (by intro b9 hb9 e9; rcases (unhide HP3).own.2 with ⟨h9, _⟩ | ⟨g, cap, cur, h9, _, hgg, _⟩
                             · simp only [Value.slice.injEq] at h9; obtain ⟨h7, -⟩ := h9; subst h7; simp [blk] at hb9
                             · simp only [Value.slice.injEq] at h9; obtain ⟨h7, -⟩ := h9; subst h7; simp only [blk, List.mem_singleton] at hb9; subst hb9; have h8 := lt_of_block hgg; have := ka.size; omega : ∀ b ∈ blk (.slice pa P.length pc), b ≠ wa.heap.size)
        obtain ⟨wb, hwb⟩ : ∃ wb, (wa.alloc (.cells (zb 32) 36)).setRow wa.heap.size (brow d0) = wb := ⟨_, rfl⟩
        rw [hwb] at HG0 HP4 HK4
        have HWB2 := hide hwb
        clear ka kab hwb HP3 HK3 HLF
        go_wp2_with (rw [zb32]; refine wpList_store_row rfl 36 (.tmp 14) _ rfl wa.heap.size (brow d0) rfl rfl _ (zb 32) (heap_alloc_new _ _) (Tryd.szD hd0l) (by rw [zb_size, brow_size, hd0l]) (brow_one _) ?_; rw [unhide HWB2])
        go_loopw [13, 16, 17, 18] (fun t13 t16 t17 t18 wr => ∃ (h : Nat), h ≤ 40 ∧ t13 = .int .i64 0 ∧ t16 = .int .u64 ((i / 2 ^ h : Nat) : Int) ∧ t17 = .int .u64 ((lvN n h : Nat) : Int) ∧ t18 = .int .i64 (((ptD (k : Int) M i h).length : Nat) : Int) ∧ Hid (wr.heap[wa.heap.size]? = some (.cells (brow (nodH (k : Int) M i h)) 36 (0, 0))) ∧ Hid (Kept [wa.heap.size] wb wr)) (fun _ _ t _ _ => (intOf t).toNat)
        case atStart => exact ⟨0, by omega, rfl, by simp, by rw [unhide HN0], by simp [ptD, levs], hide (by rw [unhide HZ0]; exact unhide HG0), hide (Kept.refl _ _)⟩
        case round =>
          obtain ⟨h, hh, rfl, rfl, rfl, rfl, HG, HKR⟩ := hrel
          have HS := hide (unhide HFO h (by omega))
          have HLVh := hide (unhide HLVN h)
          have HQh := hide (unhide HQ2 h)
          have H20h := hide (unhide H20 h)
          have HSTh := hide (unhide HST h)
          have HPLh := hide (ptD_len (k : Int) M i h)
          have hlt := (unhide HS).lt
          have hcb := unhide HLE h
          have HRDP := hide ((unhide HP4).rd.keptP (unhide HKR) (by intro b9 hb9 hm; simp at hm; exact unhide HPB b9 hb9 hm))
          have HGS := hide (lt_of_block (unhide HG))
          obtain ⟨q, hq⟩ : ∃ q, i / 2 ^ h = q := ⟨_, rfl⟩
          obtain ⟨c, hc⟩ : ∃ c, lvN n h = c := ⟨_, rfl⟩
          obtain ⟨kk, hkk⟩ : ∃ kk, (ptD (k : Int) M i h).length = kk := ⟨_, rfl⟩
          obtain ⟨D, hD⟩ : ∃ D, nodH (k : Int) M i h = D := ⟨_, rfl⟩
          have s1 := (unhide HS).dg
          have s2 := (unhide HS).bro
          have s3 := (unhide HS).non
          have s4 := (unhide HS).fin
          rw [unhide HLN] at s2 s3 s4 hlt
          rw [hq, hc] at s2 s3 hlt
          rw [hc] at s4 hcb HLVh H20h HSTh
          rw [hq] at HQh
          rw [hkk] at s2 s3 HPLh
          rw [hD] at s1 s2 s3 HG
          have HQX := hide (by rw [unhide HQh]; omega : ((i / 2 ^ (h + 1) : Nat) : Int) = (q : Int) / 2)
          have HCX := hide (by rw [unhide HLVh]; omega : ((lvN n (h + 1) : Nat) : Int) = (c : Int) / 2 + (c : Int) % 2)
          have HME := hide (fun (h9 : 1 < c) => (by rw [unhide HLVh]; omega : lvN n (h + 1) < c))
          rw [hq, hc, hkk]
          have HDD := hide s1
          have hdl := s1.1.1
          have HB2 := hide s2
          have HN2 := hide s3
          have HF2 := hide s4
          have HTO := hide (fun hc9 => (by have h9 := unhide HTOP h (unhide HSTh hc9); rw [hD] at h9; exact h9 : D = rngD (k : Int) (noT (k : Int)) M 0 n))
          clear s1 s2 s3 s4 hq hc hkk hD HS HLVh HQh HSTh
          by_cases hc1 : 1 < c
          · have hc1' : (1 : Int) < (c : Int) := by omega
            have h20 := unhide H20h hc1
            have HMEA := hide (unhide HME hc1)
            have hadd : IntKind.u64.wrap ((q : Int) + 1) = (q : Int) + 1 := by rw [wrM]; omega
            have hcc : IntKind.u64.wrap ((c : Int) / 2 + (c : Int) % 2) = (c : Int) / 2 + (c : Int) % 2 := by rw [wrM]; omega
            by_cases hbro : q % 2 = 1 ∨ q + 1 < c
            · obtain ⟨t1, t2, t3, t4⟩ := unhide HB2 hbro
              obtain ⟨pb, po, hpa, prd⟩ := (unhide HRDP).range (by omega)
              subst hpa
              have HPR := hide (prd kk t1)
              have HDX := hide t2
              have hxl := t2.1.1
              have ia : ¬ (kk : Int) < 0 := by omega
              have ib : ¬ (P.length : Int) ≤ (kk : Int) := by omega
              have hpbw : pb ≠ wa.heap.size := unhide HPB pb (by simp [blk])
              have HT3 := hide t3
              have HT4 := hide t4
              have HFI := hide (fun h9 => by have h8 := unhide HF2 h9; omega : c ≤ 2 → kk + 1 = P.length)
              clear prd t2 t3 t4 HB2 HN2 HF2 HTO
              generalize P.getD kk [] = X at HPR HDX HT4 hxl
              have hk64 := unhide HPLh
              rcases (by omega : q % 2 = 1 ∨ q % 2 = 0) with hodd | hodd
              · have ho1 : (q : Int) % 2 = 1 := by omega
                rw [if_pos hodd] at HT4
                have HNDX := hide (fun W (kx : Kept [] w2 W) => dnodeF_any (k : Int) X D W (unhide HWB) (unhide HDX).1 (unhide HDD).1 (unhide HDX).2 (unhide HDD).2 (unhide HTK W kx))
                rw [← unhide HT4] at HNDX
                have HNL9 := hide (nodS_dg (k : Int) X D)
                rw [← unhide HT4] at HNL9
                generalize hE : nodH (k : Int) M i (h + 1) = E at HNDX HNL9 HT4
                have HE := hide hE
                clear hE
                have hel := (unhide HNL9).1
                clear hbro HT4
                go_wp2_with (first | simp only [hadd])
                refine wp_fo9 (by kernel_rfl) (by kernel_rfl) (by kernel_rfl) (by kernel_rfl) (by kernel_rfl) (by kernel_rfl) (by kernel_rfl) (by kernel_rfl) (by kernel_rfl) (by kernel_rfl) (by kernel_rfl) (by kernel_rfl) (by kernel_rfl) (by kernel_rfl) (by kernel_rfl) (by kernel_rfl) (by kernel_rfl) (by kernel_rfl) rfl rfl rfl rfl (by simp)
                  (.agg (D.map Go.Proofs.YtfajlfcomhjnkaaDoor.u8).toArray) (.slice (some ⟨pb, po, none⟩) P.length pc) (.int .i64 (kk : Int)) (.pointer (some ⟨pb, po + kk * 32, none⟩)) (.agg (X.map Go.Proofs.YtfajlfcomhjnkaaDoor.u8).toArray) _ _ _ _ _
                  (fun w' => Kept [] wr w')
                  (fun w' => Kept [] wr w')
                  (fun u5 w' => (∃ g1, u5 = .pointer (some ⟨g1, 0, none⟩) ∧ wr.heap.size ≤ g1 ∧ w'.heap[g1]? = some (.cells (zb 32) 36 (0, 0))) ∧ Kept [] wr w')
                  (fun u6 w' => (∃ g2, u6 = .pointer (some ⟨g2, 0, none⟩) ∧ wr.heap.size ≤ g2 ∧ w'.heap[g2]? = some (.cells (zb 32) 36 (0, 0))) ∧ Kept [] wr w')
                  (fun u5 u6 w' => (∃ g1 g2, u5 = .pointer (some ⟨g1, 0, none⟩) ∧ u6 = .pointer (some ⟨g2, 0, none⟩) ∧ wr.heap.size ≤ g1 ∧ wr.heap.size ≤ g2 ∧ g1 ≠ g2 ∧ w'.heap[g1]? = some (.cells (zb 32) 36 (0, 0)) ∧ w'.heap[g2]? = some (.cells (zb 32) 36 (0, 0))) ∧ Kept [] wr w')
                  (fun u5 u6 u7 w' => (∃ g1 g2, u5 = .pointer (some ⟨g1, 0, none⟩) ∧ u6 = .pointer (some ⟨g2, 0, none⟩) ∧ wr.heap.size ≤ g1 ∧ wr.heap.size ≤ g2 ∧ g1 ≠ g2 ∧ w'.heap[g1]? = some (.cells (brow D) 36 (0, 0)) ∧ w'.heap[g2]? = some (.cells (zb 32) 36 (0, 0))) ∧ Kept [] wr w')
                  (fun u5 u6 u7 u8 w' => (∃ g1 g2, u5 = .pointer (some ⟨g1, 0, none⟩) ∧ u6 = .pointer (some ⟨g2, 0, none⟩) ∧ wr.heap.size ≤ g1 ∧ wr.heap.size ≤ g2 ∧ g1 ≠ g2 ∧ w'.heap[g1]? = some (.cells (brow D) 36 (0, 0)) ∧ w'.heap[g2]? = some (.cells (brow X) 36 (0, 0))) ∧ Kept [] wr w')
                  (by simp only [Act.put, List.setIfInBounds_toArray, List.set_cons_zero, List.set_cons_succ]; rfl) (by exact Or.inl ⟨by rfl, fun W' hW' => run_mid 36 (.tmp 14) rfl wa.heap.size (0) rfl (D.map Go.Proofs.YtfajlfcomhjnkaaDoor.u8) _ W' (range_kept (range_row (unhide HG)) hW' (by simp)) Tryd.underlying36 rfl (by rw [List.length_map, hdl]; exact Tryd.size_dig)⟩)
                  (by simp only [Act.put, List.setIfInBounds_toArray, List.set_cons_zero, List.set_cons_succ]; rfl) (by exact Or.inl ⟨by rfl, fun W' hW' => by go_simp⟩)
                  (by simp only [Act.put, List.setIfInBounds_toArray, List.set_cons_zero, List.set_cons_succ]; rfl) (by exact Or.inl ⟨by rfl, fun W' hW' => by go_simp⟩)
                  (by simp only [Act.put, List.setIfInBounds_toArray, List.set_cons_zero, List.set_cons_succ]; rfl) (by exact Or.inl ⟨by rfl, fun W' hW' => by go_simp⟩)
                  (by simp only [Act.put, List.setIfInBounds_toArray, List.set_cons_zero, List.set_cons_succ]; rfl) (by exact Or.inl ⟨by rfl, fun W' hW' => run_mid 36 (.tmp 93) rfl pb (po + kk * 32) rfl (X.map Go.Proofs.YtfajlfcomhjnkaaDoor.u8) _ W' (range_kept (unhide HPR) hW' (by simp)) Tryd.underlying36 rfl (by rw [List.length_map, hxl]; exact Tryd.size_dig)⟩)
                  (Kept.refl [] wr).drew
                  ⟨fun w' h => h, fun _ w' h => h.2, fun _ w' h => h.2, fun _ _ w' h => h.2, fun _ _ _ w' h => h.2, fun _ _ _ _ w' h => h.2⟩
                  (by intro w' i9 K hK; unfold Oper.wp execOp; go_simp; rw [zb32]; exact hK _ _ ⟨⟨_, rfl, i9.size, heap_alloc_new _ _⟩, i9.alloc _⟩)
                  (by intro w' i9 K hK; unfold Oper.wp execOp; go_simp; rw [zb32]; exact hK _ _ ⟨⟨_, rfl, i9.size, heap_alloc_new _ _⟩, i9.alloc _⟩)
                  (by
                    intro u5 w' hh K hK
                    simp only [Act.put, List.setIfInBounds_toArray, List.set_cons_zero, List.set_cons_succ] at hK ⊢
                    obtain ⟨⟨g1, rfl, hg1, h1⟩, i9⟩ := hh
                    unfold Oper.wp execOp
                    go_simp
                    rw [zb32]
                    exact hK _ _ ⟨⟨g1, _, rfl, rfl, hg1, i9.size, by have := lt_of_block h1; omega, ((Kept.refl [] w').alloc _).heap h1 (by simp), heap_alloc_new _ _⟩, i9.alloc _⟩)
                  (by
                    intro u6 w' hh K hK
                    simp only [Act.put, List.setIfInBounds_toArray, List.set_cons_zero, List.set_cons_succ] at hK ⊢
                    obtain ⟨⟨g2, rfl, hg2, h1⟩, i9⟩ := hh
                    unfold Oper.wp execOp
                    go_simp
                    rw [zb32]
                    exact hK _ _ ⟨⟨_, g2, rfl, rfl, i9.size, hg2, by have := lt_of_block h1; omega, heap_alloc_new _ _, ((Kept.refl [] w').alloc _).heap h1 (by simp)⟩, i9.alloc _⟩)
                  (by
                    intro u5 u6 w' hh K hK
                    simp only [Act.put, List.setIfInBounds_toArray, List.set_cons_zero, List.set_cons_succ] at hK ⊢
                    obtain ⟨⟨g1, g2, rfl, rfl, hg1, hg2, hne, h1, h2⟩, i9⟩ := hh
                    exact wp_store_row 36 (.tmp 19) (.tmp 90) rfl g1 (brow D) rfl rfl _ (zb 32) h1 (Tryd.szD hdl) (by rw [zb_size, brow_size, hdl]) (brow_one _) (hK undef _ ⟨⟨g1, g2, rfl, rfl, hg1, hg2, hne, setRow_heap _ _ _ _ _ _ h1, (setRow_other _ _ _ _ (by omega)).trans h2⟩, i9.setRow (Or.inr hg1) _⟩))
                  (by
                    intro u5 u6 u7 w' hh K hK
                    simp only [Act.put, List.setIfInBounds_toArray, List.set_cons_zero, List.set_cons_succ] at hK ⊢
                    obtain ⟨⟨g1, g2, rfl, rfl, hg1, hg2, hne, h1, h2⟩, i9⟩ := hh
                    exact wp_store_row 36 (.tmp 20) (.tmp 94) rfl g2 (brow X) rfl rfl _ (zb 32) h2 (Tryd.szD hxl) (by rw [zb_size, brow_size, hxl]) (brow_one _) (hK undef _ ⟨⟨g1, g2, rfl, rfl, hg1, hg2, hne, (setRow_other _ _ _ _ (by omega)).trans h1, setRow_heap _ _ _ _ _ _ h2⟩, i9.setRow (Or.inr hg2) _⟩))
                  ?_
                rintro u5 u6 u7 u8 wg ⟨⟨g1, g2, rfl, rfl, hg1, hg2, hg12, h1, h2⟩, kg⟩
                simp only [Act.put, List.setIfInBounds_toArray, List.set_cons_zero, List.set_cons_succ]
                have HPRg := hide (range_kept (unhide HPR) kg (by simp))
                have HGg := hide (kg.heap (unhide HG) (by simp))
                have H1 := hide h1
                have H2 := hide h2
                have HKg := hide kg
                have hgn : wa.heap.size ∉ [g1, g2] := by have := unhide HGS; simp; omega
                have hpn : pb ∉ [g1, g2] := by have h9 := unhide HPR; have := range_lt h9 hxl; simp; omega
                clear h1 h2 kg
                go_wp2_with (first | simp only [hadd])
                refine wp_fp7 (by kernel_rfl) (by kernel_rfl) (by kernel_rfl) (by kernel_rfl) (by kernel_rfl) (by kernel_rfl) (by kernel_rfl) (by kernel_rfl) (by kernel_rfl) (by kernel_rfl) (by kernel_rfl) (by kernel_rfl) (by kernel_rfl) (by kernel_rfl) (by kernel_rfl) rfl rfl
                  (.slice (some ⟨pb, po, none⟩) P.length pc) (.int .i64 (kk : Int)) (.pointer (some ⟨pb, po + kk * 32, none⟩)) (.agg (X.map Go.Proofs.YtfajlfcomhjnkaaDoor.u8).toArray) (.agg (D.map Go.Proofs.YtfajlfcomhjnkaaDoor.u8).toArray) _ _ _ _ _
                  (fun w' => Kept [g1, g2] wg w')
                  (fun w' => w'.heap[g1]? = some (.cells (brow D) 36 (0, 0)) ∧ w'.heap[g2]? = some (.cells (brow X) 36 (0, 0)) ∧ Kept [g1, g2] wg w')
                  (fun u5 w' => w'.heap[g1]? = some (.cells (brow X) 36 (0, 0)) ∧ w'.heap[g2]? = some (.cells (brow X) 36 (0, 0)) ∧ Kept [g1, g2] wg w')
                  (fun u5 u6 w' => w'.heap[g1]? = some (.cells (brow X) 36 (0, 0)) ∧ w'.heap[g2]? = some (.cells (brow D) 36 (0, 0)) ∧ Kept [g1, g2] wg w')
                  (by simp only [Act.put, List.setIfInBounds_toArray, List.set_cons_zero, List.set_cons_succ]; rfl) (by exact Or.inl ⟨by rfl, fun W' hW' => by go_simp⟩)
                  (by simp only [Act.put, List.setIfInBounds_toArray, List.set_cons_zero, List.set_cons_succ]; rfl) (by exact Or.inl ⟨by rfl, fun W' hW' => by go_simp⟩)
                  (by simp only [Act.put, List.setIfInBounds_toArray, List.set_cons_zero, List.set_cons_succ]; rfl) (by exact Or.inl ⟨by rfl, fun W' hW' => by go_simp⟩)
                  (by simp only [Act.put, List.setIfInBounds_toArray, List.set_cons_zero, List.set_cons_succ]; rfl) (by exact Or.inl ⟨by rfl, fun W' hW' => run_mid 36 (.tmp 100) rfl pb (po + kk * 32) rfl (X.map Go.Proofs.YtfajlfcomhjnkaaDoor.u8) _ W' (range_kept (unhide HPRg) hW' hpn) Tryd.underlying36 rfl (by rw [List.length_map, hxl]; exact Tryd.size_dig)⟩)
                  (by simp only [Act.put, List.setIfInBounds_toArray, List.set_cons_zero, List.set_cons_succ]; rfl) (by exact Or.inl ⟨by rfl, fun W' hW' => run_mid 36 (.tmp 14) rfl wa.heap.size (0) rfl (D.map Go.Proofs.YtfajlfcomhjnkaaDoor.u8) _ W' (range_kept (range_row (unhide HGg)) hW' hgn) Tryd.underlying36 rfl (by rw [List.length_map, hdl]; exact Tryd.size_dig)⟩)
                  ⟨unhide H1, unhide H2, (Kept.refl [g1, g2] wg).drew⟩
                  ⟨fun w' h => h.2.2, fun _ w' h => h.2.2, fun _ _ w' h => h.2.2⟩
                  (by
                    intro w' hh K hK
                    obtain ⟨h1, h2, i9⟩ := hh
                    exact wp_store_row 36 (.tmp 19) (.tmp 101) rfl g1 (brow X) rfl rfl _ _ (h1) (Tryd.szD hxl) (by rw [brow_size, brow_size, hxl, hdl]) (brow_one _) (hK undef _ ⟨setRow_heap _ _ _ _ _ _ (h1), (setRow_other _ _ _ _ (by omega)).trans (h2), i9.setRow (Or.inl (by simp)) _⟩))
                  (by
                    intro u5 w' hh K hK
                    obtain ⟨h1, h2, i9⟩ := hh
                    exact wp_store_row 36 (.tmp 20) (.tmp 102) rfl g2 (brow D) rfl rfl _ _ h2 (Tryd.szD hdl) (by rw [brow_size, brow_size, hxl, hdl]) (brow_one _) (hK undef _ ⟨(setRow_other _ _ _ _ (by omega)).trans h1, setRow_heap _ _ _ _ _ _ h2, i9.setRow (Or.inl (by simp)) _⟩))
                  ?_
                rintro u5 u6 wh ⟨h1, h2, kh⟩
                simp only [Act.put, List.setIfInBounds_toArray, List.set_cons_zero, List.set_cons_succ]
                have HKh := hide ((unhide HKg).trans kh (by intro x hx; right; simp at hx; omega))
                have HGh := hide (kh.heap (unhide HGg) hgn)
                have H1h := hide h1
                have H2h := hide h2
                clear h1 h2 kh HGg H1 H2 HKg HPRg
                have HKx := hide (((unhide HK4).trans (unhide HKR) (by intro x hx; right; simp at hx; rw [hx]; exact unhide HGW)).trans (unhide HKh) (by simp))
                go_wp2_with (first
                  | simp only [hadd]
                  | (refine wpList_load_row rfl 36 (.tmp 19) rfl g1 rfl _ (brow X) (0, 0) _ (unhide H1h) Tryd.underlying36 rfl (Tryd.szD hxl) ?_)
                  | (refine wpList_load_row rfl 36 (.tmp 20) rfl g2 rfl _ (brow D) (0, 0) _ (unhide H2h) Tryd.underlying36 rfl (Tryd.szD hdl) ?_))
                refine (unhide HNDX wh (unhide HKx)).mono ?_
                rintro e wn ⟨rfl, kn⟩
                have HGn := hide (kn.heap (unhide HGh) (by simp))
                have HGe := hide (setRow_heap wn wa.heap.size _ (brow E) 36 (0, 0) (unhide HGn))
                have HKe := hide (((unhide HKR).trans ((unhide HKh).trans kn (by simp)) (by simp)).setRow (g := wa.heap.size) (Or.inl (by simp)) (brow E))
                obtain ⟨we, hwe⟩ : ∃ we, wn.setRow wa.heap.size (brow E) = we := ⟨_, rfl⟩
                rw [hwe] at HGe HKe
                have HWE := hide hwe
                clear kn hwe
                by_cases hc2 : c ≤ 2
                · have hc2' : (c : Int) ≤ 2 := by omega
                  have hkl : ((kk : Int) + 1) = (P.length : Int) := by have := unhide HFI hc2; omega
                  have HKL := hide hkl
                  have hklb : (((kk : Int) + 1) != (P.length : Int)) = false := by rw [hkl]; simp
                  clear hkl
                  go_wp2_with (first
                    | (refine wpList_store_row rfl 36 (.tmp 14) _ rfl wa.heap.size (brow E) rfl rfl _ (brow D) (unhide HGn) (Tryd.szD hel) (by rw [brow_size, brow_size, hdl, hel]) (brow_one _) ?_; rw [unhide HWE])
                    | simp only [hklb] | simp only [hcc])
                  go_roundw
                  case rel => exact ⟨h + 1, by omega, rfl, by rw [unhide HQX], by rw [unhide HCX], by rw [unhide HT3]; simp, by rw [unhide HE]; exact HGe, HKe⟩
                  case measure => have h9 := unhide HMEA; have h8 := unhide HCX; simp [intOf]; omega
                · have hc2' : ¬ (c : Int) ≤ 2 := by omega
                  go_wp2_with (first
                    | (refine wpList_store_row rfl 36 (.tmp 14) _ rfl wa.heap.size (brow E) rfl rfl _ (brow D) (unhide HGn) (Tryd.szD hel) (by rw [brow_size, brow_size, hdl, hel]) (brow_one _) ?_; rw [unhide HWE])
                    | simp only [hcc])
                  go_roundw
                  case rel => exact ⟨h + 1, by omega, rfl, by rw [unhide HQX], by rw [unhide HCX], by rw [unhide HT3]; simp, by rw [unhide HE]; exact HGe, HKe⟩
                  case measure => have h9 := unhide HMEA; have h8 := unhide HCX; simp [intOf]; omega
              · have ho1 : ¬ (q : Int) % 2 = 1 := by omega
                have ho0 : (q : Int) % 2 = 0 := by omega
                have hnl9 : ¬ (c : Int) ≤ (q : Int) + 1 := by omega
                rw [if_neg (by omega)] at HT4
                have HNDX := hide (fun W (kx : Kept [] w2 W) => dnodeF_any (k : Int) D X W (unhide HWB) (unhide HDD).1 (unhide HDX).1 (unhide HDD).2 (unhide HDX).2 (unhide HTK W kx))
                rw [← unhide HT4] at HNDX
                have HNL9 := hide (nodS_dg (k : Int) D X)
                rw [← unhide HT4] at HNL9
                generalize hE : nodH (k : Int) M i (h + 1) = E at HNDX HNL9 HT4
                have HE := hide hE
                clear hE
                have hel := (unhide HNL9).1
                clear hbro HT4
                go_wp2_with (first | simp only [hadd])
                refine wp_fo9 (by kernel_rfl) (by kernel_rfl) (by kernel_rfl) (by kernel_rfl) (by kernel_rfl) (by kernel_rfl) (by kernel_rfl) (by kernel_rfl) (by kernel_rfl) (by kernel_rfl) (by kernel_rfl) (by kernel_rfl) (by kernel_rfl) (by kernel_rfl) (by kernel_rfl) (by kernel_rfl) (by kernel_rfl) (by kernel_rfl) rfl rfl rfl rfl (by simp)
                  (.agg (D.map Go.Proofs.YtfajlfcomhjnkaaDoor.u8).toArray) (.slice (some ⟨pb, po, none⟩) P.length pc) (.int .i64 (kk : Int)) (.pointer (some ⟨pb, po + kk * 32, none⟩)) (.agg (X.map Go.Proofs.YtfajlfcomhjnkaaDoor.u8).toArray) _ _ _ _ _
                  (fun w' => Kept [] wr w')
                  (fun w' => Kept [] wr w')
                  (fun u5 w' => (∃ g1, u5 = .pointer (some ⟨g1, 0, none⟩) ∧ wr.heap.size ≤ g1 ∧ w'.heap[g1]? = some (.cells (zb 32) 36 (0, 0))) ∧ Kept [] wr w')
                  (fun u6 w' => (∃ g2, u6 = .pointer (some ⟨g2, 0, none⟩) ∧ wr.heap.size ≤ g2 ∧ w'.heap[g2]? = some (.cells (zb 32) 36 (0, 0))) ∧ Kept [] wr w')
                  (fun u5 u6 w' => (∃ g1 g2, u5 = .pointer (some ⟨g1, 0, none⟩) ∧ u6 = .pointer (some ⟨g2, 0, none⟩) ∧ wr.heap.size ≤ g1 ∧ wr.heap.size ≤ g2 ∧ g1 ≠ g2 ∧ w'.heap[g1]? = some (.cells (zb 32) 36 (0, 0)) ∧ w'.heap[g2]? = some (.cells (zb 32) 36 (0, 0))) ∧ Kept [] wr w')
                  (fun u5 u6 u7 w' => (∃ g1 g2, u5 = .pointer (some ⟨g1, 0, none⟩) ∧ u6 = .pointer (some ⟨g2, 0, none⟩) ∧ wr.heap.size ≤ g1 ∧ wr.heap.size ≤ g2 ∧ g1 ≠ g2 ∧ w'.heap[g1]? = some (.cells (brow D) 36 (0, 0)) ∧ w'.heap[g2]? = some (.cells (zb 32) 36 (0, 0))) ∧ Kept [] wr w')
                  (fun u5 u6 u7 u8 w' => (∃ g1 g2, u5 = .pointer (some ⟨g1, 0, none⟩) ∧ u6 = .pointer (some ⟨g2, 0, none⟩) ∧ wr.heap.size ≤ g1 ∧ wr.heap.size ≤ g2 ∧ g1 ≠ g2 ∧ w'.heap[g1]? = some (.cells (brow D) 36 (0, 0)) ∧ w'.heap[g2]? = some (.cells (brow X) 36 (0, 0))) ∧ Kept [] wr w')
                  (by simp only [Act.put, List.setIfInBounds_toArray, List.set_cons_zero, List.set_cons_succ]; rfl) (by exact Or.inl ⟨by rfl, fun W' hW' => run_mid 36 (.tmp 14) rfl wa.heap.size (0) rfl (D.map Go.Proofs.YtfajlfcomhjnkaaDoor.u8) _ W' (range_kept (range_row (unhide HG)) hW' (by simp)) Tryd.underlying36 rfl (by rw [List.length_map, hdl]; exact Tryd.size_dig)⟩)
                  (by simp only [Act.put, List.setIfInBounds_toArray, List.set_cons_zero, List.set_cons_succ]; rfl) (by exact Or.inl ⟨by rfl, fun W' hW' => by go_simp⟩)
                  (by simp only [Act.put, List.setIfInBounds_toArray, List.set_cons_zero, List.set_cons_succ]; rfl) (by exact Or.inl ⟨by rfl, fun W' hW' => by go_simp⟩)
                  (by simp only [Act.put, List.setIfInBounds_toArray, List.set_cons_zero, List.set_cons_succ]; rfl) (by exact Or.inl ⟨by rfl, fun W' hW' => by go_simp⟩)
                  (by simp only [Act.put, List.setIfInBounds_toArray, List.set_cons_zero, List.set_cons_succ]; rfl) (by exact Or.inl ⟨by rfl, fun W' hW' => run_mid 36 (.tmp 93) rfl pb (po + kk * 32) rfl (X.map Go.Proofs.YtfajlfcomhjnkaaDoor.u8) _ W' (range_kept (unhide HPR) hW' (by simp)) Tryd.underlying36 rfl (by rw [List.length_map, hxl]; exact Tryd.size_dig)⟩)
                  (Kept.refl [] wr).drew
                  ⟨fun w' h => h, fun _ w' h => h.2, fun _ w' h => h.2, fun _ _ w' h => h.2, fun _ _ _ w' h => h.2, fun _ _ _ _ w' h => h.2⟩
                  (by intro w' i9 K hK; unfold Oper.wp execOp; go_simp; rw [zb32]; exact hK _ _ ⟨⟨_, rfl, i9.size, heap_alloc_new _ _⟩, i9.alloc _⟩)
                  (by intro w' i9 K hK; unfold Oper.wp execOp; go_simp; rw [zb32]; exact hK _ _ ⟨⟨_, rfl, i9.size, heap_alloc_new _ _⟩, i9.alloc _⟩)
                  (by
                    intro u5 w' hh K hK
                    simp only [Act.put, List.setIfInBounds_toArray, List.set_cons_zero, List.set_cons_succ] at hK ⊢
                    obtain ⟨⟨g1, rfl, hg1, h1⟩, i9⟩ := hh
                    unfold Oper.wp execOp
                    go_simp
                    rw [zb32]
                    exact hK _ _ ⟨⟨g1, _, rfl, rfl, hg1, i9.size, by have := lt_of_block h1; omega, ((Kept.refl [] w').alloc _).heap h1 (by simp), heap_alloc_new _ _⟩, i9.alloc _⟩)
                  (by
                    intro u6 w' hh K hK
                    simp only [Act.put, List.setIfInBounds_toArray, List.set_cons_zero, List.set_cons_succ] at hK ⊢
                    obtain ⟨⟨g2, rfl, hg2, h1⟩, i9⟩ := hh
                    unfold Oper.wp execOp
                    go_simp
                    rw [zb32]
                    exact hK _ _ ⟨⟨_, g2, rfl, rfl, i9.size, hg2, by have := lt_of_block h1; omega, heap_alloc_new _ _, ((Kept.refl [] w').alloc _).heap h1 (by simp)⟩, i9.alloc _⟩)
                  (by
                    intro u5 u6 w' hh K hK
                    simp only [Act.put, List.setIfInBounds_toArray, List.set_cons_zero, List.set_cons_succ] at hK ⊢
                    obtain ⟨⟨g1, g2, rfl, rfl, hg1, hg2, hne, h1, h2⟩, i9⟩ := hh
                    exact wp_store_row 36 (.tmp 19) (.tmp 90) rfl g1 (brow D) rfl rfl _ (zb 32) h1 (Tryd.szD hdl) (by rw [zb_size, brow_size, hdl]) (brow_one _) (hK undef _ ⟨⟨g1, g2, rfl, rfl, hg1, hg2, hne, setRow_heap _ _ _ _ _ _ h1, (setRow_other _ _ _ _ (by omega)).trans h2⟩, i9.setRow (Or.inr hg1) _⟩))
                  (by
                    intro u5 u6 u7 w' hh K hK
                    simp only [Act.put, List.setIfInBounds_toArray, List.set_cons_zero, List.set_cons_succ] at hK ⊢
                    obtain ⟨⟨g1, g2, rfl, rfl, hg1, hg2, hne, h1, h2⟩, i9⟩ := hh
                    exact wp_store_row 36 (.tmp 20) (.tmp 94) rfl g2 (brow X) rfl rfl _ (zb 32) h2 (Tryd.szD hxl) (by rw [zb_size, brow_size, hxl]) (brow_one _) (hK undef _ ⟨⟨g1, g2, rfl, rfl, hg1, hg2, hne, (setRow_other _ _ _ _ (by omega)).trans h1, setRow_heap _ _ _ _ _ _ h2⟩, i9.setRow (Or.inr hg2) _⟩))
                  ?_
                rintro u5 u6 u7 u8 wg ⟨⟨g1, g2, rfl, rfl, hg1, hg2, hg12, h1, h2⟩, kg⟩
                simp only [Act.put, List.setIfInBounds_toArray, List.set_cons_zero, List.set_cons_succ]
                have HGg := hide (kg.heap (unhide HG) (by simp))
                have H1 := hide h1
                have H2 := hide h2
                have HKg := hide kg
                clear h1 h2 kg
                have HKx := hide (((unhide HK4).trans (unhide HKR) (by intro x hx; right; simp at hx; rw [hx]; exact unhide HGW)).trans (unhide HKg) (by simp))
                go_wp2_with (first
                  | simp only [hadd]
                  | (refine wpList_load_row rfl 36 (.tmp 19) rfl g1 rfl _ (brow D) (0, 0) _ (unhide H1) Tryd.underlying36 rfl (Tryd.szD hdl) ?_)
                  | (refine wpList_load_row rfl 36 (.tmp 20) rfl g2 rfl _ (brow X) (0, 0) _ (unhide H2) Tryd.underlying36 rfl (Tryd.szD hxl) ?_))
                refine (unhide HNDX wg (unhide HKx)).mono ?_
                rintro e wn ⟨rfl, kn⟩
                have HGn := hide (kn.heap (unhide HGg) (by simp))
                have HGe := hide (setRow_heap wn wa.heap.size _ (brow E) 36 (0, 0) (unhide HGn))
                have HKe := hide (((unhide HKR).trans ((unhide HKg).trans kn (by simp)) (by simp)).setRow (g := wa.heap.size) (Or.inl (by simp)) (brow E))
                obtain ⟨we, hwe⟩ : ∃ we, wn.setRow wa.heap.size (brow E) = we := ⟨_, rfl⟩
                rw [hwe] at HGe HKe
                have HWE := hide hwe
                clear kn hwe
                by_cases hc2 : c ≤ 2
                · have hc2' : (c : Int) ≤ 2 := by omega
                  have hkl : ((kk : Int) + 1) = (P.length : Int) := by have := unhide HFI hc2; omega
                  have HKL := hide hkl
                  have hklb : (((kk : Int) + 1) != (P.length : Int)) = false := by rw [hkl]; simp
                  clear hkl
                  go_wp2_with (first
                    | (refine wpList_store_row rfl 36 (.tmp 14) _ rfl wa.heap.size (brow E) rfl rfl _ (brow D) (unhide HGn) (Tryd.szD hel) (by rw [brow_size, brow_size, hdl, hel]) (brow_one _) ?_; rw [unhide HWE])
                    | simp only [hklb] | simp only [hcc])
                  go_roundw
                  case rel => exact ⟨h + 1, by omega, rfl, by rw [unhide HQX], by rw [unhide HCX], by rw [unhide HT3]; simp, by rw [unhide HE]; exact HGe, HKe⟩
                  case measure => have h9 := unhide HMEA; have h8 := unhide HCX; simp [intOf]; omega
                · have hc2' : ¬ (c : Int) ≤ 2 := by omega
                  go_wp2_with (first
                    | (refine wpList_store_row rfl 36 (.tmp 14) _ rfl wa.heap.size (brow E) rfl rfl _ (brow D) (unhide HGn) (Tryd.szD hel) (by rw [brow_size, brow_size, hdl, hel]) (brow_one _) ?_; rw [unhide HWE])
                    | simp only [hcc])
                  go_roundw
                  case rel => exact ⟨h + 1, by omega, rfl, by rw [unhide HQX], by rw [unhide HCX], by rw [unhide HT3]; simp, by rw [unhide HE]; exact HGe, HKe⟩
                  case measure => have h9 := unhide HMEA; have h8 := unhide HCX; simp [intOf]; omega
            · obtain ⟨t1, t2⟩ := unhide HN2 hbro
              have ho0 : (q : Int) % 2 = 0 := by omega
              have hge9 : (c : Int) ≤ (q : Int) + 1 := by omega
              have HG' := hide (by rw [t2]; exact unhide HG : wr.heap[wa.heap.size]? = some (.cells (brow (nodH (k : Int) M i (h + 1))) 36 (0, 0)))
              have HT1 := hide t1
              clear hbro t1 t2 HB2 HN2 HF2 HTO
              go_wp2_with (first | simp only [hadd] | simp only [hcc])
              go_roundw
              case rel => exact ⟨h + 1, by omega, rfl, by rw [unhide HQX], by rw [unhide HCX], by rw [unhide HT1], HG', HKR⟩
              case measure => have h9 := unhide HMEA; have h8 := unhide HCX; simp [intOf]; omega
          · have hc1' : ¬ (1 : Int) < (c : Int) := by omega
            have hDR := unhide HTO hc1
            have HRR := hide (unhide HRT wr ((unhide HK4).trans (unhide HKR) (by intro x hx; right; simp at hx; rw [hx]; exact unhide HGW)))
            rw [← hDR] at HRR
            clear hDR HTO
            have hq9 := fun W => dig_eq W D D hdl hdl
            rw [decide_eq_true rfl] at hq9
            go_wp2_with fail
            refine (unhide HRR).mono ?_
            rintro e wz ⟨rfl, kz⟩
            have kzz := kz.trans (kept_old wz D) (by simp)
            have HNz := hide (cell_new wz D)
            have HGz := hide (kzz.heap (unhide HG) (by simp))
            have HKz := hide ((unhide HO2).kept.trans (((unhide HK4).trans (unhide HKR) (by intro x hx; right; simp at hx; rw [hx]; exact unhide HGW)).trans kzz (by simp)) (by simp))
            obtain ⟨wy, hwy⟩ : ∃ wy, (wz.alloc (.cells (zb 32) 36)).setRow wz.heap.size (brow D) = wy := ⟨_, rfl⟩
            rw [hwy] at HNz HGz HKz
            have HWY := hide hwy
            clear kz kzz hwy
            go_wp2_with (first
              | (rw [zb32]; refine wpList_store_row rfl 36 (.tmp 21) _ rfl wz.heap.size (brow D) rfl rfl _ (zb 32) (heap_alloc_new _ _) (Tryd.szD hdl) (by rw [zb_size, brow_size, hdl]) (brow_one _) ?_; rw [unhide HWY])
              | (refine wpList_load_rowG rfl 36 (.tmp 14) rfl wa.heap.size rfl _ (brow D) (0, 0) _ (unhide HGz) Tryd.underlying36 rfl (Tryd.szD hdl) ?_)
              | (refine wpList_load_rowG rfl 36 (.tmp 21) rfl wz.heap.size rfl _ (brow D) (0, 0) _ (unhide HNz) Tryd.underlying36 rfl (Tryd.szD hdl) ?_))
            go_ret
            exact ⟨rfl, unhide HKz⟩

theorem mproofFolds_walk (z : Int) (lv : Value) (ls : List (List Nat)) (i n : Nat) (w : World) (hz : -9223372036854775808 ≤ z ∧ z ≤ 9223372036854775807) (hl : RdD w lv ls) (hN : ls.length < 32768) (hi : i < 18446744073709551616) (hn : n < 18446744073709551616) (h : Tabs w ∧ Tab6 w) :
    Calls Tryd.prog 6 #[.int .i64 z, lv, .int .u64 (i : Int), .int .u64 (n : Int)] w fun e w' => e = .returned (.bool true) ∧ Below w.heap.size w w' :=
  (mproofFolds_go z lv ls i n w hz hl hN hi hn h.1 h.2).mono fun e w' h9 => ⟨h9.1, h9.2.below (Nat.le_refl _) (by simp)⟩
end Go.Proofs.YtfajlfcomhjnkaaDoor
namespace Go.Proofs.YtfajlfcomhjnkaaDoor
open Go.ChangeShapes Go.WideShapes Go.ChangeAt Go.RowKit Go.Deep
set_option linter.unusedVariables false
set_option linter.unusedSimpArgs false

theorem own : ownKnob Tryd.prog.godebug = none := by kernel_rfl
theorem laidOut : laidOutB Tryd.prog = true := by kernel_rfl
theorem byte_of_wf {x : Int} (h : (Lit.int .u8 x).wf = true) : 0 ≤ x ∧ x < 256 := by
  simp [Lit.wf, IntKind.min, IntKind.max, IntKind.signed, IntKind.bits] at h
  exact ⟨by omega, by omega⟩
theorem int_of_wf {x : Int} (h : (Lit.int .i64 x).wf = true) : -9223372036854775808 ≤ x ∧ x ≤ 9223372036854775807 := by
  simp [Lit.wf, IntKind.min, IntKind.max, IntKind.signed, IntKind.bits] at h
  exact ⟨by omega, by omega⟩

theorem bulk_one {H : Type} (d : DataW H) : 1 ≤ Rows.uptoBulk d := by
  cases d with
  | lit l => cases l <;> simp [Rows.uptoBulk]
  | nil => simp [Rows.uptoBulk]
  | ptr d => simp [Rows.uptoBulk]
  | slice elems spare => simp [Rows.uptoBulk]
  | agg parts => simp [Rows.uptoBulk]
  | iface t d => simp [Rows.uptoBulk]
  | map entries => simp [Rows.uptoBulk]
  | held h => simp [Rows.uptoBulk]
theorem bulk_len {H : Type} (l : List (DataW H)) : l.length ≤ Rows.uptoBulkAll l := by
  induction l with
  | nil => simp [Rows.uptoBulkAll]
  | cons x r ih => have := bulk_one x; simp only [Rows.uptoBulkAll, List.length_cons]; omega
theorem Tryd.bytes5 : Tryd.prog.bytesOf 5 = 1 := by kernel_rfl

section
variable {H : Type} {enc : TypeId × Value → H} {W : World}

/-- Bytes that came in, as the walks want them, of whatever length. -/
theorem open_bytes {fuel : Nat} {cs : List Value} {x : DataW H × List MemPlace} (h : DataW.trod enc Tryd.prog W 0 (fun _ => true) true fuel 66 cs = some x) :
    ∃ v bs, cs = [v] ∧ (bs.length ≤ 140737488355328 → Rd W v bs) ∧ ((bs = [] ∧ x.1 = .nil) ∨ ∃ elems spare, x.1 = .slice elems spare ∧ elems.length = bs.length) := by
  rcases open_ints Tryd.underlying66 Tryd.underlying5 (by kernel_rfl) h with ⟨rfl, rfl⟩ | ⟨a, len, cap, zs, rfl, _, hl, hm, hz, rfl, hcell, hwz⟩
  · exact ⟨_, [], rfl, fun _ => Rd.nil W, .inl ⟨rfl, rfl⟩⟩
  · have h2 : (lits (H := H) .u8 (zs.take len)).length = len := by simp only [lits, List.length_map, List.length_take]; simp at hz; omega
    have hbl : ((zs.take len).map Int.toNat).length = len := by simp at hz; simp; omega
    refine ⟨_, (zs.take len).map Int.toNat, rfl, fun hB => ⟨_, _, _, rfl, hbl, hl, ⟨by unfold maxLen at hm; omega, by omega⟩, by simp, ?_, ?_⟩, .inr ⟨_, _, rfl, by rw [h2, hbl]⟩⟩
    · intro y hy
      obtain ⟨z, hz1, rfl⟩ := List.mem_map.1 hy
      have := byte_of_wf (hwz z (List.mem_of_mem_take hz1)); omega
    · intro hp
      simp at hz
      have hc0 := hcell 0 (by omega)
      obtain ⟨b, off, spot⟩ := a
      have hspot : spot = none := by simpa [Addr.add] using World.cell?_spot hc0
      subst hspot
      refine ⟨b, off, rfl, fun i hi => ?_⟩
      have hc := hcell i (by omega)
      have hzi : i < zs.length := by omega
      rw [Addr.add_mid] at hc
      rw [hc]
      have hw := byte_of_wf (hwz (zs[i]) (List.getElem_mem hzi))
      simp only [List.getD_eq_getElem?_getD, List.getElem?_eq_getElem hzi, Option.getD_some, List.getElem?_map, List.getElem?_take, hi, if_true, Option.map_some]
      simp [u8]; omega
/-- Their length, by the reach. -/
theorem reach_bytes {ts : List TypeId} {ds : List (DataW H)} (h : (DataW.weightsEach Tryd.prog ts ds).all (· ≤ reachBytes) = true) {j : Nat} (ht : ts[j]? = some 66) {d : DataW H} (hd : ds[j]? = some d) {bs : List Nat}
    (hx : (bs = [] ∧ d = .nil) ∨ ∃ elems spare, d = .slice elems spare ∧ elems.length = bs.length) : bs.length ≤ 140737488351232 := by
  rcases hx with ⟨rfl, _⟩ | ⟨elems, spare, rfl, he⟩
  · simp
  · have := sized_slice h ht hd Tryd.underlying66
    rw [Tryd.bytes5, Nat.mul_one] at this
    unfold reachBytes at this
    omega
/-- Their length, by the bulk. -/
theorem bulk_bytes {d : DataW H} {bs : List Nat} (hx : (bs = [] ∧ d = .nil) ∨ ∃ elems spare, d = .slice elems spare ∧ elems.length = bs.length) : bs.length + 1 ≤ Rows.uptoBulk d := by
  rcases hx with ⟨rfl, rfl⟩ | ⟨elems, spare, rfl, he⟩
  · simp [Rows.uptoBulk]
  · have := bulk_len elems
    simp only [Rows.uptoBulk]; omega
end
end Go.Proofs.YtfajlfcomhjnkaaDoor
namespace Go.Proofs.YtfajlfcomhjnkaaDoor
open Go Go.RowKit
set_option linter.unusedVariables false
set_option linter.unusedSimpArgs false
section
variable {H : Type} {enc : TypeId × Value → H} {W : World}

def natOf : Value → Nat
  | .int _ n => n.toNat
  | _ => 0
/-- A digest that came in. -/
theorem open_dig {fuel : Nat} {cs : List Value} {x : DataW H × List MemPlace} (h : DataW.trod enc Tryd.prog W 0 (fun _ => true) true fuel 36 cs = some x) :
    ∃ l : List Nat, cs = l.map u8 ∧ l.length = 32 ∧ ∀ y ∈ l, y < 256 := by
  obtain ⟨xs, m, _, rfl, hl, hn, hc⟩ := DataW.trod_array Tryd.underlying36 h
  rw [show Tryd.prog.cellsOf 36 = 32 from by kernel_rfl] at hl
  rw [show Tryd.prog.cellsOf 5 = 1 from by kernel_rfl] at hc
  have key : ∀ i (hi : i < cs.length), cs[i] = u8 (natOf cs[i]) ∧ natOf cs[i] < 256 := by
    intro i hi
    have h1 := hc i (by omega)
    rw [Nat.mul_one, List.getElem?_eq_getElem (by omega)] at h1
    obtain ⟨n, e, _, hw⟩ := DataW.trod_int Tryd.underlying5 h1
    rw [List.drop_eq_getElem_cons hi, List.take_succ_cons, List.take_zero] at e
    simp only [List.cons.injEq, and_true] at e
    have := byte_of_wf hw
    rw [e]
    refine ⟨?_, ?_⟩
    · simp [u8, natOf]; omega
    · simp [natOf]; omega
  refine ⟨cs.map natOf, ?_, by simp [hl], ?_⟩
  · rw [List.map_map]
    refine List.ext_getElem (by simp) fun i h1 h2 => ?_
    rw [List.getElem_map]
    exact (key i h1).1
  · intro y hy
    obtain ⟨v, hv, rfl⟩ := List.mem_map.1 hy
    obtain ⟨i, hi, rfl⟩ := List.getElem_of_mem hv
    exact (key i hi).2
set_option maxRecDepth 100000 in
theorem open_digv {b0 : Nat} {v : Value} {d : DataW H} {ps : List MemPlace} (hv : Value.okWide Tryd.prog W .any b0 36 v) (h : DataW.Trod enc Tryd.prog W 0 (fun _ => true) true 36 v d ps) :
    ∃ l : List Nat, v = .agg (brow l) ∧ l.length = 32 ∧ ∀ y ∈ l, y < 256 := by
  unfold Value.okWide at hv
  rw [Tryd.underlying36] at hv
  obtain ⟨cs, rfl, _, _⟩ := hv
  obtain ⟨fuel, hf⟩ := h
  obtain ⟨l, e, h1, h2⟩ := open_dig hf
  refine ⟨l, ?_, h1, h2⟩
  simp only [Value.cells] at e
  unfold brow
  rw [← e]
end
end Go.Proofs.YtfajlfcomhjnkaaDoor
namespace Go.Proofs.YtfajlfcomhjnkaaDoor
open Go.RowKit
set_option linter.unusedVariables false
set_option linter.unusedSimpArgs false

/-- The slice value v reads as these numbers of 64 bits. -/
def RdQ (w : World) (v : Value) (xs : List Nat) : Prop :=
  ∃ (ao : Option Addr) (len cap : Nat), v = .slice ao len cap ∧ xs.length = len ∧ len ≤ cap ∧ cap ≤ 9223372036854775807 ∧ (∀ x ∈ xs, x < 18446744073709551616) ∧
    (0 < len → ∃ b off, ao = some ⟨b, off, none⟩ ∧ ∀ i, i < len → w.cell? ⟨b, off + i, none⟩ = some (.int .u64 ((xs.getD i 0 : Nat) : Int)))
theorem RdQ.old {w0 w : World} {v : Value} {ws : List Nat} (h : RdQ w0 v ws) (k : Kept [] w0 w) : RdQ w v ws := by
  obtain ⟨ao, len, cap, rfl, h1, h2, h3, h5, h6⟩ := h
  refine ⟨ao, len, cap, rfl, h1, h2, h3, h5, fun hp => ?_⟩
  obtain ⟨b, off, rfl, hc⟩ := h6 hp
  exact ⟨b, off, rfl, fun i hi => k.cell (hc i hi) (by simp)⟩
end Go.Proofs.YtfajlfcomhjnkaaDoor
namespace Go.Proofs.YtfajlfcomhjnkaaDoor
open Go.ChangeShapes Go.WideShapes Go.ChangeAt Go.RowKit Go.Deep
set_option linter.unusedVariables false
set_option linter.unusedSimpArgs false
section
variable {H : Type} {enc : TypeId × Value → H} {W : World}

/-- Digests that came in. -/
theorem open_digs2 {fuel : Nat} {cs : List Value} {x : DataW H × List MemPlace} (h : DataW.trod enc Tryd.prog W 0 (fun _ => true) true fuel 22 cs = some x) (hB : Rows.uptoBulk x.1 ≤ 1048576) :
    ∃ v ds, cs = [v] ∧ RdD W v ds ∧ ds.length ≤ 1048576 := by
  rcases open_slice Tryd.underlying22 h with ⟨rfl, rfl⟩ | ⟨a, len, cap, m, n, D, Pl, rfl, _, hl, hm, hmm, rfl, hx⟩
  · exact ⟨_, [], rfl, ⟨none, 0, 0, rfl, rfl, Nat.le_refl _, by omega, fun d hd => by simp at hd, fun h => by omega⟩, by simp⟩
  · have hC : Tryd.prog.cellsOf 36 = 32 := by kernel_rfl
    rw [hC] at hx
    simp only [if_true] at hmm
    simp only [Rows.uptoBulk] at hB
    have hcap : cap ≤ 1048576 := by
      have h1 := bulk_len ((List.range len).map D)
      have h2 := bulk_len ((List.range (m - len)).map fun j => D (len + j))
      simp at h1 h2
      omega
    obtain ⟨f, hf⟩ := choose_lt (α := List Nat) (n := len) (p := fun i o => (∀ j v, (o.map u8)[j]? = some v → W.cell? ((a.add (i * 32)).add j) = some v) ∧ o.length = 32 ∧ ∀ y ∈ o, y < 256) (by
      intro i hi
      obtain ⟨cs', h1, h2⟩ := hx i (by omega)
      obtain ⟨l, rfl, hl1, hl2⟩ := open_dig h2
      obtain ⟨_, hlen, hc⟩ := World.cells?_some h1
      refine ⟨l, fun j v hv => ?_, hl1, hl2⟩
      have hj := (List.getElem?_eq_some_iff.1 hv).1
      have := hc j (by rw [List.length_map] at hj; omega)
      rw [this, ← hv, List.getElem?_eq_getElem hj])
    refine ⟨_, (List.range len).map f, rfl, ⟨some a, len, cap, rfl, by simp, hl, by omega, ?_, ?_⟩, by simp; omega⟩
    · intro d hd
      obtain ⟨i, hi, rfl⟩ := List.mem_map.1 hd
      exact (hf i (List.mem_range.1 hi)).2
    · intro hp
      obtain ⟨b, off, spot⟩ := a
      have h0 := hf 0 hp
      have hc0 := h0.1 0 (u8 ((f 0).getD 0 0)) (by rw [List.getElem?_map, List.getD_eq_getElem?_getD, List.getElem?_eq_getElem (by omega)]; rfl)
      have hspot : spot = none := by simpa [Addr.add] using World.cell?_spot hc0
      subst hspot
      refine ⟨b, off, rfl, fun i hi j v hv => ?_⟩
      have e9 : ((List.range len).map f).getD i [] = f i := by simp [List.getD_eq_getElem?_getD, hi]
      rw [e9] at hv
      have := (hf i hi).1 j v hv
      rw [Addr.add_mid, Addr.add_mid] at this
      exact this

end
end Go.Proofs.YtfajlfcomhjnkaaDoor
namespace Go.Proofs.YtfajlfcomhjnkaaDoor
open Go.ChangeShapes Go.WideShapes Go.ChangeAt Go.RowKit Go.Deep
set_option linter.unusedVariables false
set_option linter.unusedSimpArgs false
theorem bulk_mul {H : Type} (c : Nat) (l : List (DataW H)) (h : ∀ y ∈ l, c ≤ Rows.uptoBulk y) : c * l.length ≤ Rows.uptoBulkAll l := by
  induction l with
  | nil => simp [Rows.uptoBulkAll]
  | cons x r ih =>
    have h1 := h x (by simp)
    have h2 := ih (fun y hy => h y (by simp [hy]))
    simp only [Rows.uptoBulkAll, List.length_cons, Nat.mul_add, Nat.mul_one]
    omega
section
variable {H : Type} {enc : TypeId × Value → H} {W : World}
theorem dig_bulk {fuel : Nat} {cs : List Value} {x : DataW H × List MemPlace} (h : DataW.trod enc Tryd.prog W 0 (fun _ => true) true fuel 36 cs = some x) : 33 ≤ Rows.uptoBulk x.1 := by
  obtain ⟨xs, m, _, rfl, hl, hn, hc⟩ := DataW.trod_array Tryd.underlying36 h
  have h9 := bulk_len (xs.map (fun x => x.fst))
  rw [List.length_map] at h9
  simp only [Rows.uptoBulk]
  omega
/-- Digests that came in: how many there may be. -/
theorem open_digs3 {fuel : Nat} {cs : List Value} {x : DataW H × List MemPlace} (h : DataW.trod enc Tryd.prog W 0 (fun _ => true) true fuel 22 cs = some x) (hB : Rows.uptoBulk x.1 ≤ 1048576) :
    ∃ v ds, cs = [v] ∧ RdD W v ds ∧ 33 * ds.length + 1 ≤ Rows.uptoBulk x.1 := by
  obtain ⟨v, ds, e, hr, _⟩ := open_digs2 h hB
  refine ⟨v, ds, e, hr, ?_⟩
  rcases open_slice Tryd.underlying22 h with ⟨rfl, rfl⟩ | ⟨a, len, cap, m, n, D, Pl, rfl, _, hl, hm, hmm, rfl, hx⟩
  · simp at e
    subst e
    obtain ⟨_, _, _, e2, h1, _⟩ := hr
    cases e2
    rw [h1]
    simp [Rows.uptoBulk]
  · simp at e
    subst e
    obtain ⟨_, _, _, e2, h1, _⟩ := hr
    cases e2
    rw [h1]
    simp only [Rows.uptoBulk]
    have h2 := bulk_mul 33 ((List.range len).map D) (by
      intro y hy
      obtain ⟨i, hi, rfl⟩ := List.mem_map.1 hy
      obtain ⟨cs', _, h3⟩ := hx i (by have := List.mem_range.1 hi; simp only [if_true] at hmm; omega)
      exact dig_bulk h3)
    simp at h2
    omega
end
end Go.Proofs.YtfajlfcomhjnkaaDoor
