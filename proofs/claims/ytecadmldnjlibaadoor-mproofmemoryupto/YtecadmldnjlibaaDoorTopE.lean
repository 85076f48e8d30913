import Derived.Test.YtecadmldnjlibaaDoorTopD
import Derived.Test.YtecadmldnjlibaaDoorTopB
import Derived.Test.YtecadmldnjlibaaDoorRowz
import Derived.Deep.RegionHeld3
import Derived.Test.YtecadmldnjlibaaDoorTopC
import Derived.Test.YtecadmldnjlibaaDoorQTail
import Derived.Test.YtecadmldnjlibaaDoorQKeep
import Derived.Test.YtecadmldnjlibaaDoorBase
import Derived.Test.YtecadmldnjlibaaDoorCards
import Derived.Test.YtecadmldnjlibaaDoorTie
import Derived.ProofKit
import Derived.OpenShut
import Derived.Deep.Slices
import Derived.SizedLaws
import Derived.Test.YtecadmldnjlibaaDoorDForm
namespace Go.Proofs.YtecadmldnjlibaaDoor
open Go.RowKit Go.BigFrame
set_option linter.unusedVariables false
set_option linter.unusedSimpArgs false

set_option maxRecDepth 100000 in
set_option maxHeartbeats 1000000 in
/-- Lists that read alike are alike. -/
theorem samep_any (va vb : Value) (ds : List (List Nat)) (w : World) (ha : RdD w va ds) (hb : RdD w vb ds) :
    Calls Tryd.prog 21 #[va, vb] w fun e w' => e = .returned (.bool true) ∧ Kept [] w w' := by
  have HA := hide ha
  have HB := hide hb
  obtain ⟨aa, an, ac, rfl, a1, a2, a3, a4, a5⟩ := ha
  obtain ⟨ba, bn, bc, rfl, b1, b2, b3, b4, b5⟩ := hb
  subst a1
  subst b1
  clear a4 a5 b4 b5
  go_enter Tryd.func21, Tryd.ntmps21
  go_wp2_with fail
  go_loopw [5] (fun t5 wr => ∃ (i : Nat), i ≤ ds.length ∧ t5 = .int .i64 (i : Int) ∧ Hid (Kept [] w wr)) (fun t _ => ds.length - (intOf t).toNat)
  case atStart => exact ⟨0, Nat.zero_le _, rfl, hide (Kept.refl _ _)⟩
  case round =>
    obtain ⟨i, hi, rfl, HK⟩ := hrel
    by_cases hlt : i < ds.length
    · have hlt' : (i : Int) < (ds.length : Int) := by omega
      obtain ⟨b, o, rfl, hc⟩ := ((unhide HA).old (unhide HK)).range (by omega)
      obtain ⟨b', o', rfl, hc'⟩ := ((unhide HB).old (unhide HK)).range (by omega)
      have r1 := hc i hlt
      have r2 := hc' i hlt
      have hdg := (unhide HA).dg (d := ds.getD i []) (by rw [List.getD_eq_getElem?_getD, List.getElem?_eq_getElem hlt]; exact List.getElem_mem hlt)
      generalize ds.getD i [] = d at r1 r2 hdg
      have hdl := hdg.1
      have hq := fun W => dig_eq W d d hdl hdl
      rw [decide_eq_true rfl] at hq
      have ia : ¬ (i : Int) < 0 := by omega
      have ib : ¬ (ds.length : Int) ≤ i := by omega
      clear hc hc' hdg
      have hne : ∀ p : Prop, (∀ w', Kept [] wr w' → p) = p := fun p => propext ⟨fun h => h wr (Kept.refl [] wr), fun h _ _ => h⟩
      go_wp2_with fail
      refine wp_region_keep (by kernel_rfl) (by kernel_rfl) ?_
      iterate 3 (go_big_quiet_step (fail))
      refine wpQuiet_mid rfl 41 _ rfl b (o + i * 32) rfl (d.map u8) _ (fun w' hw' => range_kept r1 hw' (by simp)) Tryd.underlying41 rfl (by rw [List.length_map, hdl]; exact Tryd.size_dig) ?_
      simp only [Act.put, List.setIfInBounds_toArray, List.set_cons_succ, List.set_cons_zero]
      iterate 3 (go_big_quiet_step (fail))
      refine wpQuiet_mid rfl 41 _ rfl b' (o' + i * 32) rfl (d.map u8) _ (fun w' hw' => range_kept r2 hw' (by simp)) Tryd.underlying41 rfl (by rw [List.length_map, hdl]; exact Tryd.size_dig) ?_
      simp only [Act.put, List.setIfInBounds_toArray, List.set_cons_succ, List.set_cons_zero]
      refine wpQuiet_val rfl (.bool false) (fun w' _ => run_neq 41 _ _ _ rfl (d.map u8).toArray (d.map u8).toArray rfl rfl w' true (by kernel_rfl) (hq w')) ?_
      simp only [Act.put, List.setIfInBounds_toArray, List.set_cons_succ, List.set_cons_zero]
      refine wpQuiet_nil ?_
      intro w6 hw6
      have HK6 := hide ((unhide HK).trans hw6 (by simp))
      clear hw6 hne hq r1 r2
      go_wp2_with fail
      refine ⟨⟨i + 1, by omega, by simp, HK6⟩, ?_⟩
      simp [intOf]
      omega
    · have hlt' : ¬ (i : Int) < (ds.length : Int) := by omega
      go_wp2_with fail
      go_ret
      exact ⟨rfl, unhide HK⟩

theorem run_mid {P : Program} {op : Oper} {a : Act} (ty : TypeId) (x : Operand) (ho : op.op = .load ty x) (b off : Nat) (hx : a.eval x = .pointer (some ⟨b, off, none⟩)) (cs : List Value) (d : TypeDesc) (w : World) (hg : w.rangeAt b off cs)
    (hu : P.underlying ty = some d) (hd : d.isRow = true) (hi : (P.info? ty).map (·.size) = some cs.length) : (execOp a.eval op).run P w = .ok (.value (.agg cs.toArray)) w := by
  unfold execOp
  simp only [ho]
  have := run_loadVar_mid (P := P) w b off ty cs d hg hu hd hi
  simp only [hx, Instr.loadAt, Instr.sureAddr, Sem.run_bind, Sem.run_pure, Result.andThen_ok, this]

theorem wp_appendP {P : Program} {o : Oper} {a : Act} {w : World} {K : Act → World → Prop} {Q : Exit → Act → World → Prop} {s x : Operand} {t : TypeId} (ho : o.op = .call { callee := .builtin .append, args := #[s, x], argTypes := #[t, t] }) (hty : o.type = t) {v u r : Value} {w1 : World} (hs : a.eval s = v) (hx : a.eval x = u)
    (hrun : (Builtin.append_ #[t, t] t #[v, u]).run P w = .ok r w1) (hK : K (a.put o.dst r) w1) : o.wp P a w K Q := by
  unfold Oper.wp execOp
  simp only [ho, hty, resolve, invoke, builtin, Sem.run_bind, Sem.run_pure, Result.andThen_ok, List.map_toArray, List.map_cons, List.map_nil, hs, hx, hrun]
  exact hK

theorem upL_dg (z : Int) : ∀ (ls : List (List Nat)), (∀ d ∈ ls, Dg d) → ∀ d ∈ upL z ls, Dg d
  | [], _, d, hd => by simp [upL] at hd
  | [a], h, d, hd => h d (by simpa [upL] using hd)
  | a :: b :: r, h, d, hd => by
    rw [upL, List.mem_cons] at hd
    rcases hd with rfl | hd
    · exact nodS_dg z _ _
    · exact upL_dg z r (fun x hx => h x (by simp [hx])) d hd

set_option maxRecDepth 100000 in
set_option maxHeartbeats 1000000 in
theorem up_any (k : Nat) (hk : 1 ≤ k ∧ k ≤ 32) (lv : Value) (ls : List (List Nat)) (w : World) (hl : RdD w lv ls) (hN : ls.length ≤ 1000000) :
    Calls Tryd.prog 61 #[.int .i64 (k : Int), lv] w fun e w' => ∃ u, e = .returned u ∧ OwD w w' u (upL (k : Int) ls) := by
  have HL := hide hl
  have HDG := hide (fun d hd => hl.dg (d := d) hd)
  have HUL := hide (upL_len (k : Int) ls)
  obtain ⟨la, ll, lc, rfl, l1, l2, l3, l4, l5⟩ := hl
  subst l1
  have HC5 := hide (fun h => l5 h)
  clear l4 l5
  go_enter Tryd.func61, Tryd.ntmps61
  go_wp2_with fail
  go_loopw [5, 6] (fun t5 t6 wr => ∃ (j : Nat), 2 * j ≤ ls.length + 1 ∧ t6 = .int .i64 ((2 * j : Nat) : Int) ∧ Hid (OwD w wr t5 ((upL (k : Int) ls).take j))) (fun _ t _ => ls.length + 1 - (intOf t).toNat)
  case atStart => exact ⟨0, by omega, rfl, hide (OwD.nil _)⟩
  case round =>
    obtain ⟨j, hj, rfl, HO⟩ := hrel
    by_cases hlt : 2 * j < ls.length
    · obtain ⟨b, o, hla, hc⟩ := unhide HC5 (by omega)
      subst hla
      have HAT := hide (upL_at (k : Int) ls j)
      have r0 := hc (2 * j) hlt
      have hbw : b < w.heap.size := by
        have hd0 := (unhide HDG (ls.getD (2 * j) []) (by rw [List.getD_eq_getElem?_getD, List.getElem?_eq_getElem hlt]; exact List.getElem_mem hlt)).1
        cases hx : ls.getD (2 * j) [] with
        | nil => rw [hx] at hd0; simp at hd0
        | cons y r => rw [hx] at r0; exact block_lt_of_cell (r0 0 _ rfl)
      have HLN := hide (by rw [List.length_take]; omega : ((upL (k : Int) ls).take j).length ≤ j)
      have hdg0 := unhide HDG (ls.getD (2 * j) []) (by rw [List.getD_eq_getElem?_getD, List.getElem?_eq_getElem hlt]; exact List.getElem_mem hlt)
      obtain ⟨i, hij⟩ : ∃ i, 2 * j = i := ⟨_, rfl⟩
      rw [hij] at hlt r0 hdg0 HAT
      have HIJ := hide hij
      have hlt' : (i : Int) < (ls.length : Int) := by omega
      have ia : ¬ (i : Int) < 0 := by omega
      have ib : ¬ (ls.length : Int) ≤ i := by omega
      have hi1 : IntKind.i64.wrap ((i : Int) + 1) = (i : Int) + 1 := by simp [IntKind.wrap, IntKind.signed, IntKind.bits]; omega
      have hi2 : IntKind.i64.wrap ((i : Int) + 2) = (i : Int) + 2 := by simp [IntKind.wrap, IntKind.signed, IntKind.bits]; omega
      rw [hij]
      clear hij
      have r0 := range_kept r0 (unhide HO).kept (by simp)
      by_cases hbr : i + 1 < ls.length
      · have hbr' : (i : Int) + 1 < (ls.length : Int) := by omega
        have hdg1 := unhide HDG (ls.getD (i + 1) []) (by rw [List.getD_eq_getElem?_getD, List.getElem?_eq_getElem hbr]; exact List.getElem_mem hbr)
        have r1 := range_kept (hc (i + 1) hbr) (unhide HO).kept (by simp)
        rw [if_pos hbr] at HAT
        generalize ls.getD i [] = d0 at r0 hdg0 HAT
        generalize ls.getD (i + 1) [] = d1 at r1 hdg1 HAT
        have HSN := hide (by rw [List.take_add_one, unhide HAT]; rfl : (upL (k : Int) ls).take (j + 1) = (upL (k : Int) ls).take j ++ [nodS (k : Int) d0 d1])
        have ic : ¬ (i : Int) + 1 < 0 := by omega
        have id' : ¬ (ls.length : Int) ≤ (i : Int) + 1 := by omega
        have HND := hide (fun W => refNode_any k d0 d1 W hk hdg0 hdg1)
        have HDX := hide (nodS_dg (k : Int) d0 d1)
        generalize nodS (k : Int) d0 d1 = X at HND HDX HSN
        generalize (upL (k : Int) ls).take j = ds at HO HSN HLN
        obtain ⟨ua, ucap, rfl⟩ := owns_form (unhide HO).own
        have hxl := (unhide HDX).1
        have h0l := hdg0.1
        have h1l := hdg1.1
        have HR0 := hide r0
        have HR1 := hide r1
        have hnb : b ∉ (Value.slice ua ds.length ucap).ownBlock.toList := by
          intro hm
          have := ((unhide HO).own.lt b (by simpa using hm)).1
          omega
        clear hc r0 r1 HAT
        go_wp2_with fail
        refine wp_mu15 (by kernel_rfl) (by kernel_rfl) (by kernel_rfl) (by kernel_rfl) (by kernel_rfl) (by kernel_rfl) (by kernel_rfl) (by kernel_rfl) (by kernel_rfl) (by kernel_rfl) (by kernel_rfl) (by kernel_rfl) (by kernel_rfl) (by kernel_rfl) (by kernel_rfl) (by kernel_rfl) (by kernel_rfl) (by kernel_rfl) (by kernel_rfl) (by kernel_rfl) (by kernel_rfl) (by kernel_rfl) (by kernel_rfl) (by kernel_rfl) (by kernel_rfl) (by kernel_rfl) (by kernel_rfl) (by kernel_rfl) (by kernel_rfl) (by kernel_rfl) rfl rfl rfl
          (.slice ua ds.length ucap) (.int .i64 (k : Int)) (.slice (some ⟨b, o, none⟩) ls.length lc) (.int .i64 (i : Int)) (.pointer (some ⟨b, o + i * 32, none⟩)) (.agg (d0.map Go.Proofs.YtecadmldnjlibaaDoor.u8).toArray) (.slice (some ⟨b, o, none⟩) ls.length lc) (.int .i64 (i : Int)) (.int .i64 ((i : Int) + 1)) (.pointer (some ⟨b, o + (i + 1) * 32, none⟩)) (.agg (d1.map Go.Proofs.YtecadmldnjlibaaDoor.u8).toArray) _ _ _ _ _ _ _ _ _ _ _
          (fun w' => Kept (Value.slice ua ds.length ucap).ownBlock.toList wr w')
          (fun w' => Kept [] wr w')
          (fun u11 w' => u11 = .agg (X.map Go.Proofs.YtecadmldnjlibaaDoor.u8).toArray ∧ Kept [] wr w')
          (fun u11 u12 w' => u11 = .agg (X.map Go.Proofs.YtecadmldnjlibaaDoor.u8).toArray ∧ (∃ H, u12 = .slice (some ⟨H, 0, none⟩) 1 1 ∧ w'.heap[H]? = some (.cells (brow X) 41 (0, 0))) ∧ Kept [] wr w')
          (fun u11 u12 u13 w' => (∃ aa cc, u13 = .slice aa (ds.length + 1) cc) ∧ OwD w w' u13 (ds ++ [X]) ∧ Kept (Value.slice ua ds.length ucap).ownBlock.toList wr w')
          (fun u13 => u13)
          (by simp only [Act.put, List.setIfInBounds_toArray, List.set_cons_zero, List.set_cons_succ]; rfl) (by exact Or.inl ⟨by rfl, fun W' hW' => by go_simp⟩)
          (by simp only [Act.put, List.setIfInBounds_toArray, List.set_cons_zero, List.set_cons_succ]; rfl) (by exact Or.inl ⟨by rfl, fun W' hW' => by go_simp⟩)
          (by simp only [Act.put, List.setIfInBounds_toArray, List.set_cons_zero, List.set_cons_succ]; rfl) (by exact Or.inl ⟨by rfl, fun W' hW' => by go_simp⟩)
          (by simp only [Act.put, List.setIfInBounds_toArray, List.set_cons_zero, List.set_cons_succ]; rfl) (by exact Or.inl ⟨by rfl, fun W' hW' => by go_simp⟩)
          (by simp only [Act.put, List.setIfInBounds_toArray, List.set_cons_zero, List.set_cons_succ]; rfl) (by exact Or.inl ⟨by rfl, fun W' hW' => by go_simp⟩)
          (by simp only [Act.put, List.setIfInBounds_toArray, List.set_cons_zero, List.set_cons_succ]; rfl) (by exact Or.inl ⟨by rfl, fun W' hW' => run_mid 41 (.tmp 22) rfl b (o + i * 32) rfl (d0.map Go.Proofs.YtecadmldnjlibaaDoor.u8) _ W' (range_kept (unhide HR0) hW' hnb) Tryd.underlying41 rfl (by rw [List.length_map, h0l]; exact Tryd.size_dig)⟩)
          (by simp only [Act.put, List.setIfInBounds_toArray, List.set_cons_zero, List.set_cons_succ]; rfl) (by exact Or.inl ⟨by rfl, fun W' hW' => by go_simp⟩)
          (by simp only [Act.put, List.setIfInBounds_toArray, List.set_cons_zero, List.set_cons_succ]; rfl) (by exact Or.inl ⟨by rfl, fun W' hW' => by go_simp⟩)
          (by simp only [Act.put, List.setIfInBounds_toArray, List.set_cons_zero, List.set_cons_succ]; rfl) (by exact Or.inl ⟨by rfl, fun W' hW' => by go_simp⟩)
          (by simp only [Act.put, List.setIfInBounds_toArray, List.set_cons_zero, List.set_cons_succ]; rfl) (by exact Or.inl ⟨by rfl, fun W' hW' => by go_simp⟩)
          (by simp only [Act.put, List.setIfInBounds_toArray, List.set_cons_zero, List.set_cons_succ]; rfl) (by exact Or.inl ⟨by rfl, fun W' hW' => run_mid 41 (.tmp 27) rfl b (o + (i + 1) * 32) rfl (d1.map Go.Proofs.YtecadmldnjlibaaDoor.u8) _ W' (range_kept (unhide HR1) hW' hnb) Tryd.underlying41 rfl (by rw [List.length_map, h1l]; exact Tryd.size_dig)⟩)
          (Kept.refl [] wr).drew
          ⟨fun w' h => h.mono (by simp), fun u w' h => h.2.mono (by simp), fun u y w' h => h.2.2.mono (by simp), fun u y x w' h => h.2.2⟩
          (by intro w' i9 K hK; exact wp_callN rfl Tryd.call30 [.int .i64 (k : Int), .agg (brow d0), .agg (brow d1)] rfl (unhide HND w') (fun e w2 h => ⟨_, h.1, hK _ _ ⟨rfl, i9.trans h.2 (by simp)⟩⟩))
          (by
            intro u11 w' hh K hK
            simp only [Act.put, List.setIfInBounds_toArray, List.set_cons_zero, List.set_cons_succ] at hK ⊢
            obtain ⟨rfl, i9⟩ := hh
            have hfs : ∀ A : Array Value, (List.foldl (fun cs x => cs.setIfInBounds x.snd x.fst) A (List.map Go.Proofs.YtecadmldnjlibaaDoor.u8 X).zipIdx).size = A.size := fun A => fold_size _ A 0
            unfold Oper.wp execOp
            go_simp
            rw [zb32, one_digP X hxl]
            exact hK _ _ ⟨rfl, ⟨_, rfl, heap_alloc_new _ _⟩, i9.alloc _⟩)
          (by
            intro u11 u12 w' hh K hK
            simp only [Act.put, List.setIfInBounds_toArray, List.set_cons_zero, List.set_cons_succ] at hK ⊢
            obtain ⟨rfl, ⟨H, rfl, hH⟩, i9⟩ := hh
            have hO := (unhide HO).pass i9
            obtain ⟨ao1, cap1, w1, hrun, h2, h3⟩ := appendD w' w.heap.size (.slice ua ds.length ucap) ds [X] (some ⟨H, 0, none⟩) 1 1 hO.own (RdD.oneP hH (unhide HDX)) (by have := unhide HLN; simp; omega) hO.kept.size
            exact wp_appendP rfl rfl rfl rfl hrun (hK _ _ ⟨⟨_, _, rfl⟩, hO.push (unhide HDX) h2 h3, (i9.mono (by simp)).grown h3 (by intro k hk; left; simp [hk])⟩))
          (by rintro u11 u12 u13 w' ⟨⟨aa, cc, rfl⟩, _⟩; exact Or.inl ⟨by rfl, fun W' hW' => by go_simp⟩)
          ?_
        rintro u11 u12 u13 X4 ⟨⟨aa, cc, rfl⟩, hO4, k4⟩
        simp only [Act.put, List.setIfInBounds_toArray, List.set_cons_zero, List.set_cons_succ]
        have HO4 := hide hO4
        clear hO4 k4
        go_wp2_with (first | simp only [hi2])
        refine ⟨⟨j + 1, by have := unhide HIJ; omega, by have := unhide HIJ; simp; omega, by rw [unhide HSN]; exact HO4⟩, ?_⟩
        simp [intOf]
        omega
      · have hbr' : ¬ (i : Int) + 1 < (ls.length : Int) := by omega
        rw [if_neg hbr, if_pos hlt] at HAT
        generalize ls.getD i [] = X at r0 hdg0 HAT
        have HSN := hide (by rw [List.take_add_one, unhide HAT]; rfl : (upL (k : Int) ls).take (j + 1) = (upL (k : Int) ls).take j ++ [X])
        generalize (upL (k : Int) ls).take j = ds at HO HSN HLN
        obtain ⟨ua, ucap, rfl⟩ := owns_form (unhide HO).own
        have HDX := hide hdg0
        have hxl := hdg0.1
        have HR0 := hide r0
        have HOC := hide ((unhide HO).pass ((Kept.refl [] wr).alloc (.cells (brow X) 41)))
        have HNC := hide (heap_alloc_new wr (.cells (brow X) 41))
        clear hc r0 HAT hdg0
        go_wp2_with (first
          | simp only [hi2]
          | (refine wpList_load_mid rfl 41 _ rfl b (o + i * 32) rfl (X.map Go.Proofs.YtecadmldnjlibaaDoor.u8) _ (unhide HR0) Tryd.underlying41 rfl (by rw [List.length_map, hxl]; exact Tryd.size_dig) ?_)
          | (at_builtin; rw [zb32, one_digP X hxl]; refine wpList_appendD rfl _ _ rfl rfl (wr.alloc (.cells (brow X) 41)) w.heap.size (.slice ua ds.length ucap) ds [X] (some ⟨wr.heap.size, 0, none⟩) 1 1 (unhide HOC).own (RdD.oneP (unhide HNC) (unhide HDX)) (by have := unhide HLN; simp; omega) (unhide HOC).kept.size rfl rfl ?_; intro ao3 cap3 w3 HO3 HG3; have HO4 := hide ((unhide HOC).push (unhide HDX) (unhide HO3) (unhide HG3)); clear HO3 HG3))
        refine ⟨⟨j + 1, by have := unhide HIJ; omega, by have := unhide HIJ; simp; omega, by rw [unhide HSN]; exact HO4⟩, ?_⟩
        simp [intOf]
        omega
    · have hlt' : ¬ ((2 * j : Nat) : Int) < (ls.length : Int) := by omega
      have HE := hide (by rw [List.take_of_length_le (by rw [unhide HUL]; omega)] : (upL (k : Int) ls).take j = upL (k : Int) ls)
      rw [unhide HE] at HO
      go_wp2_with fail
      go_ret
      exact ⟨_, rfl, unhide HO⟩
end Go.Proofs.YtecadmldnjlibaaDoor
namespace Go.Proofs.YtecadmldnjlibaaDoor
open Go.RowKit Go.BigFrame
set_option linter.unusedVariables false
set_option linter.unusedSimpArgs false

def lenV : Value → Nat
  | .slice _ n _ => n
  | _ => 0
theorem RdD.keptP {L : List Nat} {w w' : World} {v : Value} {ds : List (List Nat)} (h : RdD w v ds) (k : Kept L w w') (hn : ∀ b ∈ blk v, b ∉ L) : RdD w' v ds := by
  obtain ⟨ao, len, cap, rfl, h1, h2, h3, h4, h5⟩ := h
  refine ⟨ao, len, cap, rfl, h1, h2, h3, h4, fun hp => ?_⟩
  obtain ⟨b, o, rfl, hc⟩ := h5 hp
  exact ⟨b, o, rfl, fun i hi => range_kept (hc i hi) k (hn b (by simp [blk]))⟩
theorem OwD.bk {w0 w : World} {v : Value} {ds : List (List Nat)} (h : OwD w0 w v ds) : ∀ b ∈ blk v, w0.heap.size ≤ b := by
  intro b hb
  rcases h.own.2 with ⟨rfl, _⟩ | ⟨g, cap, cur, rfl, hg, _⟩
  · simp [blk] at hb
  · simp [blk] at hb; omega
theorem lvN_le (N h : Nat) : lvN N h ≤ N := by
  rcases Nat.lt_or_ge N (lvN N h) with h1 | h1
  · have h2 := lt_lvN.1 h1
    have h3 : 1 ≤ 2 ^ h := Nat.one_le_two_pow
    have := Nat.le_mul_of_pos_right N (show 0 < 2 ^ h by omega)
    omega
  · exact h1
/-- The digests of an inclusion proof up to a height. -/
def ptD (z : Int) (L : List (List Nat)) (i h : Nat) : List (List Nat) := (levs L.length i h).map fun s => rngD z (noT z) L s.1 s.2
theorem ptD_some {z : Int} {L : List (List Nat)} {i h : Nat} (hb : broN i h * 2 ^ h < L.length) : ptD z L i (h + 1) = ptD z L i h ++ [(lvl z (noT z) L h).getD (broN i h) []] := by
  unfold ptD
  rw [levs_succ, List.map_append, lvl_getD hb]
  unfold broS
  rw [if_pos hb]
  rfl
theorem ptD_none {z : Int} {L : List (List Nat)} {i h : Nat} (hb : ¬ broN i h * 2 ^ h < L.length) : ptD z L i (h + 1) = ptD z L i h := by
  unfold ptD
  rw [levs_succ]
  unfold broS
  rw [if_neg hb]
  simp
theorem ptD_len (z : Int) (L : List (List Nat)) (i h : Nat) : (ptD z L i h).length ≤ h := by
  unfold ptD levs
  rw [List.length_map]
  refine Nat.le_trans (List.length_filterMap_le _ _) ?_
  simp
theorem ptD_end {z : Int} {L : List (List Nat)} {i h : Nat} (hi : i < L.length) (hN : L.length ≤ 2 ^ h) (hh : h ≤ 64) : ptD z L i h = ptD z L i 64 := by
  unfold ptD
  have := levs_stop hi hN (64 - h)
  rw [show h + (64 - h) = 64 by omega] at this
  rw [this]

set_option maxRecDepth 100000 in
set_option maxHeartbeats 1000000 in
theorem refPath_any (k : Nat) (hk : 1 ≤ k ∧ k ≤ 32) (lv : Value) (L : List (List Nat)) (i : Nat) (w : World) (hl : RdD w lv L) (hi : i < L.length) (hN : L.length ≤ 1000000) :
    Calls Tryd.prog 45 #[.int .i64 (k : Int), lv, .int .i64 (i : Int)] w fun e w' => ∃ u, e = .returned u ∧ OwD w w' u (ptD (k : Int) L i 64) := by
  have HL := hide hl
  have hlz : lvl (k : Int) (noT (k : Int)) L 0 = L := lvl_zero _ _ _
  have HLZ := hide hlz
  go_enter Tryd.func45, Tryd.ntmps45
  obtain ⟨la, ll, lc, rfl, -⟩ := hl
  clear hlz
  go_wp2_with fail
  go_loopw [2, 7, 8] (fun t2 t7 t8 wr => ∃ (h : Nat), h ≤ 60 ∧ t2 = .int .i64 ((i / 2 ^ h : Nat) : Int) ∧ Hid (OwD w wr t7 (ptD (k : Int) L i h)) ∧ Hid (RdD wr t8 (lvl (k : Int) (noT (k : Int)) L h)) ∧ Hid (∀ b ∈ blk t8, t7.ownBlock ≠ some b)) (fun _ _ t _ => lenV t)
  case atStart => exact ⟨0, by omega, by simp, hide (by unfold ptD levs; exact OwD.nil _), hide (by rw [unhide HLZ]; exact unhide HL), hide (by intro b _; simp [Value.ownBlock])⟩
  case round =>
    obtain ⟨h, hh, rfl, HO, HR, HNE⟩ := hrel
    have hll := lvl_len (k : Int) (noT (k : Int)) L h
    have HLU := hide (lvl_up (k : Int) (noT (k : Int)) L h)
    have HLV1 := hide (lvN_up L.length h)
    have HBS := hide (fun hb => ptD_some (z := (k : Int)) (L := L) (i := i) (h := h) hb)
    have HBN := hide (fun hb => ptD_none (z := (k : Int)) (L := L) (i := i) (h := h) hb)
    have HPL := hide (ptD_len (k : Int) L i h)
    have HPE := hide (fun hN => ptD_end (z := (k : Int)) (L := L) (i := i) (h := h) hi hN (by omega))
    have HLT := hide (fun b => lt_lvN (N := L.length) (h := h) (b := b))
    have HQ2 := hide (by rw [Nat.pow_succ, ← Nat.div_div_eq_div_mul] : i / 2 ^ (h + 1) = i / 2 ^ h / 2)
    have hqi : i / 2 ^ h ≤ 1000000 := Nat.le_trans (Nat.div_le_self _ _) (by omega)
    have HBRN := hide (by unfold broN; rfl : broN i h = if i / 2 ^ h % 2 = 0 then i / 2 ^ h + 1 else i / 2 ^ h - 1)
    obtain ⟨va, vn, vc, rfl, v1, v2, v3, -⟩ := id (unhide HR)
    have hvn : vn = lvN L.length h := by rw [← hll, v1]
    have HVN := hide hvn
    have HUP := hide (fun W (hr : RdD W (.slice va vn vc) (lvl (k : Int) (noT (k : Int)) L h)) => up_any k hk (.slice va vn vc) _ W hr (by rw [v1, hvn]; exact Nat.le_trans (lvN_le _ _) hN))
    rw [unhide HLU] at HUP
    have HLL := hide (lvl_len (k : Int) (noT (k : Int)) L (h + 1))
    have HDGL := hide (fun d hd => (unhide HR).dg (d := d) hd)
    have hvb : vn ≤ 1000000 := by rw [hvn]; exact Nat.le_trans (lvN_le _ _) hN
    have HH := hide (fun (hv : 1 < vn) => (by
      rcases Nat.lt_or_ge h 20 with h9 | h9
      · exact h9
      · have h8 := lt_lvN.1 (by rw [← hvn]; exact hv : 1 < lvN L.length h)
        have : 2 ^ 20 ≤ 2 ^ h := Nat.pow_le_pow_right (by omega) h9
        omega : h < 20))
    have HV1 := hide v1
    clear v1 hvn hll
    obtain ⟨q, hq⟩ : ∃ q, i / 2 ^ h = q := ⟨_, rfl⟩
    rw [hq] at HQ2 hqi HBRN
    have HQH := hide (by rw [unhide HQ2]; omega : ((i / 2 ^ (h + 1) : Nat) : Int) = (q : Int) / 2)
    rw [hq]
    clear hq
    by_cases hg : 1 < vn
    · have hg' : (1 : Int) < (vn : Int) := by omega
      have hh1 : h + 1 ≤ 60 := by have := unhide HH hg; omega
      obtain ⟨bn, hbn⟩ : ∃ bn, broN i h = bn := ⟨_, rfl⟩
      have hbn2 : bn = if q % 2 = 0 then q + 1 else q - 1 := by rw [← hbn]; exact unhide HBRN
      rw [hbn] at HBS HBN
      have HVN2 := unhide HVN
      have HLTB := hide ((unhide HLT bn))
      rw [← HVN2] at HLTB
      generalize lvl (k : Int) (noT (k : Int)) L h = lev at HR HUP HDGL HV1 HBS
      generalize hlev2 : lvl (k : Int) (noT (k : Int)) L (h + 1) = lev2 at HUP HLL
      have HLEV2 := hide hlev2
      clear hlev2 hbn HBRN HLU HPE HLT
      have HME := hide (by rw [unhide HLL, unhide HLV1, ← HVN2]; omega : lev2.length < vn)
      clear HVN2
      rcases (by omega : q % 2 = 0 ∨ q % 2 = 1) with hpar | hpar
      · have hz : (q : Int) % 2 = 0 := by omega
        have hz2 : (q : Int).tmod 2 = 0 := by rw [Int.tmod_eq_emod_of_nonneg (by omega)]; exact hz
        rw [if_pos hpar] at hbn2
        subst hbn2
        by_cases hbl : q + 1 < vn
        · have hbl' : (q : Int) + 1 < (vn : Int) := by omega
          have ic : ¬ (q : Int) + 1 < 0 := by omega
          have id' : ¬ (vn : Int) ≤ (q : Int) + 1 := by omega
          have hlv : q + 1 < lev.length := by rw [unhide HV1]; exact hbl
          obtain ⟨b, o, rfl, hc⟩ := (unhide HR).range (by omega)
          have HC := hide (hc (q + 1) hlv)
          have HDX := hide (unhide HDGL (lev.getD (q + 1) []) (by rw [List.getD_eq_getElem?_getD, List.getElem?_eq_getElem hlv]; exact List.getElem_mem hlv))
          have HSN := hide (unhide HBS ((unhide HLTB).1 hbl))
          generalize lev.getD (q + 1) [] = X at HC HDX HSN
          generalize ptD (k : Int) L i h = ds at HO HSN HPL
          obtain ⟨ua, ucap, rfl⟩ := owns_form (unhide HO).own
          have hxl := (unhide HDX).1
          have HOC := hide ((unhide HO).pass ((Kept.refl [] wr).alloc (.cells (brow X) 41)))
          have HNC := hide (heap_alloc_new wr (.cells (brow X) 41))
          have HRC := hide ((unhide HR).old ((Kept.refl [] wr).alloc (.cells (brow X) 41)))
          clear hc HBS HBN HLTB HDGL HR
          go_wp2_with (first
            | (refine wpList_load_mid rfl 41 _ rfl b (o + (q + 1) * 32) rfl (X.map Go.Proofs.YtecadmldnjlibaaDoor.u8) _ (unhide HC) Tryd.underlying41 rfl (by rw [List.length_map, hxl]; exact Tryd.size_dig) ?_)
            | (at_builtin; rw [zb32, one_digP X hxl]; refine wpList_appendD rfl _ _ rfl rfl (wr.alloc (.cells (brow X) 41)) w.heap.size (.slice ua ds.length ucap) ds [X] (some ⟨wr.heap.size, 0, none⟩) 1 1 (unhide HOC).own (RdD.oneP (unhide HNC) (unhide HDX)) (by have := unhide HPL; simp; omega) (unhide HOC).kept.size rfl rfl ?_; intro ao3 cap3 w3 HO3 HG3; have HO4 := hide ((unhide HOC).push (unhide HDX) (unhide HO3) (unhide HG3)); have HR3 := hide ((unhide HRC).keptP ((Kept.refl (Value.slice ua ds.length ucap).ownBlock.toList _).grown (unhide HG3) (by intro k hk; left; simp [hk])) (by intro b9 hb9 hm; exact unhide HNE b9 hb9 (by simpa using hm))); clear HO3 HG3))
          refine (unhide HUP w3 (unhide HR3)).mono ?_
          rintro e w4 ⟨u, rfl, o4⟩
          obtain ⟨u4, c4, rfl⟩ := o4.form
          have HO5 := hide ((unhide HO4).pass o4.kept)
          have HR5 := hide o4.rd
          have HN5 := hide (by intro b9 hb9 e9; have h1 := o4.bk b9 hb9; have h2 := ((unhide HO4).own.lt b9 e9).2; omega : ∀ b ∈ blk (.slice u4 lev2.length c4), (Value.slice ao3 (ds.length + [X].length) cap3).ownBlock ≠ some b)
          clear o4 HO4 HR3 HUP
          go_wp2_with fail
          go_roundw
          case rel => exact ⟨h + 1, hh1, by rw [unhide HQH], by rw [unhide HSN]; exact HO5, by rw [unhide HLEV2]; exact HR5, HN5⟩
          case measure => simp only [lenV]; exact unhide HME
        · have hbl' : ¬ (q : Int) + 1 < (vn : Int) := by omega
          have HSN := hide (unhide HBN (fun hx => hbl ((unhide HLTB).2 hx)))
          clear HBS HBN HLTB HDGL
          go_wp2_with fail
          refine (unhide HUP wr (unhide HR)).mono ?_
          rintro e w4 ⟨u, rfl, o4⟩
          obtain ⟨u4, c4, rfl⟩ := o4.form
          have HO5 := hide ((unhide HO).pass o4.kept)
          have HR5 := hide o4.rd
          have HN5 := hide (by intro b9 hb9 e9; have h1 := o4.bk b9 hb9; have h2 := ((unhide HO).own.lt b9 e9).2; omega : ∀ b ∈ blk (.slice u4 lev2.length c4), u7.ownBlock ≠ some b)
          clear o4 HO HUP
          go_wp2_with fail
          go_roundw
          case rel => exact ⟨h + 1, hh1, by rw [unhide HQH], by rw [unhide HSN]; exact HO5, by rw [unhide HLEV2]; exact HR5, HN5⟩
          case measure => simp only [lenV]; exact unhide HME
      · have hz : (q : Int) % 2 = 1 := by omega
        have hz2 : (q : Int).tmod 2 = 1 := by rw [Int.tmod_eq_emod_of_nonneg (by omega)]; exact hz
        rw [if_neg (by omega)] at hbn2
        subst hbn2
        by_cases hbl : q - 1 < vn
        · have hbl' : (q : Int) - 1 < (vn : Int) := by omega
          have ic : ¬ (q : Int) - 1 < 0 := by omega
          have id' : ¬ (vn : Int) ≤ (q : Int) - 1 := by omega
          have hlv : q - 1 < lev.length := by rw [unhide HV1]; exact hbl
          obtain ⟨b, o, rfl, hc⟩ := (unhide HR).range (by omega)
          have HC := hide (hc (q - 1) hlv)
          have HDX := hide (unhide HDGL (lev.getD (q - 1) []) (by rw [List.getD_eq_getElem?_getD, List.getElem?_eq_getElem hlv]; exact List.getElem_mem hlv))
          have HSN := hide (unhide HBS ((unhide HLTB).1 hbl))
          generalize lev.getD (q - 1) [] = X at HC HDX HSN
          generalize ptD (k : Int) L i h = ds at HO HSN HPL
          obtain ⟨ua, ucap, rfl⟩ := owns_form (unhide HO).own
          have hxl := (unhide HDX).1
          have HOC := hide ((unhide HO).pass ((Kept.refl [] wr).alloc (.cells (brow X) 41)))
          have HNC := hide (heap_alloc_new wr (.cells (brow X) 41))
          have HRC := hide ((unhide HR).old ((Kept.refl [] wr).alloc (.cells (brow X) 41)))
          clear hc HBS HBN HLTB HDGL HR
          go_wp2_with (first
            | (refine wpList_load_mid rfl 41 _ rfl b (o + (q - 1) * 32) rfl (X.map Go.Proofs.YtecadmldnjlibaaDoor.u8) _ (unhide HC) Tryd.underlying41 rfl (by rw [List.length_map, hxl]; exact Tryd.size_dig) ?_)
            | (at_builtin; rw [zb32, one_digP X hxl]; refine wpList_appendD rfl _ _ rfl rfl (wr.alloc (.cells (brow X) 41)) w.heap.size (.slice ua ds.length ucap) ds [X] (some ⟨wr.heap.size, 0, none⟩) 1 1 (unhide HOC).own (RdD.oneP (unhide HNC) (unhide HDX)) (by have := unhide HPL; simp; omega) (unhide HOC).kept.size rfl rfl ?_; intro ao3 cap3 w3 HO3 HG3; have HO4 := hide ((unhide HOC).push (unhide HDX) (unhide HO3) (unhide HG3)); have HR3 := hide ((unhide HRC).keptP ((Kept.refl (Value.slice ua ds.length ucap).ownBlock.toList _).grown (unhide HG3) (by intro k hk; left; simp [hk])) (by intro b9 hb9 hm; exact unhide HNE b9 hb9 (by simpa using hm))); clear HO3 HG3))
          refine (unhide HUP w3 (unhide HR3)).mono ?_
          rintro e w4 ⟨u, rfl, o4⟩
          obtain ⟨u4, c4, rfl⟩ := o4.form
          have HO5 := hide ((unhide HO4).pass o4.kept)
          have HR5 := hide o4.rd
          have HN5 := hide (by intro b9 hb9 e9; have h1 := o4.bk b9 hb9; have h2 := ((unhide HO4).own.lt b9 e9).2; omega : ∀ b ∈ blk (.slice u4 lev2.length c4), (Value.slice ao3 (ds.length + [X].length) cap3).ownBlock ≠ some b)
          clear o4 HO4 HR3 HUP
          go_wp2_with fail
          go_roundw
          case rel => exact ⟨h + 1, hh1, by rw [unhide HQH], by rw [unhide HSN]; exact HO5, by rw [unhide HLEV2]; exact HR5, HN5⟩
          case measure => simp only [lenV]; exact unhide HME
        · have hbl' : ¬ (q : Int) - 1 < (vn : Int) := by omega
          have HSN := hide (unhide HBN (fun hx => hbl ((unhide HLTB).2 hx)))
          clear HBS HBN HLTB HDGL
          go_wp2_with fail
          refine (unhide HUP wr (unhide HR)).mono ?_
          rintro e w4 ⟨u, rfl, o4⟩
          obtain ⟨u4, c4, rfl⟩ := o4.form
          have HO5 := hide ((unhide HO).pass o4.kept)
          have HR5 := hide o4.rd
          have HN5 := hide (by intro b9 hb9 e9; have h1 := o4.bk b9 hb9; have h2 := ((unhide HO).own.lt b9 e9).2; omega : ∀ b ∈ blk (.slice u4 lev2.length c4), u7.ownBlock ≠ some b)
          clear o4 HO HUP
          go_wp2_with fail
          go_roundw
          case rel => exact ⟨h + 1, hh1, by rw [unhide HQH], by rw [unhide HSN]; exact HO5, by rw [unhide HLEV2]; exact HR5, HN5⟩
          case measure => simp only [lenV]; exact unhide HME
    · have hg' : ¬ (1 : Int) < (vn : Int) := by omega
      have HE := hide (unhide HPE (by
        rcases Nat.lt_or_ge (2 ^ h) L.length with h9 | h9
        · have := lt_lvN.2 (by omega : 1 * 2 ^ h < L.length)
          have := unhide HVN
          omega
        · exact h9))
      rw [unhide HE] at HO
      go_wp2_with fail
      go_ret
      exact ⟨_, rfl, unhide HO⟩
end Go.Proofs.YtecadmldnjlibaaDoor
namespace Go.Proofs.YtecadmldnjlibaaDoor
open Go.RowKit Go.BigFrame
set_option linter.unusedVariables false
set_option linter.unusedSimpArgs false

set_option maxRecDepth 100000 in
set_option maxHeartbeats 1000000 in
theorem docIncl_any (k : Nat) (hk : 1 ≤ k ∧ k ≤ 32) (lv : Value) (L : List (List Nat)) (i n : Nat) (w : World) (hl : RdD w lv L) (hN : L.length ≤ 1000000) (hn64 : n < 18446744073709551616) :
    Calls Tryd.prog 25 #[.int .i64 (k : Int), lv, .int .u64 (i : Int), .int .u64 (n : Int)] w fun e w' => ∃ u, e = .returned (.tuple #[u, .int .i64 (inE L i n)]) ∧ OwD w w' u (inD (k : Int) L i n) := by
  have HL := hide hl
  obtain ⟨la, ll, lc, rfl, l1, l2, l3, -⟩ := id hl
  have hcv : IntKind.u64.wrap (ll : Int) = (ll : Int) := by rw [wrM]; omega
  by_cases h1 : n ≤ i
  · have h1' : (n : Int) ≤ (i : Int) := by omega
    have hE : inE L i n = 4 := by unfold inE; rw [if_pos (Or.inl h1)]
    have hD : inD (k : Int) L i n = [] := by unfold inD; rw [if_pos (Or.inl h1)]
    rw [hE, hD]
    clear hE hD hl l1
    go_enter Tryd.func25, Tryd.ntmps25
    go_wp2_with fail
    all_goals exact ⟨rfl, _, results_tmp2 rfl _ _ _, _, rfl, OwD.nil _⟩
  · have h1' : ¬ (n : Int) ≤ (i : Int) := by omega
    by_cases h2 : ll < n
    · have h2' : (ll : Int) < (n : Int) := by omega
      have hE : inE L i n = 4 := by unfold inE; rw [if_pos (Or.inr (by omega))]
      have hD : inD (k : Int) L i n = [] := by unfold inD; rw [if_pos (Or.inr (by omega))]
      rw [hE, hD]
      clear hE hD hl l1
      go_enter Tryd.func25, Tryd.ntmps25
      go_wp2_with (simp only [hcv])
      all_goals exact ⟨rfl, _, results_tmp2 rfl _ _ _, _, rfl, OwD.nil _⟩
    · have h2' : ¬ (ll : Int) < (n : Int) := by omega
      have hE : inE L i n = 0 := by unfold inE; rw [if_neg (by omega)]
      have HP := hide (refPath_any k hk (.slice la n lc) (L.take n) i w (hl.upto n (by omega)) (by rw [List.length_take]; omega) (by rw [List.length_take]; omega))
      have hD : inD (k : Int) L i n = ptD (k : Int) (L.take n) i 64 := by
        rw [inD_levs (by omega) (by omega) hn64]
        unfold ptD
        rw [List.length_take, Nat.min_eq_left (by omega)]
      rw [hE, hD]
      have hci : IntKind.i64.wrap (i : Int) = (i : Int) := by simp [IntKind.wrap, IntKind.signed, IntKind.bits]; omega
      have hnl : n ≤ ll := by omega
      have hnc : ¬ (lc : Int) < (n : Int) := by omega
      have hnc2 : n ≤ lc := by omega
      generalize ptD (k : Int) (L.take n) i 64 = ds at HP ⊢
      clear hE hD hl l1
      go_enter Tryd.func25, Tryd.ntmps25
      go_wp2_with (first | simp only [hcv] | simp only [hci])
      refine (unhide HP).mono ?_
      rintro e w1 ⟨u, rfl, o1⟩
      have HO := hide o1
      clear o1
      go_wp2_with fail
      exact ⟨rfl, _, results_tmp2 rfl _ _ _, u, rfl, unhide HO⟩
end Go.Proofs.YtecadmldnjlibaaDoor
namespace Go.Proofs.YtecadmldnjlibaaDoor
open Go.RowKit Go.BigFrame
set_option linter.unusedVariables false
set_option linter.unusedSimpArgs false

theorem seamF_shift (k m : Nat) : ∀ (c lo hi : Nat) (wh : Bool), seamF (m + k) c (lo + k) (hi + k) wh = (seamF m c lo hi wh).map fun s => (s.1 + k, s.2 + k)
  | 0, lo, hi, wh => by unfold seamF; split <;> rfl
  | c + 1, lo, hi, wh => by
    have e : hi + k - (lo + k) = hi - lo := by omega
    by_cases h : m = hi
    · rw [seamF_end (by omega), seamF_end h]; split <;> rfl
    · by_cases h2 : m ≤ lo + belT (hi - lo)
      · rw [seamF_l h h2, seamF_l (by omega) (by rw [e]; omega), e, List.map_append, ← seamF_shift k m c, show lo + k + belT (hi - lo) = lo + belT (hi - lo) + k by omega]; rfl
      · rw [seamF_r h h2, seamF_r (by omega) (by rw [e]; omega), e, List.map_append, ← seamF_shift k m c, show lo + k + belT (hi - lo) = lo + belT (hi - lo) + k by omega]; rfl
/-- RFC 6962's SUBPROOF. -/
def sbD (z : Int) (L : List (List Nat)) (c m : Nat) (wh : Bool) : List (List Nat) := (seamF m c 0 L.length wh).map fun s => rngD z (noT z) L s.1 s.2
theorem rngD_all (z : Int) (no : List Nat) (L : List (List Nat)) : rngD z no L 0 L.length = logT z no L := by
  unfold rngD
  rw [List.drop_zero, Nat.sub_zero, List.take_length]
theorem rngD_drop {z : Int} {no : List Nat} {L : List (List Nat)} {k lo hi : Nat} : rngD z no (L.drop k) lo hi = rngD z no L (lo + k) (hi + k) := by
  unfold rngD
  rw [List.drop_drop, Nat.add_comm k lo, Nat.add_sub_add_right]
theorem sbD_end {z : Int} {L : List (List Nat)} {c m : Nat} {wh : Bool} (h : m = L.length) : sbD z L c m wh = if wh then [] else [logT z (noT z) L] := by
  unfold sbD
  rw [seamF_end h]
  cases wh with
  | true => rfl
  | false => rw [if_neg (by simp), if_neg (by simp), List.map_cons, List.map_nil, rngD_all]
theorem sbD_l {z : Int} {L : List (List Nat)} {c m : Nat} {wh : Bool} (h1 : 1 ≤ m) (h : ¬ m = L.length) (hc : L.length ≤ 2 ^ (c + 1)) (h0 : m ≤ L.length) (h2 : m ≤ belT L.length) : sbD z L (c + 1) m wh = sbD z (L.take (belT L.length)) c m wh ++ [logT z (noT z) (L.drop (belT L.length))] := by
  have hb := belT_lt (n := L.length) (by omega)
  have hb2 := belT_half (n := L.length) (c := c) (by omega) hc
  have hl : (L.take (belT L.length)).length = belT L.length := by rw [List.length_take]; omega
  unfold sbD
  rw [seamF_l h (by simpa using h2), Nat.zero_add, Nat.sub_zero, List.map_append, hl]
  congr 1
  · apply List.map_congr_left
    intro s hs
    have := seamF_in m c 0 (belT L.length) wh (by omega) h2 (by omega) s hs
    rw [rngD_take this.2.2]
  · rw [List.map_cons, List.map_nil]
    congr 1
    show rngD z (noT z) L (belT L.length) L.length = _
    rw [← rngD_all z (noT z) (L.drop (belT L.length)), rngD_drop, List.length_drop]
    congr 1 <;> omega
theorem sbD_r {z : Int} {L : List (List Nat)} {c m : Nat} {wh : Bool} (h : ¬ m = L.length) (h0 : m ≤ L.length) (h1 : 1 ≤ m) (h2 : ¬ m ≤ belT L.length) : sbD z L (c + 1) m wh = sbD z (L.drop (belT L.length)) c (m - belT L.length) false ++ [logT z (noT z) (L.take (belT L.length))] := by
  have hb := belT_lt (n := L.length) (by omega)
  have hl : (L.drop (belT L.length)).length = L.length - belT L.length := by rw [List.length_drop]
  have hlt : (L.take (belT L.length)).length = belT L.length := by rw [List.length_take]; omega
  unfold sbD
  rw [seamF_r h (by simpa using h2), Nat.zero_add, Nat.sub_zero, List.map_append, hl]
  have e := seamF_shift (belT L.length) (m - belT L.length) c 0 (L.length - belT L.length) false
  rw [show m - belT L.length + belT L.length = m by omega, Nat.zero_add, show L.length - belT L.length + belT L.length = L.length by omega] at e
  rw [e, List.map_map]
  have e1 : ([(0, belT L.length)].map fun s => rngD z (noT z) L s.1 s.2) = [logT z (noT z) (L.take (belT L.length))] := by
    rw [List.map_cons, List.map_nil]
    congr 1
  rw [e1]
  have e2 : (List.map ((fun s => rngD z (noT z) L s.fst s.snd) ∘ fun s => (s.fst + belT L.length, s.snd + belT L.length)) (seamF (m - belT L.length) c 0 (L.length - belT L.length) false)) = List.map (fun s => rngD z (noT z) (L.drop (belT L.length)) s.1 s.2) (seamF (m - belT L.length) c 0 (L.length - belT L.length) false) := by
    apply List.map_congr_left
    intro s _
    show rngD z (noT z) L (s.1 + belT L.length) (s.2 + belT L.length) = _
    rw [rngD_drop]
  rw [e2]
theorem sbD_len (z : Int) (L : List (List Nat)) (c m : Nat) (wh : Bool) : (sbD z L c m wh).length ≤ c + 1 := by
  unfold sbD
  rw [List.length_map]
  exact seamF_len _ _ _ _ _
/-- What the reference's consistency proof is. -/
theorem csD_sub {z : Int} {L : List (List Nat)} {m n : Nat} (hm : m ≤ n) (hn : n ≤ L.length) (h64 : n < 18446744073709551616) : csD z L m n = if m = 0 then [] else sbD z (L.take n) 64 m true := by
  have hl : (L.take n).length = n := by rw [List.length_take]; omega
  unfold csD smL
  rw [if_neg (by omega)]
  by_cases h0 : m = 0
  · rw [if_pos (Or.inl h0), if_pos h0]; rfl
  · rw [if_neg h0]
    by_cases h1 : m = n
    · rw [if_pos (Or.inr h1), sbD_end (by omega)]; rfl
    · rw [if_neg (by omega)]
      unfold rgL sbD
      rw [hl]
      apply List.map_congr_left
      intro s hs
      have := seamF_in m 64 0 n true (by omega) hm (by omega) s hs
      unfold rgD
      rw [if_neg (by omega), rngD_take this.2.2]
end Go.Proofs.YtecadmldnjlibaaDoor
/-
  Laws for drawn regions, by genreg.py. No program.
-/
namespace Go.Proofs.YtecadmldnjlibaaDoor
open Go Go.RowKit Go.BigFrame
set_option linter.unusedVariables false
set_option linter.unusedSimpArgs false
section
variable {P : Program} {Q : Exit → Act → World → Prop}
theorem wp_sl15 {id : Nat} {o0 o1 o2 o3 o4 o5 o6 o7 o8 o9 o10 o11 o12 o13 o14 : Oper} {a : Act} {w : World} (hm : P.follows .mixedOrders = true) (hs : Region.noSelect #[o0, o1, o2, o3, o4, o5, o6, o7, o8, o9, o10, o11, o12, o13, o14] = true)
    (f0 : Region.free .any #[o0, o1, o2, o3, o4, o5, o6, o7, o8, o9, o10, o11, o12, o13, o14] #[false, false, false, false, false, false, false, false, false, false, false, false, false, false, false] 0 = true) (r0 : (Region.ready .any #[o0, o1, o2, o3, o4, o5, o6, o7, o8, o9, o10, o11, o12, o13, o14] #[false, false, false, false, false, false, false, false, false, false, false, false, false, false, false]).contains 0 = true)
    (f1 : Region.free .any #[o0, o1, o2, o3, o4, o5, o6, o7, o8, o9, o10, o11, o12, o13, o14] #[true, false, false, false, false, false, false, false, false, false, false, false, false, false, false] 1 = true) (r1 : (Region.ready .any #[o0, o1, o2, o3, o4, o5, o6, o7, o8, o9, o10, o11, o12, o13, o14] #[true, false, false, false, false, false, false, false, false, false, false, false, false, false, false]).contains 1 = true)
    (f2 : Region.free .any #[o0, o1, o2, o3, o4, o5, o6, o7, o8, o9, o10, o11, o12, o13, o14] #[true, true, false, false, false, false, false, false, false, false, false, false, false, false, false] 2 = true) (r2 : (Region.ready .any #[o0, o1, o2, o3, o4, o5, o6, o7, o8, o9, o10, o11, o12, o13, o14] #[true, true, false, false, false, false, false, false, false, false, false, false, false, false, false]).contains 2 = true)
    (f3 : Region.free .any #[o0, o1, o2, o3, o4, o5, o6, o7, o8, o9, o10, o11, o12, o13, o14] #[true, true, true, false, false, false, false, false, false, false, false, false, false, false, false] 3 = true) (r3 : (Region.ready .any #[o0, o1, o2, o3, o4, o5, o6, o7, o8, o9, o10, o11, o12, o13, o14] #[true, true, true, false, false, false, false, false, false, false, false, false, false, false, false]).contains 3 = true)
    (f4 : Region.free .any #[o0, o1, o2, o3, o4, o5, o6, o7, o8, o9, o10, o11, o12, o13, o14] #[true, true, true, true, false, false, false, false, false, false, false, false, false, false, false] 4 = true) (r4 : (Region.ready .any #[o0, o1, o2, o3, o4, o5, o6, o7, o8, o9, o10, o11, o12, o13, o14] #[true, true, true, true, false, false, false, false, false, false, false, false, false, false, false]).contains 4 = true)
    (f5 : Region.free .any #[o0, o1, o2, o3, o4, o5, o6, o7, o8, o9, o10, o11, o12, o13, o14] #[true, true, true, true, true, false, false, false, false, false, false, false, false, false, false] 5 = true) (r5 : (Region.ready .any #[o0, o1, o2, o3, o4, o5, o6, o7, o8, o9, o10, o11, o12, o13, o14] #[true, true, true, true, true, false, false, false, false, false, false, false, false, false, false]).contains 5 = true)
    (f7 : Region.free .any #[o0, o1, o2, o3, o4, o5, o6, o7, o8, o9, o10, o11, o12, o13, o14] #[true, true, true, true, true, true, false, false, false, false, false, false, false, false, false] 7 = true) (r7 : (Region.ready .any #[o0, o1, o2, o3, o4, o5, o6, o7, o8, o9, o10, o11, o12, o13, o14] #[true, true, true, true, true, true, false, false, false, false, false, false, false, false, false]).contains 7 = true)
    (f8 : Region.free .any #[o0, o1, o2, o3, o4, o5, o6, o7, o8, o9, o10, o11, o12, o13, o14] #[true, true, true, true, true, true, false, true, false, false, false, false, false, false, false] 8 = true) (r8 : (Region.ready .any #[o0, o1, o2, o3, o4, o5, o6, o7, o8, o9, o10, o11, o12, o13, o14] #[true, true, true, true, true, true, false, true, false, false, false, false, false, false, false]).contains 8 = true)
    (f9 : Region.free .any #[o0, o1, o2, o3, o4, o5, o6, o7, o8, o9, o10, o11, o12, o13, o14] #[true, true, true, true, true, true, false, true, true, false, false, false, false, false, false] 9 = true) (r9 : (Region.ready .any #[o0, o1, o2, o3, o4, o5, o6, o7, o8, o9, o10, o11, o12, o13, o14] #[true, true, true, true, true, true, false, true, true, false, false, false, false, false, false]).contains 9 = true)
    (f10 : Region.free .any #[o0, o1, o2, o3, o4, o5, o6, o7, o8, o9, o10, o11, o12, o13, o14] #[true, true, true, true, true, true, false, true, true, true, false, false, false, false, false] 10 = true) (r10 : (Region.ready .any #[o0, o1, o2, o3, o4, o5, o6, o7, o8, o9, o10, o11, o12, o13, o14] #[true, true, true, true, true, true, false, true, true, true, false, false, false, false, false]).contains 10 = true)
    (q_ : Region.ready .any #[o0, o1, o2, o3, o4, o5, o6, o7, o8, o9, o10, o11, o12, o13, o14] #[true, true, true, true, true, true, false, true, true, true, true, false, false, false, false] = [6])
    (q6_ : Region.ready .any #[o0, o1, o2, o3, o4, o5, o6, o7, o8, o9, o10, o11, o12, o13, o14] #[true, true, true, true, true, true, true, true, true, true, true, false, false, false, false] = [11])
    (q6_11_ : Region.ready .any #[o0, o1, o2, o3, o4, o5, o6, o7, o8, o9, o10, o11, o12, o13, o14] #[true, true, true, true, true, true, true, true, true, true, true, true, false, false, false] = [12])
    (q6_11_12_ : Region.ready .any #[o0, o1, o2, o3, o4, o5, o6, o7, o8, o9, o10, o11, o12, o13, o14] #[true, true, true, true, true, true, true, true, true, true, true, true, true, false, false] = [13])
    (f6_11_12_13_14 : Region.free .any #[o0, o1, o2, o3, o4, o5, o6, o7, o8, o9, o10, o11, o12, o13, o14] #[true, true, true, true, true, true, true, true, true, true, true, true, true, true, false] 14 = true) (r6_11_12_13_14 : (Region.ready .any #[o0, o1, o2, o3, o4, o5, o6, o7, o8, o9, o10, o11, o12, o13, o14] #[true, true, true, true, true, true, true, true, true, true, true, true, true, true, false]).contains 14 = true)
    (q6_11_12_13_ : Region.ready .any #[o0, o1, o2, o3, o4, o5, o6, o7, o8, o9, o10, o11, o12, o13, o14] #[true, true, true, true, true, true, true, true, true, true, true, true, true, true, true] = [])
    (g6 : o6.guard = none)    (g11 : o11.guard = none)    (g12 : o12.guard = none)    (g13 : o13.guard = none)
    (v0 v1 v2 v3 v4 v5 v7 v8 v9 v10 : Value) (A0 A1 A2 A3 A4 A5 A6 A7 A8 A9 : Act)
    (S : World → Prop)
    (I_ : World → Prop)
    (I6_ : Value → World → Prop)
    (I6_11_ : Value → Value → World → Prop)
    (I6_11_12_ : Value → Value → Value → World → Prop)
    (I6_11_12_13_ : Value → Value → Value → Value → World → Prop)
    (v14 : Value → Value)
    (p0 : a.put o0.dst v0 = A0) (hy0 : YieldsIf P #[o0, o1, o2, o3, o4, o5, o6, o7, o8, o9, o10, o11, o12, o13, o14] S o0 v0 a)
    (p1 : A0.put o1.dst v1 = A1) (hy1 : YieldsIf P #[o0, o1, o2, o3, o4, o5, o6, o7, o8, o9, o10, o11, o12, o13, o14] S o1 v1 A0)
    (p2 : A1.put o2.dst v2 = A2) (hy2 : YieldsIf P #[o0, o1, o2, o3, o4, o5, o6, o7, o8, o9, o10, o11, o12, o13, o14] S o2 v2 A1)
    (p3 : A2.put o3.dst v3 = A3) (hy3 : YieldsIf P #[o0, o1, o2, o3, o4, o5, o6, o7, o8, o9, o10, o11, o12, o13, o14] S o3 v3 A2)
    (p4 : A3.put o4.dst v4 = A4) (hy4 : YieldsIf P #[o0, o1, o2, o3, o4, o5, o6, o7, o8, o9, o10, o11, o12, o13, o14] S o4 v4 A3)
    (p5 : A4.put o5.dst v5 = A5) (hy5 : YieldsIf P #[o0, o1, o2, o3, o4, o5, o6, o7, o8, o9, o10, o11, o12, o13, o14] S o5 v5 A4)
    (p7 : A5.put o7.dst v7 = A6) (hy7 : YieldsIf P #[o0, o1, o2, o3, o4, o5, o6, o7, o8, o9, o10, o11, o12, o13, o14] S o7 v7 A5)
    (p8 : A6.put o8.dst v8 = A7) (hy8 : YieldsIf P #[o0, o1, o2, o3, o4, o5, o6, o7, o8, o9, o10, o11, o12, o13, o14] S o8 v8 A6)
    (p9 : A7.put o9.dst v9 = A8) (hy9 : YieldsIf P #[o0, o1, o2, o3, o4, o5, o6, o7, o8, o9, o10, o11, o12, o13, o14] S o9 v9 A7)
    (p10 : A8.put o10.dst v10 = A9) (hy10 : YieldsIf P #[o0, o1, o2, o3, o4, o5, o6, o7, o8, o9, o10, o11, o12, o13, o14] S o10 v10 A8)
    (i0 : I_ w.drew)
    (hIS : (∀ w', I_  w' → S w') ∧ (∀ (u6 : Value) w', I6_ u6 w' → S w') ∧ (∀ (u6 u11 : Value) w', I6_11_ u6 u11 w' → S w') ∧ (∀ (u6 u11 u12 : Value) w', I6_11_12_ u6 u11 u12 w' → S w') ∧ (∀ (u6 u11 u12 u13 : Value) w', I6_11_12_13_ u6 u11 u12 u13 w' → S w'))
    (s_6 : ∀ w', I_  w' → ∀ K : Act → World → Prop, (∀ (u6 : Value) w2, I6_ u6 w2 → K (A9.put o6.dst u6) w2) → o6.wp P A9 w' K (NoPanic Q))
    (s6_11 : ∀ (u6 : Value) w', I6_ u6 w' → ∀ K : Act → World → Prop, (∀ (u11 : Value) w2, I6_11_ u6 u11 w2 → K ((A9.put o6.dst u6).put o11.dst u11) w2) → o11.wp P (A9.put o6.dst u6) w' K (NoPanic Q))
    (s6_11_12 : ∀ (u6 u11 : Value) w', I6_11_ u6 u11 w' → ∀ K : Act → World → Prop, (∀ (u12 : Value) w2, I6_11_12_ u6 u11 u12 w2 → K (((A9.put o6.dst u6).put o11.dst u11).put o12.dst u12) w2) → o12.wp P ((A9.put o6.dst u6).put o11.dst u11) w' K (NoPanic Q))
    (s6_11_12_13 : ∀ (u6 u11 u12 : Value) w', I6_11_12_ u6 u11 u12 w' → ∀ K : Act → World → Prop, (∀ (u13 : Value) w2, I6_11_12_13_ u6 u11 u12 u13 w2 → K ((((A9.put o6.dst u6).put o11.dst u11).put o12.dst u12).put o13.dst u13) w2) → o13.wp P (((A9.put o6.dst u6).put o11.dst u11).put o12.dst u12) w' K (NoPanic Q))
    (y6_11_12_13_14 : ∀ (u6 u11 u12 u13 : Value) w', I6_11_12_13_ u6 u11 u12 u13 w' → YieldsIf P #[o0, o1, o2, o3, o4, o5, o6, o7, o8, o9, o10, o11, o12, o13, o14] S o14 (v14 u13) ((((A9.put o6.dst u6).put o11.dst u11).put o12.dst u12).put o13.dst u13))
    (h : ∀ (u6 u11 u12 u13 : Value) w', I6_11_12_13_ u6 u11 u12 u13 w' → Q .normal (((((A9.put o6.dst u6).put o11.dst u11).put o12.dst u12).put o13.dst u13).put o14.dst (v14 u13)) w') :
    (Code.region id #[o0, o1, o2, o3, o4, o5, o6, o7, o8, o9, o10, o11, o12, o13, o14] true).wp P Q a w := by
  subst p0 p1 p2 p3 p4 p5 p7 p8 p9 p10
  obtain ⟨z_, z6_, z6_11_, z6_11_12_, z6_11_12_13_⟩ := hIS
  refine wp_region_noPanic ?_
  refine wp_region_held_drew (S := S) hm (z_ _ i0) (fun hH => ?_)
  show wpAnyH P .any #[o0, o1, o2, o3, o4, o5, o6, o7, o8, o9, o10, o11, o12, o13, o14] (NoPanic Q) S 15 #[false, false, false, false, false, false, false, false, false, false, false, false, false, false, false] a w.drew
  refine wpAnyH_take (i := 0) (oi := o0) rfl hs f0 r0 (fun _ _ _ h => h) hy0 hH ?_
  refine wpAnyH_take (i := 1) (oi := o1) rfl hs f1 r1 (fun _ _ _ h => h) hy1 hH ?_
  refine wpAnyH_take (i := 2) (oi := o2) rfl hs f2 r2 (fun _ _ _ h => h) hy2 hH ?_
  refine wpAnyH_take (i := 3) (oi := o3) rfl hs f3 r3 (fun _ _ _ h => h) hy3 hH ?_
  refine wpAnyH_take (i := 4) (oi := o4) rfl hs f4 r4 (fun _ _ _ h => h) hy4 hH ?_
  refine wpAnyH_take (i := 5) (oi := o5) rfl hs f5 r5 (fun _ _ _ h => h) hy5 hH ?_
  refine wpAnyH_take (i := 7) (oi := o7) rfl hs f7 r7 (fun _ _ _ h => h) hy7 hH ?_
  refine wpAnyH_take (i := 8) (oi := o8) rfl hs f8 r8 (fun _ _ _ h => h) hy8 hH ?_
  refine wpAnyH_take (i := 9) (oi := o9) rfl hs f9 r9 (fun _ _ _ h => h) hy9 hH ?_
  refine wpAnyH_take (i := 10) (oi := o10) rfl hs f10 r10 (fun _ _ _ h => h) hy10 hH ?_
  generalize ((((((((((a.put o0.dst v0).put o1.dst v1).put o2.dst v2).put o3.dst v3).put o4.dst v4).put o5.dst v5).put o7.dst v7).put o8.dst v8).put o9.dst v9).put o10.dst v10) = B at *
  have wa6 : ∀ y, Region.wanted o6 y = true := fun y => by unfold Region.wanted; rw [g6]
  have wa11 : ∀ y, Region.wanted o11 y = true := fun y => by unfold Region.wanted; rw [g11]
  have wa12 : ∀ y, Region.wanted o12 y = true := fun y => by unfold Region.wanted; rw [g12]
  have wa13 : ∀ y, Region.wanted o13 y = true := fun y => by unfold Region.wanted; rw [g13]
  have t6_11_12_13_ : ∀ (u6 u11 u12 u13 : Value) w', I6_11_12_13_ u6 u11 u12 u13 w' → wpAnyH P .any #[o0, o1, o2, o3, o4, o5, o6, o7, o8, o9, o10, o11, o12, o13, o14] (NoPanic Q) S 0 #[true, true, true, true, true, true, true, true, true, true, true, true, true, true, true] (((((B.put o6.dst u6).put o11.dst u11).put o12.dst u12).put o13.dst u13).put o14.dst (v14 u13)) w' := by
    intro u6 u11 u12 u13 w0 i0
    exact ⟨q6_11_12_13_, NoPanic.normal (h u6 u11 u12 u13 w0 i0)⟩
  have t6_11_12_ : ∀ (u6 u11 u12 : Value) w', I6_11_12_ u6 u11 u12 w' → wpAnyH P .any #[o0, o1, o2, o3, o4, o5, o6, o7, o8, o9, o10, o11, o12, o13, o14] (NoPanic Q) S 2 #[true, true, true, true, true, true, true, true, true, true, true, true, true, false, false] (((B.put o6.dst u6).put o11.dst u11).put o12.dst u12) w' := by
    intro u6 u11 u12 w0 i0
    refine wpAnyH_ready (rs := [13]) q6_11_12_ (by simp) (AllReadyH.cons (o := o13) rfl (fun K hK => ?_) AllReadyH.nil)
    · rw [if_pos (wa13 _)]
      refine s6_11_12_13 u6 u11 u12 w0 i0 K (fun u13 w1 i1 => hK.out _ _ (z6_11_12_13_ u6 u11 u12 u13 w1 i1) (fun _ => ?_))
      clear hK
      refine wpAnyH_take (i := 14) (oi := o14) rfl hs f6_11_12_13_14 r6_11_12_13_14 (fun _ _ _ h => h) (y6_11_12_13_14 u6 u11 u12 u13 w1 i1) (z6_11_12_13_ u6 u11 u12 u13 w1 i1) ?_
      exact t6_11_12_13_ u6 u11 u12 u13 w1 i1
  have t6_11_ : ∀ (u6 u11 : Value) w', I6_11_ u6 u11 w' → wpAnyH P .any #[o0, o1, o2, o3, o4, o5, o6, o7, o8, o9, o10, o11, o12, o13, o14] (NoPanic Q) S 3 #[true, true, true, true, true, true, true, true, true, true, true, true, false, false, false] ((B.put o6.dst u6).put o11.dst u11) w' := by
    intro u6 u11 w0 i0
    refine wpAnyH_ready (rs := [12]) q6_11_ (by simp) (AllReadyH.cons (o := o12) rfl (fun K hK => ?_) AllReadyH.nil)
    · rw [if_pos (wa12 _)]
      refine s6_11_12 u6 u11 w0 i0 K (fun u12 w1 i1 => hK.out _ _ (z6_11_12_ u6 u11 u12 w1 i1) (fun _ => ?_))
      clear hK
      exact t6_11_12_ u6 u11 u12 w1 i1
  have t6_ : ∀ (u6 : Value) w', I6_ u6 w' → wpAnyH P .any #[o0, o1, o2, o3, o4, o5, o6, o7, o8, o9, o10, o11, o12, o13, o14] (NoPanic Q) S 4 #[true, true, true, true, true, true, true, true, true, true, true, false, false, false, false] (B.put o6.dst u6) w' := by
    intro u6 w0 i0
    refine wpAnyH_ready (rs := [11]) q6_ (by simp) (AllReadyH.cons (o := o11) rfl (fun K hK => ?_) AllReadyH.nil)
    · rw [if_pos (wa11 _)]
      refine s6_11 u6 w0 i0 K (fun u11 w1 i1 => hK.out _ _ (z6_11_ u6 u11 w1 i1) (fun _ => ?_))
      clear hK
      exact t6_11_ u6 u11 w1 i1
  have t_ : ∀ w', I_  w' → wpAnyH P .any #[o0, o1, o2, o3, o4, o5, o6, o7, o8, o9, o10, o11, o12, o13, o14] (NoPanic Q) S 5 #[true, true, true, true, true, true, false, true, true, true, true, false, false, false, false] B w' := by
    intro w0 i0
    refine wpAnyH_ready (rs := [6]) q_ (by simp) (AllReadyH.cons (o := o6) rfl (fun K hK => ?_) AllReadyH.nil)
    · rw [if_pos (wa6 _)]
      refine s_6  w0 i0 K (fun u6 w1 i1 => hK.out _ _ (z6_ u6 w1 i1) (fun _ => ?_))
      clear hK
      exact t6_ u6 w1 i1
  exact t_ w.drew i0

theorem wp_sr16 {id : Nat} {o0 o1 o2 o3 o4 o5 o6 o7 o8 o9 o10 o11 o12 o13 o14 o15 : Oper} {a : Act} {w : World} (hm : P.follows .mixedOrders = true) (hs : Region.noSelect #[o0, o1, o2, o3, o4, o5, o6, o7, o8, o9, o10, o11, o12, o13, o14, o15] = true)
    (f0 : Region.free .any #[o0, o1, o2, o3, o4, o5, o6, o7, o8, o9, o10, o11, o12, o13, o14, o15] #[false, false, false, false, false, false, false, false, false, false, false, false, false, false, false, false] 0 = true) (r0 : (Region.ready .any #[o0, o1, o2, o3, o4, o5, o6, o7, o8, o9, o10, o11, o12, o13, o14, o15] #[false, false, false, false, false, false, false, false, false, false, false, false, false, false, false, false]).contains 0 = true)
    (f1 : Region.free .any #[o0, o1, o2, o3, o4, o5, o6, o7, o8, o9, o10, o11, o12, o13, o14, o15] #[true, false, false, false, false, false, false, false, false, false, false, false, false, false, false, false] 1 = true) (r1 : (Region.ready .any #[o0, o1, o2, o3, o4, o5, o6, o7, o8, o9, o10, o11, o12, o13, o14, o15] #[true, false, false, false, false, false, false, false, false, false, false, false, false, false, false, false]).contains 1 = true)
    (f2 : Region.free .any #[o0, o1, o2, o3, o4, o5, o6, o7, o8, o9, o10, o11, o12, o13, o14, o15] #[true, true, false, false, false, false, false, false, false, false, false, false, false, false, false, false] 2 = true) (r2 : (Region.ready .any #[o0, o1, o2, o3, o4, o5, o6, o7, o8, o9, o10, o11, o12, o13, o14, o15] #[true, true, false, false, false, false, false, false, false, false, false, false, false, false, false, false]).contains 2 = true)
    (f3 : Region.free .any #[o0, o1, o2, o3, o4, o5, o6, o7, o8, o9, o10, o11, o12, o13, o14, o15] #[true, true, true, false, false, false, false, false, false, false, false, false, false, false, false, false] 3 = true) (r3 : (Region.ready .any #[o0, o1, o2, o3, o4, o5, o6, o7, o8, o9, o10, o11, o12, o13, o14, o15] #[true, true, true, false, false, false, false, false, false, false, false, false, false, false, false, false]).contains 3 = true)
    (f4 : Region.free .any #[o0, o1, o2, o3, o4, o5, o6, o7, o8, o9, o10, o11, o12, o13, o14, o15] #[true, true, true, true, false, false, false, false, false, false, false, false, false, false, false, false] 4 = true) (r4 : (Region.ready .any #[o0, o1, o2, o3, o4, o5, o6, o7, o8, o9, o10, o11, o12, o13, o14, o15] #[true, true, true, true, false, false, false, false, false, false, false, false, false, false, false, false]).contains 4 = true)
    (f5 : Region.free .any #[o0, o1, o2, o3, o4, o5, o6, o7, o8, o9, o10, o11, o12, o13, o14, o15] #[true, true, true, true, true, false, false, false, false, false, false, false, false, false, false, false] 5 = true) (r5 : (Region.ready .any #[o0, o1, o2, o3, o4, o5, o6, o7, o8, o9, o10, o11, o12, o13, o14, o15] #[true, true, true, true, true, false, false, false, false, false, false, false, false, false, false, false]).contains 5 = true)
    (f6 : Region.free .any #[o0, o1, o2, o3, o4, o5, o6, o7, o8, o9, o10, o11, o12, o13, o14, o15] #[true, true, true, true, true, true, false, false, false, false, false, false, false, false, false, false] 6 = true) (r6 : (Region.ready .any #[o0, o1, o2, o3, o4, o5, o6, o7, o8, o9, o10, o11, o12, o13, o14, o15] #[true, true, true, true, true, true, false, false, false, false, false, false, false, false, false, false]).contains 6 = true)
    (f8 : Region.free .any #[o0, o1, o2, o3, o4, o5, o6, o7, o8, o9, o10, o11, o12, o13, o14, o15] #[true, true, true, true, true, true, true, false, false, false, false, false, false, false, false, false] 8 = true) (r8 : (Region.ready .any #[o0, o1, o2, o3, o4, o5, o6, o7, o8, o9, o10, o11, o12, o13, o14, o15] #[true, true, true, true, true, true, true, false, false, false, false, false, false, false, false, false]).contains 8 = true)
    (f9 : Region.free .any #[o0, o1, o2, o3, o4, o5, o6, o7, o8, o9, o10, o11, o12, o13, o14, o15] #[true, true, true, true, true, true, true, false, true, false, false, false, false, false, false, false] 9 = true) (r9 : (Region.ready .any #[o0, o1, o2, o3, o4, o5, o6, o7, o8, o9, o10, o11, o12, o13, o14, o15] #[true, true, true, true, true, true, true, false, true, false, false, false, false, false, false, false]).contains 9 = true)
    (f10 : Region.free .any #[o0, o1, o2, o3, o4, o5, o6, o7, o8, o9, o10, o11, o12, o13, o14, o15] #[true, true, true, true, true, true, true, false, true, true, false, false, false, false, false, false] 10 = true) (r10 : (Region.ready .any #[o0, o1, o2, o3, o4, o5, o6, o7, o8, o9, o10, o11, o12, o13, o14, o15] #[true, true, true, true, true, true, true, false, true, true, false, false, false, false, false, false]).contains 10 = true)
    (f11 : Region.free .any #[o0, o1, o2, o3, o4, o5, o6, o7, o8, o9, o10, o11, o12, o13, o14, o15] #[true, true, true, true, true, true, true, false, true, true, true, false, false, false, false, false] 11 = true) (r11 : (Region.ready .any #[o0, o1, o2, o3, o4, o5, o6, o7, o8, o9, o10, o11, o12, o13, o14, o15] #[true, true, true, true, true, true, true, false, true, true, true, false, false, false, false, false]).contains 11 = true)
    (q_ : Region.ready .any #[o0, o1, o2, o3, o4, o5, o6, o7, o8, o9, o10, o11, o12, o13, o14, o15] #[true, true, true, true, true, true, true, false, true, true, true, true, false, false, false, false] = [7])
    (q7_ : Region.ready .any #[o0, o1, o2, o3, o4, o5, o6, o7, o8, o9, o10, o11, o12, o13, o14, o15] #[true, true, true, true, true, true, true, true, true, true, true, true, false, false, false, false] = [12])
    (q7_12_ : Region.ready .any #[o0, o1, o2, o3, o4, o5, o6, o7, o8, o9, o10, o11, o12, o13, o14, o15] #[true, true, true, true, true, true, true, true, true, true, true, true, true, false, false, false] = [13])
    (q7_12_13_ : Region.ready .any #[o0, o1, o2, o3, o4, o5, o6, o7, o8, o9, o10, o11, o12, o13, o14, o15] #[true, true, true, true, true, true, true, true, true, true, true, true, true, true, false, false] = [14])
    (f7_12_13_14_15 : Region.free .any #[o0, o1, o2, o3, o4, o5, o6, o7, o8, o9, o10, o11, o12, o13, o14, o15] #[true, true, true, true, true, true, true, true, true, true, true, true, true, true, true, false] 15 = true) (r7_12_13_14_15 : (Region.ready .any #[o0, o1, o2, o3, o4, o5, o6, o7, o8, o9, o10, o11, o12, o13, o14, o15] #[true, true, true, true, true, true, true, true, true, true, true, true, true, true, true, false]).contains 15 = true)
    (q7_12_13_14_ : Region.ready .any #[o0, o1, o2, o3, o4, o5, o6, o7, o8, o9, o10, o11, o12, o13, o14, o15] #[true, true, true, true, true, true, true, true, true, true, true, true, true, true, true, true] = [])
    (g7 : o7.guard = none)    (g12 : o12.guard = none)    (g13 : o13.guard = none)    (g14 : o14.guard = none)
    (v0 v1 v2 v3 v4 v5 v6 v8 v9 v10 v11 : Value) (A0 A1 A2 A3 A4 A5 A6 A7 A8 A9 A10 : Act)
    (S : World → Prop)
    (I_ : World → Prop)
    (I7_ : Value → World → Prop)
    (I7_12_ : Value → Value → World → Prop)
    (I7_12_13_ : Value → Value → Value → World → Prop)
    (I7_12_13_14_ : Value → Value → Value → Value → World → Prop)
    (v15 : Value → Value)
    (p0 : a.put o0.dst v0 = A0) (hy0 : YieldsIf P #[o0, o1, o2, o3, o4, o5, o6, o7, o8, o9, o10, o11, o12, o13, o14, o15] S o0 v0 a)
    (p1 : A0.put o1.dst v1 = A1) (hy1 : YieldsIf P #[o0, o1, o2, o3, o4, o5, o6, o7, o8, o9, o10, o11, o12, o13, o14, o15] S o1 v1 A0)
    (p2 : A1.put o2.dst v2 = A2) (hy2 : YieldsIf P #[o0, o1, o2, o3, o4, o5, o6, o7, o8, o9, o10, o11, o12, o13, o14, o15] S o2 v2 A1)
    (p3 : A2.put o3.dst v3 = A3) (hy3 : YieldsIf P #[o0, o1, o2, o3, o4, o5, o6, o7, o8, o9, o10, o11, o12, o13, o14, o15] S o3 v3 A2)
    (p4 : A3.put o4.dst v4 = A4) (hy4 : YieldsIf P #[o0, o1, o2, o3, o4, o5, o6, o7, o8, o9, o10, o11, o12, o13, o14, o15] S o4 v4 A3)
    (p5 : A4.put o5.dst v5 = A5) (hy5 : YieldsIf P #[o0, o1, o2, o3, o4, o5, o6, o7, o8, o9, o10, o11, o12, o13, o14, o15] S o5 v5 A4)
    (p6 : A5.put o6.dst v6 = A6) (hy6 : YieldsIf P #[o0, o1, o2, o3, o4, o5, o6, o7, o8, o9, o10, o11, o12, o13, o14, o15] S o6 v6 A5)
    (p8 : A6.put o8.dst v8 = A7) (hy8 : YieldsIf P #[o0, o1, o2, o3, o4, o5, o6, o7, o8, o9, o10, o11, o12, o13, o14, o15] S o8 v8 A6)
    (p9 : A7.put o9.dst v9 = A8) (hy9 : YieldsIf P #[o0, o1, o2, o3, o4, o5, o6, o7, o8, o9, o10, o11, o12, o13, o14, o15] S o9 v9 A7)
    (p10 : A8.put o10.dst v10 = A9) (hy10 : YieldsIf P #[o0, o1, o2, o3, o4, o5, o6, o7, o8, o9, o10, o11, o12, o13, o14, o15] S o10 v10 A8)
    (p11 : A9.put o11.dst v11 = A10) (hy11 : YieldsIf P #[o0, o1, o2, o3, o4, o5, o6, o7, o8, o9, o10, o11, o12, o13, o14, o15] S o11 v11 A9)
    (i0 : I_ w.drew)
    (hIS : (∀ w', I_  w' → S w') ∧ (∀ (u7 : Value) w', I7_ u7 w' → S w') ∧ (∀ (u7 u12 : Value) w', I7_12_ u7 u12 w' → S w') ∧ (∀ (u7 u12 u13 : Value) w', I7_12_13_ u7 u12 u13 w' → S w') ∧ (∀ (u7 u12 u13 u14 : Value) w', I7_12_13_14_ u7 u12 u13 u14 w' → S w'))
    (s_7 : ∀ w', I_  w' → ∀ K : Act → World → Prop, (∀ (u7 : Value) w2, I7_ u7 w2 → K (A10.put o7.dst u7) w2) → o7.wp P A10 w' K (NoPanic Q))
    (s7_12 : ∀ (u7 : Value) w', I7_ u7 w' → ∀ K : Act → World → Prop, (∀ (u12 : Value) w2, I7_12_ u7 u12 w2 → K ((A10.put o7.dst u7).put o12.dst u12) w2) → o12.wp P (A10.put o7.dst u7) w' K (NoPanic Q))
    (s7_12_13 : ∀ (u7 u12 : Value) w', I7_12_ u7 u12 w' → ∀ K : Act → World → Prop, (∀ (u13 : Value) w2, I7_12_13_ u7 u12 u13 w2 → K (((A10.put o7.dst u7).put o12.dst u12).put o13.dst u13) w2) → o13.wp P ((A10.put o7.dst u7).put o12.dst u12) w' K (NoPanic Q))
    (s7_12_13_14 : ∀ (u7 u12 u13 : Value) w', I7_12_13_ u7 u12 u13 w' → ∀ K : Act → World → Prop, (∀ (u14 : Value) w2, I7_12_13_14_ u7 u12 u13 u14 w2 → K ((((A10.put o7.dst u7).put o12.dst u12).put o13.dst u13).put o14.dst u14) w2) → o14.wp P (((A10.put o7.dst u7).put o12.dst u12).put o13.dst u13) w' K (NoPanic Q))
    (y7_12_13_14_15 : ∀ (u7 u12 u13 u14 : Value) w', I7_12_13_14_ u7 u12 u13 u14 w' → YieldsIf P #[o0, o1, o2, o3, o4, o5, o6, o7, o8, o9, o10, o11, o12, o13, o14, o15] S o15 (v15 u14) ((((A10.put o7.dst u7).put o12.dst u12).put o13.dst u13).put o14.dst u14))
    (h : ∀ (u7 u12 u13 u14 : Value) w', I7_12_13_14_ u7 u12 u13 u14 w' → Q .normal (((((A10.put o7.dst u7).put o12.dst u12).put o13.dst u13).put o14.dst u14).put o15.dst (v15 u14)) w') :
    (Code.region id #[o0, o1, o2, o3, o4, o5, o6, o7, o8, o9, o10, o11, o12, o13, o14, o15] true).wp P Q a w := by
  subst p0 p1 p2 p3 p4 p5 p6 p8 p9 p10 p11
  obtain ⟨z_, z7_, z7_12_, z7_12_13_, z7_12_13_14_⟩ := hIS
  refine wp_region_noPanic ?_
  refine wp_region_held_drew (S := S) hm (z_ _ i0) (fun hH => ?_)
  show wpAnyH P .any #[o0, o1, o2, o3, o4, o5, o6, o7, o8, o9, o10, o11, o12, o13, o14, o15] (NoPanic Q) S 16 #[false, false, false, false, false, false, false, false, false, false, false, false, false, false, false, false] a w.drew
  refine wpAnyH_take (i := 0) (oi := o0) rfl hs f0 r0 (fun _ _ _ h => h) hy0 hH ?_
  refine wpAnyH_take (i := 1) (oi := o1) rfl hs f1 r1 (fun _ _ _ h => h) hy1 hH ?_
  refine wpAnyH_take (i := 2) (oi := o2) rfl hs f2 r2 (fun _ _ _ h => h) hy2 hH ?_
  refine wpAnyH_take (i := 3) (oi := o3) rfl hs f3 r3 (fun _ _ _ h => h) hy3 hH ?_
  refine wpAnyH_take (i := 4) (oi := o4) rfl hs f4 r4 (fun _ _ _ h => h) hy4 hH ?_
  refine wpAnyH_take (i := 5) (oi := o5) rfl hs f5 r5 (fun _ _ _ h => h) hy5 hH ?_
  refine wpAnyH_take (i := 6) (oi := o6) rfl hs f6 r6 (fun _ _ _ h => h) hy6 hH ?_
  refine wpAnyH_take (i := 8) (oi := o8) rfl hs f8 r8 (fun _ _ _ h => h) hy8 hH ?_
  refine wpAnyH_take (i := 9) (oi := o9) rfl hs f9 r9 (fun _ _ _ h => h) hy9 hH ?_
  refine wpAnyH_take (i := 10) (oi := o10) rfl hs f10 r10 (fun _ _ _ h => h) hy10 hH ?_
  refine wpAnyH_take (i := 11) (oi := o11) rfl hs f11 r11 (fun _ _ _ h => h) hy11 hH ?_
  generalize (((((((((((a.put o0.dst v0).put o1.dst v1).put o2.dst v2).put o3.dst v3).put o4.dst v4).put o5.dst v5).put o6.dst v6).put o8.dst v8).put o9.dst v9).put o10.dst v10).put o11.dst v11) = B at *
  have wa7 : ∀ y, Region.wanted o7 y = true := fun y => by unfold Region.wanted; rw [g7]
  have wa12 : ∀ y, Region.wanted o12 y = true := fun y => by unfold Region.wanted; rw [g12]
  have wa13 : ∀ y, Region.wanted o13 y = true := fun y => by unfold Region.wanted; rw [g13]
  have wa14 : ∀ y, Region.wanted o14 y = true := fun y => by unfold Region.wanted; rw [g14]
  have t7_12_13_14_ : ∀ (u7 u12 u13 u14 : Value) w', I7_12_13_14_ u7 u12 u13 u14 w' → wpAnyH P .any #[o0, o1, o2, o3, o4, o5, o6, o7, o8, o9, o10, o11, o12, o13, o14, o15] (NoPanic Q) S 0 #[true, true, true, true, true, true, true, true, true, true, true, true, true, true, true, true] (((((B.put o7.dst u7).put o12.dst u12).put o13.dst u13).put o14.dst u14).put o15.dst (v15 u14)) w' := by
    intro u7 u12 u13 u14 w0 i0
    exact ⟨q7_12_13_14_, NoPanic.normal (h u7 u12 u13 u14 w0 i0)⟩
  have t7_12_13_ : ∀ (u7 u12 u13 : Value) w', I7_12_13_ u7 u12 u13 w' → wpAnyH P .any #[o0, o1, o2, o3, o4, o5, o6, o7, o8, o9, o10, o11, o12, o13, o14, o15] (NoPanic Q) S 2 #[true, true, true, true, true, true, true, true, true, true, true, true, true, true, false, false] (((B.put o7.dst u7).put o12.dst u12).put o13.dst u13) w' := by
    intro u7 u12 u13 w0 i0
    refine wpAnyH_ready (rs := [14]) q7_12_13_ (by simp) (AllReadyH.cons (o := o14) rfl (fun K hK => ?_) AllReadyH.nil)
    · rw [if_pos (wa14 _)]
      refine s7_12_13_14 u7 u12 u13 w0 i0 K (fun u14 w1 i1 => hK.out _ _ (z7_12_13_14_ u7 u12 u13 u14 w1 i1) (fun _ => ?_))
      clear hK
      refine wpAnyH_take (i := 15) (oi := o15) rfl hs f7_12_13_14_15 r7_12_13_14_15 (fun _ _ _ h => h) (y7_12_13_14_15 u7 u12 u13 u14 w1 i1) (z7_12_13_14_ u7 u12 u13 u14 w1 i1) ?_
      exact t7_12_13_14_ u7 u12 u13 u14 w1 i1
  have t7_12_ : ∀ (u7 u12 : Value) w', I7_12_ u7 u12 w' → wpAnyH P .any #[o0, o1, o2, o3, o4, o5, o6, o7, o8, o9, o10, o11, o12, o13, o14, o15] (NoPanic Q) S 3 #[true, true, true, true, true, true, true, true, true, true, true, true, true, false, false, false] ((B.put o7.dst u7).put o12.dst u12) w' := by
    intro u7 u12 w0 i0
    refine wpAnyH_ready (rs := [13]) q7_12_ (by simp) (AllReadyH.cons (o := o13) rfl (fun K hK => ?_) AllReadyH.nil)
    · rw [if_pos (wa13 _)]
      refine s7_12_13 u7 u12 w0 i0 K (fun u13 w1 i1 => hK.out _ _ (z7_12_13_ u7 u12 u13 w1 i1) (fun _ => ?_))
      clear hK
      exact t7_12_13_ u7 u12 u13 w1 i1
  have t7_ : ∀ (u7 : Value) w', I7_ u7 w' → wpAnyH P .any #[o0, o1, o2, o3, o4, o5, o6, o7, o8, o9, o10, o11, o12, o13, o14, o15] (NoPanic Q) S 4 #[true, true, true, true, true, true, true, true, true, true, true, true, false, false, false, false] (B.put o7.dst u7) w' := by
    intro u7 w0 i0
    refine wpAnyH_ready (rs := [12]) q7_ (by simp) (AllReadyH.cons (o := o12) rfl (fun K hK => ?_) AllReadyH.nil)
    · rw [if_pos (wa12 _)]
      refine s7_12 u7 w0 i0 K (fun u12 w1 i1 => hK.out _ _ (z7_12_ u7 u12 w1 i1) (fun _ => ?_))
      clear hK
      exact t7_12_ u7 u12 w1 i1
  have t_ : ∀ w', I_  w' → wpAnyH P .any #[o0, o1, o2, o3, o4, o5, o6, o7, o8, o9, o10, o11, o12, o13, o14, o15] (NoPanic Q) S 5 #[true, true, true, true, true, true, true, false, true, true, true, true, false, false, false, false] B w' := by
    intro w0 i0
    refine wpAnyH_ready (rs := [7]) q_ (by simp) (AllReadyH.cons (o := o7) rfl (fun K hK => ?_) AllReadyH.nil)
    · rw [if_pos (wa7 _)]
      refine s_7  w0 i0 K (fun u7 w1 i1 => hK.out _ _ (z7_ u7 w1 i1) (fun _ => ?_))
      clear hK
      exact t7_ u7 w1 i1
  exact t_ w.drew i0

end
end Go.Proofs.YtecadmldnjlibaaDoor
namespace Go.Proofs.YtecadmldnjlibaaDoor
open Go.RowKit Go.BigFrame
set_option linter.unusedVariables false
set_option linter.unusedSimpArgs false

theorem owns_one {w : World} {base : Nat} {X : List Nat} (hx : X.length = 32) (hb : base ≤ w.heap.size) : (w.alloc (.cells (brow X) 41)).ownsRow base 41 32 (.slice (some ⟨w.heap.size, 0, none⟩) 1 1) [X].length (flatD [X]) := by
  refine ⟨by simp [flatD, hx], Or.inr ⟨w.heap.size, 1, brow X, rfl, hb, heap_alloc_new _ _, Nat.le_refl _, by unfold maxLen; omega, by rw [brow_size, hx], ?_⟩⟩
  simp [flatD, brow]
  exact List.take_of_length_le (by rw [List.length_map, hx]; exact Nat.le_refl _)

set_option maxRecDepth 100000 in
set_option maxHeartbeats 1000000 in
theorem sub_end (k : Nat) (hk : 1 ≤ k ∧ k ≤ 32) (lv : Value) (L : List (List Nat)) (q : Nat) (wh : Bool) (w : World) (hl : RdD w lv L) (hN : L.length ≤ 1000000) (hq : q = L.length) (c : Nat) :
    Calls Tryd.prog 62 #[.int .i64 (k : Int), lv, .int .i64 (q : Int), .bool wh] w fun e w' => ∃ u, e = .returned u ∧ OwD w w' u (sbD (k : Int) L c q wh) := by
  rw [sbD_end hq]
  have HDG := hide (log_dg (k : Int) (noT k) L (noT_dg k) (fun d hd => hl.dg hd))
  have HLG := hide (logR_any k hk L.length lv L w (Nat.le_refl _) (by omega) hl)
  obtain ⟨la, ll, lc, rfl, l1, -⟩ := hl
  rw [← hq] at l1
  subst l1
  cases wh with
  | true =>
    clear hq
    go_enter Tryd.func62, Tryd.ntmps62
    go_wp2_with fail
    go_ret
    exact ⟨_, rfl, OwD.nil _⟩
  | false =>
    generalize logT (k : Int) (noT k) L = X at HDG HLG ⊢
    have hxl := (unhide HDG).1
    clear hq
    go_enter Tryd.func62, Tryd.ntmps62
    go_wp2_with fail
    refine (unhide HLG).mono ?_
    rintro e w1 ⟨rfl, k1⟩
    have HK1 := hide k1
    clear k1
    unfold brow
    have HOW := hide (owns_one (base := w.heap.size) hxl (unhide HK1).size)
    go_wp2_with (first | (rw [zb32, one_digP X hxl]))
    go_ret
    exact ⟨_, rfl, ⟨unhide HOW, by intro d hd; simp at hd; subst hd; exact unhide HDG, (unhide HK1).alloc _⟩⟩

set_option maxRecDepth 100000 in
set_option maxHeartbeats 2000000 in
theorem sub_any (k : Nat) (hk : 1 ≤ k ∧ k ≤ 32) : ∀ (c : Nat) (lv : Value) (L : List (List Nat)) (q : Nat) (wh : Bool) (w : World), RdD w lv L → L.length ≤ 1000000 → 1 ≤ q → q ≤ L.length → L.length ≤ 2 ^ c → c ≤ 64 →
    Calls Tryd.prog 62 #[.int .i64 (k : Int), lv, .int .i64 (q : Int), .bool wh] w fun e w' => ∃ u, e = .returned u ∧ OwD w w' u (sbD (k : Int) L c q wh) := by
  intro c
  induction c with
  | zero =>
    intro lv L q wh w hl hN h1 h2 h3 _
    exact sub_end k hk lv L q wh w hl hN (by simp at h3; omega) 0
  | succ c ih =>
    intro lv L q wh w hl hN h1 h2 h3 hc64
    by_cases hq : q = L.length
    · exact sub_end k hk lv L q wh w hl hN hq (c + 1)
    · have hbl := belT_lt (n := L.length) (by omega)
      have hbh := belT_half (n := L.length) (c := c) (by omega) h3
      have HV := hide hl
      have hdm : ∀ d ∈ L, Dg d := fun d hd => hl.dg hd
      obtain ⟨ao, len, cap, rfl, e1, e2, e3, e4, e5⟩ := hl
      obtain ⟨b, o, rfl, _⟩ := e5 (by omega)
      have HBE := hide (fun W => below_any L.length W (by omega) (by omega))
      have HEL := hide (fun h => sbD_l (z := (k : Int)) (L := L) (c := c) (m := q) (wh := wh) h1 hq h3 h2 h)
      have HER := hide (fun h => sbD_r (z := (k : Int)) (L := L) (c := c) (m := q) (wh := wh) hq h2 h1 h)
      have HTK := hide (fun W (kk : Kept [] w W) => (RdD.upto (unhide HV) (belT L.length) (by omega)).old kk)
      have HDR := hide (fun W (kk : Kept [] w W) => (by have h9 := RdD.fromT (m := belT L.length) (off' := o + belT L.length * 32) (c' := cap - belT L.length) (unhide HV) (by omega) (by omega) (fun _ => rfl); exact h9.old kk : RdD W (.slice (some ⟨b, o + belT L.length * 32, none⟩) (len - belT L.length) (cap - belT L.length)) (L.drop (belT L.length))))
      have HIH := hide ih
      have HDT := hide (log_dg (k : Int) (noT k) (L.take (belT L.length)) (noT_dg k) (fun d hd => hdm d (List.mem_of_mem_take hd)))
      have HDD := hide (log_dg (k : Int) (noT k) (L.drop (belT L.length)) (noT_dg k) (fun d hd => hdm d (List.mem_of_mem_drop hd)))
      have HLT := hide (by rw [List.length_take]; omega : (L.take (belT L.length)).length = belT L.length)
      have HLD := hide (by rw [List.length_drop] : (L.drop (belT L.length)).length = L.length - belT L.length)
      generalize belT L.length = m at hbl hbh HBE HEL HER HTK HDR HDT HDD HLT HLD
      subst e1
      obtain ⟨n, hn⟩ : ∃ n, L.length = n := ⟨_, rfl⟩
      rw [hn] at hbl hbh HBE HDR HLD hq h2 h3 hN e2 ⊢
      have hwn : IntKind.u64.wrap (n : Int) = (n : Int) := by rw [wrM]; omega
      have hwm : IntKind.i64.wrap (m : Int) = (m : Int) := by simp [IntKind.wrap, IntKind.signed, IntKind.bits]; omega
      have q1 : ¬ (q : Int) = (n : Int) := by omega
      have q2 : ¬ (m : Int) < 0 := by omega
      have q3 : ¬ (cap : Int) < m := by omega
      have q4 : ¬ (n : Int) < m := by omega
      have q5 : ¬ cap = m := by omega
      have q6 : ¬ (cap : Int) = m := by omega
      have q7 : ¬ m = cap := by omega
      have hmb : m ≤ 1000000 := by omega
      have HB2 := hide hbh
      clear e4 e5 HV hdm ih h3 hbh hn
      by_cases hle : q ≤ m
      · have hle' : (q : Int) ≤ (m : Int) := by omega
        have HEQ := hide (unhide HEL hle)
        have HIS := hide (fun W (kk : Kept [] w W) => unhide HIH (.slice (some ⟨b, o, none⟩) m cap) (L.take m) q wh W (unhide HTK W kk) (by rw [unhide HLT]; omega) h1 (by rw [unhide HLT]; exact hle) (by rw [unhide HLT]; exact (unhide HB2).1) (by omega))
        have HLG := hide (fun W (kk : Kept [] w W) => logR_any k hk (L.drop m).length _ (L.drop m) W (Nat.le_refl _) (by rw [unhide HLD]; omega) (unhide HDR W kk))
        have HLN := hide (by have := sbD_len (k : Int) (L.take m) c q wh; omega : (sbD (k : Int) (L.take m) c q wh).length ≤ 66)
        have HDX := HDD
        generalize logT (k : Int) (noT k) (L.drop m) = X at HEQ HLG HDX
        generalize sbD (k : Int) (L.take m) c q wh = ds at HEQ HIS HLN
        have hxl := (unhide HDX).1
        clear HIH HEL HER HTK HDR HDT HDD HLT HLD HB2
        go_enter Tryd.func62, Tryd.ntmps62
        go_wp2_with (first | simp only [hwn])
        refine (unhide HBE _).mono ?_
        rintro e w1 ⟨rfl, hw1⟩
        rw [hw1]
        clear hw1 w1
        go_wp2_with (first | simp only [hwm])
        refine wp_sl15 (by kernel_rfl) (by kernel_rfl) (by kernel_rfl) (by kernel_rfl) (by kernel_rfl) (by kernel_rfl) (by kernel_rfl) (by kernel_rfl) (by kernel_rfl) (by kernel_rfl) (by kernel_rfl) (by kernel_rfl) (by kernel_rfl) (by kernel_rfl) (by kernel_rfl) (by kernel_rfl) (by kernel_rfl) (by kernel_rfl) (by kernel_rfl) (by kernel_rfl) (by kernel_rfl) (by kernel_rfl) (by kernel_rfl) (by kernel_rfl) (by kernel_rfl) (by kernel_rfl) (by kernel_rfl) (by kernel_rfl) (by kernel_rfl) rfl rfl rfl rfl
          (.int .i64 (k : Int)) (.slice (some ⟨b, o, none⟩) n cap) (.int .i64 (m : Int)) (.slice (some ⟨b, o, none⟩) m cap) (.int .i64 (q : Int)) (.bool wh) (.int .i64 (k : Int)) (.slice (some ⟨b, o, none⟩) n cap) (.int .i64 (m : Int)) (.slice (some ⟨b, o + m * 32, none⟩) (n - m) (cap - m)) _ _ _ _ _ _ _ _ _ _
          (fun w' => Kept [] w w')
          (fun w' => Kept [] w w')
          (fun u6 w' => (∃ aa cc, u6 = .slice aa ds.length cc) ∧ OwD w w' u6 ds)
          (fun u6 u11 w' => u11 = .agg (X.map Go.Proofs.YtecadmldnjlibaaDoor.u8).toArray ∧ (∃ aa cc, u6 = .slice aa ds.length cc) ∧ OwD w w' u6 ds)
          (fun u6 u11 u12 w' => u11 = .agg (X.map Go.Proofs.YtecadmldnjlibaaDoor.u8).toArray ∧ (∃ H, u12 = .slice (some ⟨H, 0, none⟩) 1 1 ∧ w'.heap[H]? = some (.cells (brow X) 41 (0, 0))) ∧ (∃ aa cc, u6 = .slice aa ds.length cc) ∧ OwD w w' u6 ds)
          (fun u6 u11 u12 u13 w' => (∃ aa cc, u13 = .slice aa (ds.length + 1) cc) ∧ OwD w w' u13 (ds ++ [X]))
          (fun u13 => u13)
          (by simp only [Act.put, List.setIfInBounds_toArray, List.set_cons_zero, List.set_cons_succ]; rfl) (by exact Or.inl ⟨by rfl, fun W' hW' => by go_simp⟩)
          (by simp only [Act.put, List.setIfInBounds_toArray, List.set_cons_zero, List.set_cons_succ]; rfl) (by exact Or.inl ⟨by rfl, fun W' hW' => by go_simp⟩)
          (by simp only [Act.put, List.setIfInBounds_toArray, List.set_cons_zero, List.set_cons_succ]; rfl) (by exact Or.inl ⟨by rfl, fun W' hW' => by go_simp⟩)
          (by simp only [Act.put, List.setIfInBounds_toArray, List.set_cons_zero, List.set_cons_succ]; rfl) (by exact Or.inl ⟨by rfl, fun W' hW' => by go_simp⟩)
          (by simp only [Act.put, List.setIfInBounds_toArray, List.set_cons_zero, List.set_cons_succ]; rfl) (by exact Or.inl ⟨by rfl, fun W' hW' => by go_simp⟩)
          (by simp only [Act.put, List.setIfInBounds_toArray, List.set_cons_zero, List.set_cons_succ]; rfl) (by exact Or.inl ⟨by rfl, fun W' hW' => by go_simp⟩)
          (by simp only [Act.put, List.setIfInBounds_toArray, List.set_cons_zero, List.set_cons_succ]; rfl) (by exact Or.inl ⟨by rfl, fun W' hW' => by go_simp⟩)
          (by simp only [Act.put, List.setIfInBounds_toArray, List.set_cons_zero, List.set_cons_succ]; rfl) (by exact Or.inl ⟨by rfl, fun W' hW' => by go_simp⟩)
          (by simp only [Act.put, List.setIfInBounds_toArray, List.set_cons_zero, List.set_cons_succ]; rfl) (by exact Or.inl ⟨by rfl, fun W' hW' => by go_simp⟩)
          (by simp only [Act.put, List.setIfInBounds_toArray, List.set_cons_zero, List.set_cons_succ]; rfl) (by exact Or.inl ⟨by rfl, fun W' hW' => by go_simp⟩)
          (Kept.refl [] w).drew
          ⟨fun w' h => h, fun u w' h => h.2.kept, fun u y w' h => h.2.2.kept, fun u y x w' h => h.2.2.2.kept, fun u y x q9 w' h => h.2.kept⟩
          (by intro w' i9 K hK; exact wp_callN rfl Tryd.call62 [(.int .i64 (k : Int)), (.slice (some ⟨b, o, none⟩) m cap), (.int .i64 (q : Int)), (.bool wh)] rfl (unhide HIS w' i9) (fun e w2 h => by obtain ⟨u, rfl, ho⟩ := h; obtain ⟨aa, cc, rfl⟩ := ho.form; exact ⟨_, rfl, hK _ _ ⟨⟨aa, cc, rfl⟩, ho.back i9⟩⟩))
          (by
            intro u6 w' hh K hK
            simp only [Act.put, List.setIfInBounds_toArray, List.set_cons_zero, List.set_cons_succ] at hK ⊢
            obtain ⟨⟨aa, cc, rfl⟩, ho⟩ := hh
            exact wp_callN rfl Tryd.call18 [(.int .i64 (k : Int)), (.slice (some ⟨b, o + m * 32, none⟩) (n - m) (cap - m))] rfl (unhide HLG w' ho.kept) (fun e w2 h => ⟨_, h.1, hK _ _ ⟨rfl, ⟨_, _, rfl⟩, ho.pass h.2⟩⟩))
          (by
            intro u6 u11 w' hh K hK
            simp only [Act.put, List.setIfInBounds_toArray, List.set_cons_zero, List.set_cons_succ] at hK ⊢
            obtain ⟨rfl, ⟨aa, cc, rfl⟩, ho⟩ := hh
            have hfs : ∀ A : Array Value, (List.foldl (fun cs x => cs.setIfInBounds x.snd x.fst) A (List.map u8 X).zipIdx).size = A.size := fun A => fold_size _ A 0
            unfold Oper.wp execOp
            go_simp
            rw [zb32, one_digP X hxl]
            exact hK _ _ ⟨rfl, ⟨_, rfl, heap_alloc_new _ _⟩, ⟨_, _, rfl⟩, ho.pass ((Kept.refl [] w').alloc _)⟩)
          (by
            intro u6 u11 u12 w' hh K hK
            simp only [Act.put, List.setIfInBounds_toArray, List.set_cons_zero, List.set_cons_succ] at hK ⊢
            obtain ⟨rfl, ⟨H, rfl, hH⟩, ⟨aa, cc, rfl⟩, ho⟩ := hh
            obtain ⟨ao1, cap1, w1, hrun, h2, h3⟩ := appendD w' w.heap.size (.slice aa ds.length cc) ds [X] (some ⟨H, 0, none⟩) 1 1 ho.own (RdD.oneP hH (unhide HDX)) (by have := unhide HLN; simp; omega) ho.kept.size
            exact wp_appendP rfl rfl rfl rfl hrun (hK _ _ ⟨⟨_, _, rfl⟩, ho.push (unhide HDX) h2 h3⟩))
          (by rintro u6 u11 u12 u13 w' ⟨⟨aa, cc, rfl⟩, _⟩; exact Or.inl ⟨by rfl, fun W' hW' => by go_simp⟩)
          ?_
        rintro u6 u11 u12 u13 X4 ⟨⟨aa, cc, rfl⟩, hO4⟩
        simp only [Act.put, List.setIfInBounds_toArray, List.set_cons_zero, List.set_cons_succ]
        have HO4 := hide hO4
        clear hO4
        go_wp2_with fail
        go_ret
        exact ⟨_, rfl, by rw [unhide HEQ]; exact unhide HO4⟩
      · have hle' : ¬ (q : Int) ≤ (m : Int) := by omega
        have HEQ := hide (unhide HER hle)
        have hqm : IntKind.i64.wrap ((q : Int) - (m : Int)) = ((q - m : Nat) : Int) := by simp [IntKind.wrap, IntKind.signed, IntKind.bits]; omega
        have HIS := hide (fun W (kk : Kept [] w W) => unhide HIH _ (L.drop m) (q - m) false W (unhide HDR W kk) (by rw [unhide HLD]; omega) (by omega) (by rw [unhide HLD]; omega) (by rw [unhide HLD]; exact (unhide HB2).2) (by omega))
        have HLG := hide (fun W (kk : Kept [] w W) => logR_any k hk (L.take m).length _ (L.take m) W (Nat.le_refl _) (by rw [unhide HLT]; omega) (unhide HTK W kk))
        have HLN := hide (by have := sbD_len (k : Int) (L.drop m) c (q - m) false; omega : (sbD (k : Int) (L.drop m) c (q - m) false).length ≤ 66)
        have HDX := HDT
        generalize logT (k : Int) (noT k) (L.take m) = X at HEQ HLG HDX
        generalize sbD (k : Int) (L.drop m) c (q - m) false = ds at HEQ HIS HLN
        obtain ⟨r, hr⟩ : ∃ r, q - m = r := ⟨_, rfl⟩
        rw [hr] at hqm HIS
        have hxl := (unhide HDX).1
        clear HIH HEL HER HTK HDR HDT HDD HLT HLD HB2 hr
        go_enter Tryd.func62, Tryd.ntmps62
        go_wp2_with (first | simp only [hwn])
        refine (unhide HBE _).mono ?_
        rintro e w1 ⟨rfl, hw1⟩
        rw [hw1]
        clear hw1 w1
        go_wp2_with (first | simp only [hwm])
        refine wp_sr16 (by kernel_rfl) (by kernel_rfl) (by kernel_rfl) (by kernel_rfl) (by kernel_rfl) (by kernel_rfl) (by kernel_rfl) (by kernel_rfl) (by kernel_rfl) (by kernel_rfl) (by kernel_rfl) (by kernel_rfl) (by kernel_rfl) (by kernel_rfl) (by kernel_rfl) (by kernel_rfl) (by kernel_rfl) (by kernel_rfl) (by kernel_rfl) (by kernel_rfl) (by kernel_rfl) (by kernel_rfl) (by kernel_rfl) (by kernel_rfl) (by kernel_rfl) (by kernel_rfl) (by kernel_rfl) (by kernel_rfl) (by kernel_rfl) (by kernel_rfl) (by kernel_rfl) rfl rfl rfl rfl
          (.int .i64 (k : Int)) (.slice (some ⟨b, o, none⟩) n cap) (.int .i64 (m : Int)) (.slice (some ⟨b, o + m * 32, none⟩) (n - m) (cap - m)) (.int .i64 (q : Int)) (.int .i64 (m : Int)) (.int .i64 (r : Int)) (.int .i64 (k : Int)) (.slice (some ⟨b, o, none⟩) n cap) (.int .i64 (m : Int)) (.slice (some ⟨b, o, none⟩) m cap) _ _ _ _ _ _ _ _ _ _ _
          (fun w' => Kept [] w w')
          (fun w' => Kept [] w w')
          (fun u6 w' => (∃ aa cc, u6 = .slice aa ds.length cc) ∧ OwD w w' u6 ds)
          (fun u6 u11 w' => u11 = .agg (X.map Go.Proofs.YtecadmldnjlibaaDoor.u8).toArray ∧ (∃ aa cc, u6 = .slice aa ds.length cc) ∧ OwD w w' u6 ds)
          (fun u6 u11 u12 w' => u11 = .agg (X.map Go.Proofs.YtecadmldnjlibaaDoor.u8).toArray ∧ (∃ H, u12 = .slice (some ⟨H, 0, none⟩) 1 1 ∧ w'.heap[H]? = some (.cells (brow X) 41 (0, 0))) ∧ (∃ aa cc, u6 = .slice aa ds.length cc) ∧ OwD w w' u6 ds)
          (fun u6 u11 u12 u13 w' => (∃ aa cc, u13 = .slice aa (ds.length + 1) cc) ∧ OwD w w' u13 (ds ++ [X]))
          (fun u13 => u13)
          (by simp only [Act.put, List.setIfInBounds_toArray, List.set_cons_zero, List.set_cons_succ]; rfl) (by exact Or.inl ⟨by rfl, fun W' hW' => by go_simp⟩)
          (by simp only [Act.put, List.setIfInBounds_toArray, List.set_cons_zero, List.set_cons_succ]; rfl) (by exact Or.inl ⟨by rfl, fun W' hW' => by go_simp⟩)
          (by simp only [Act.put, List.setIfInBounds_toArray, List.set_cons_zero, List.set_cons_succ]; rfl) (by exact Or.inl ⟨by rfl, fun W' hW' => by go_simp⟩)
          (by simp only [Act.put, List.setIfInBounds_toArray, List.set_cons_zero, List.set_cons_succ]; rfl) (by exact Or.inl ⟨by rfl, fun W' hW' => by go_simp⟩)
          (by simp only [Act.put, List.setIfInBounds_toArray, List.set_cons_zero, List.set_cons_succ]; rfl) (by exact Or.inl ⟨by rfl, fun W' hW' => by go_simp⟩)
          (by simp only [Act.put, List.setIfInBounds_toArray, List.set_cons_zero, List.set_cons_succ]; rfl) (by exact Or.inl ⟨by rfl, fun W' hW' => by go_simp⟩)
          (by simp only [Act.put, List.setIfInBounds_toArray, List.set_cons_zero, List.set_cons_succ]; rfl) (by exact Or.inl ⟨by rfl, fun W' hW' => by go_simp⟩)
          (by simp only [Act.put, List.setIfInBounds_toArray, List.set_cons_zero, List.set_cons_succ]; rfl) (by exact Or.inl ⟨by rfl, fun W' hW' => by go_simp⟩)
          (by simp only [Act.put, List.setIfInBounds_toArray, List.set_cons_zero, List.set_cons_succ]; rfl) (by exact Or.inl ⟨by rfl, fun W' hW' => by go_simp⟩)
          (by simp only [Act.put, List.setIfInBounds_toArray, List.set_cons_zero, List.set_cons_succ]; rfl) (by exact Or.inl ⟨by rfl, fun W' hW' => by go_simp⟩)
          (by simp only [Act.put, List.setIfInBounds_toArray, List.set_cons_zero, List.set_cons_succ]; rfl) (by exact Or.inl ⟨by rfl, fun W' hW' => by go_simp⟩)
          (Kept.refl [] w).drew
          ⟨fun w' h => h, fun u w' h => h.2.kept, fun u y w' h => h.2.2.kept, fun u y x w' h => h.2.2.2.kept, fun u y x q9 w' h => h.2.kept⟩
          (by intro w' i9 K hK; exact wp_callN rfl Tryd.call62 [(.int .i64 (k : Int)), (.slice (some ⟨b, o + m * 32, none⟩) (n - m) (cap - m)), (.int .i64 (r : Int)), (.bool false)] rfl (unhide HIS w' i9) (fun e w2 h => by obtain ⟨u, rfl, ho⟩ := h; obtain ⟨aa, cc, rfl⟩ := ho.form; exact ⟨_, rfl, hK _ _ ⟨⟨aa, cc, rfl⟩, ho.back i9⟩⟩))
          (by
            intro u6 w' hh K hK
            simp only [Act.put, List.setIfInBounds_toArray, List.set_cons_zero, List.set_cons_succ] at hK ⊢
            obtain ⟨⟨aa, cc, rfl⟩, ho⟩ := hh
            exact wp_callN rfl Tryd.call18 [(.int .i64 (k : Int)), (.slice (some ⟨b, o, none⟩) m cap)] rfl (unhide HLG w' ho.kept) (fun e w2 h => ⟨_, h.1, hK _ _ ⟨rfl, ⟨_, _, rfl⟩, ho.pass h.2⟩⟩))
          (by
            intro u6 u11 w' hh K hK
            simp only [Act.put, List.setIfInBounds_toArray, List.set_cons_zero, List.set_cons_succ] at hK ⊢
            obtain ⟨rfl, ⟨aa, cc, rfl⟩, ho⟩ := hh
            have hfs : ∀ A : Array Value, (List.foldl (fun cs x => cs.setIfInBounds x.snd x.fst) A (List.map u8 X).zipIdx).size = A.size := fun A => fold_size _ A 0
            unfold Oper.wp execOp
            go_simp
            rw [zb32, one_digP X hxl]
            exact hK _ _ ⟨rfl, ⟨_, rfl, heap_alloc_new _ _⟩, ⟨_, _, rfl⟩, ho.pass ((Kept.refl [] w').alloc _)⟩)
          (by
            intro u6 u11 u12 w' hh K hK
            simp only [Act.put, List.setIfInBounds_toArray, List.set_cons_zero, List.set_cons_succ] at hK ⊢
            obtain ⟨rfl, ⟨H, rfl, hH⟩, ⟨aa, cc, rfl⟩, ho⟩ := hh
            obtain ⟨ao1, cap1, w1, hrun, h2, h3⟩ := appendD w' w.heap.size (.slice aa ds.length cc) ds [X] (some ⟨H, 0, none⟩) 1 1 ho.own (RdD.oneP hH (unhide HDX)) (by have := unhide HLN; simp; omega) ho.kept.size
            exact wp_appendP rfl rfl rfl rfl hrun (hK _ _ ⟨⟨_, _, rfl⟩, ho.push (unhide HDX) h2 h3⟩))
          (by rintro u6 u11 u12 u13 w' ⟨⟨aa, cc, rfl⟩, _⟩; exact Or.inl ⟨by rfl, fun W' hW' => by go_simp⟩)
          ?_
        rintro u6 u11 u12 u13 X4 ⟨⟨aa, cc, rfl⟩, hO4⟩
        simp only [Act.put, List.setIfInBounds_toArray, List.set_cons_zero, List.set_cons_succ]
        have HO4 := hide hO4
        clear hO4
        go_wp2_with fail
        go_ret
        exact ⟨_, rfl, by rw [unhide HEQ]; exact unhide HO4⟩
end Go.Proofs.YtecadmldnjlibaaDoor
namespace Go.Proofs.YtecadmldnjlibaaDoor
open Go.RowKit Go.BigFrame
set_option linter.unusedVariables false
set_option linter.unusedSimpArgs false

set_option maxRecDepth 100000 in
set_option maxHeartbeats 1000000 in
theorem sinceR_any (k : Nat) (hk : 1 ≤ k ∧ k ≤ 32) (lv : Value) (L : List (List Nat)) (m : Nat) (w : World) (hl : RdD w lv L) (hN : L.length ≤ 1000000) (hm : m ≤ L.length) :
    Calls Tryd.prog 46 #[.int .i64 (k : Int), lv, .int .i64 (m : Int)] w fun e w' => ∃ u, e = .returned u ∧ OwD w w' u (if m = 0 then [] else sbD (k : Int) L 64 m true) := by
  by_cases h0 : m = 0
  · subst h0
    go_enter Tryd.func46, Tryd.ntmps46
    go_wp2_with fail
    go_ret
    exact ⟨_, rfl, OwD.nil _⟩
  · have h0' : ¬ (m : Int) = 0 := by omega
    rw [if_neg h0]
    have HS := hide (sub_any k hk 64 lv L m true w hl hN (by omega) hm (by omega) (Nat.le_refl _))
    generalize sbD (k : Int) L 64 m true = ds at HS ⊢
    clear hl
    go_enter Tryd.func46, Tryd.ntmps46
    go_wp2_with fail
    refine (unhide HS).mono ?_
    rintro e w1 ⟨u, rfl, o1⟩
    have HO := hide o1
    clear o1
    go_wp2_with fail
    go_ret
    exact ⟨_, rfl, unhide HO⟩

set_option maxRecDepth 100000 in
set_option maxHeartbeats 1000000 in
theorem docCons_any (k : Nat) (hk : 1 ≤ k ∧ k ≤ 32) (lv : Value) (L : List (List Nat)) (i n : Nat) (w : World) (hl : RdD w lv L) (hN : L.length ≤ 1000000) (hn64 : n < 18446744073709551616) :
    Calls Tryd.prog 26 #[.int .i64 (k : Int), lv, .int .u64 (i : Int), .int .u64 (n : Int)] w fun e w' => ∃ u, e = .returned (.tuple #[u, .int .i64 (csE L i n)]) ∧ OwD w w' u (csD (k : Int) L i n) := by
  have HL := hide hl
  obtain ⟨la, ll, lc, rfl, l1, l2, l3, -⟩ := id hl
  have hcv : IntKind.u64.wrap (ll : Int) = (ll : Int) := by rw [wrM]; omega
  by_cases h1 : n < i
  · have h1' : (n : Int) < (i : Int) := by omega
    have hE : csE L i n = 4 := by unfold csE; rw [if_pos (Or.inl h1)]
    have hD : csD (k : Int) L i n = [] := by unfold csD; rw [if_pos (Or.inl h1)]
    rw [hE, hD]
    clear hE hD hl l1
    go_enter Tryd.func26, Tryd.ntmps26
    go_wp2_with fail
    all_goals exact ⟨rfl, _, results_tmp2 rfl _ _ _, _, rfl, OwD.nil _⟩
  · have h1' : ¬ (n : Int) < (i : Int) := by omega
    by_cases h2 : ll < n
    · have h2' : (ll : Int) < (n : Int) := by omega
      have hE : csE L i n = 4 := by unfold csE; rw [if_pos (Or.inr (by omega))]
      have hD : csD (k : Int) L i n = [] := by unfold csD; rw [if_pos (Or.inr (by omega))]
      rw [hE, hD]
      clear hE hD hl l1
      go_enter Tryd.func26, Tryd.ntmps26
      go_wp2_with (simp only [hcv])
      all_goals exact ⟨rfl, _, results_tmp2 rfl _ _ _, _, rfl, OwD.nil _⟩
    · have h2' : ¬ (ll : Int) < (n : Int) := by omega
      have hE : csE L i n = 0 := by unfold csE; rw [if_neg (by omega)]
      have HP := hide (sinceR_any k hk (.slice la n lc) (L.take n) i w (hl.upto n (by omega)) (by rw [List.length_take]; omega) (by rw [List.length_take]; omega))
      rw [← csD_sub (L := L) (by omega) (by omega) hn64] at HP
      rw [hE]
      have hci : IntKind.i64.wrap (i : Int) = (i : Int) := by simp [IntKind.wrap, IntKind.signed, IntKind.bits]; omega
      have hnl : n ≤ ll := by omega
      have hnc : ¬ (lc : Int) < (n : Int) := by omega
      have hnc2 : n ≤ lc := by omega
      generalize csD (k : Int) L i n = ds at HP ⊢
      clear hE hl l1
      go_enter Tryd.func26, Tryd.ntmps26
      go_wp2_with (first | simp only [hcv] | simp only [hci])
      refine (unhide HP).mono ?_
      rintro e w1 ⟨u, rfl, o1⟩
      have HO := hide o1
      clear o1
      go_wp2_with fail
      exact ⟨rfl, _, results_tmp2 rfl _ _ _, u, rfl, unhide HO⟩
end Go.Proofs.YtecadmldnjlibaaDoor
/-
  A drawn region whose first n operations read, or call what keeps all that was there, and whose others stand in one row behind them: one walk in the text's order, over the worlds that keep W.
-/
namespace Go.Proofs.YtecadmldnjlibaaDoor
open Go Go.RowKit Go.BigFrame
set_option linter.unusedSimpArgs false

theorem wp_keep_tail {P : Program} {id : Nat} {Q : Exit → Act → World → Prop} {a : Act} {w : World} {l : List Oper} (n : Nat) (hm : P.follows .mixedOrders = true) (hB : Region.lexTailB .any l.toArray n = true)
    (h : wpQuiet P l.toArray (fun w' => Kept [] w w') (fun a' => ∀ w', Kept [] w w' → wpList P l.toArray Q (l.drop n) a' w') (l.take n) a) : (Code.region id l.toArray true).wp P Q a w := by
  simp only [Region.lexTailB, Bool.and_eq_true, decide_eq_true_eq] at hB
  obtain ⟨⟨⟨⟨hsel, hn⟩, hs⟩, hc⟩, hlex⟩ := hB
  have hn' : n < l.length := by simpa using hn
  have htl : (l.take n).length = n := by simp; omega
  have hdl : (l.drop n).length = l.toArray.size - n := by simp
  have inv : HeadInv .any l.toArray n (Array.replicate l.toArray.size false) :=
    ⟨by simp, fun j oj _ hl => absurd hl (by rw [getD_replicate_false]; decide), fun t _ ht => getD_in (by simpa using ht) (getD_replicate_false _ _)⟩
  have H := AnyHead.lex (md := .any) (g := l.toArray.size - n) hsel hs hc hn (l.take n) 0 _ a (fun j hj => by
    rw [htl] at hj
    simp [hj]) (by omega) inv (by rw [htl]; exact hlex) h
  refine wp_region_any hm ?_
  have K := AnyHead.any (Q := Q) (g := l.toArray.size - n) (fun d a' w' hw' hL => by
    have := wpAny_of_seq (md := .any) (Q' := Q) (l.drop n) n d a' w' (fun j => by simp [List.getElem?_drop]) (by rw [hdl]; exact hL.1) (hL.2 w' hw')
    rwa [hdl] at this) _ _ _ w.drew ((Kept.refl [] w).drew) H
  rw [htl, show n + (l.toArray.size - n) = l.toArray.size by omega] at K
  exact K
end Go.Proofs.YtecadmldnjlibaaDoor
namespace Go.Proofs.YtecadmldnjlibaaDoor
open Go.RowKit Go.BigFrame
set_option linter.unusedVariables false
set_option linter.unusedSimpArgs false

/-- The digest that is written at place j. -/
def mD (r c j : Nat) : List Nat := (r % 256) :: (j % 256) :: (c % 256) :: List.replicate 29 0
theorem mD_dg (r c j : Nat) : Dg (mD r c j) := ⟨by simp [mD], by
  intro x hx
  simp only [mD, List.mem_cons, List.mem_replicate] at hx
  rcases hx with rfl | rfl | rfl | ⟨_, rfl⟩ <;> omega⟩
theorem mD_built (x y z : Int) : Tryd.prog.built 41 [(0, .int .u8 x), (1, .int .u8 y), (2, .int .u8 z)] = some (.int .u8 x :: .int .u8 y :: .int .u8 z :: List.replicate 29 (.int .u8 0)).toArray := by kernel_rfl
theorem mD_brow (r c j : Nat) : brow (mD r c j) = (.int .u8 ((r % 256 : Nat) : Int) :: .int .u8 ((j % 256 : Nat) : Int) :: .int .u8 ((c % 256 : Nat) : Int) :: List.replicate 29 (.int .u8 0)).toArray := by
  simp [brow, mD, u8]
def nD (k : Nat) : List Nat := (k % 256) :: 200 :: List.replicate 30 0
theorem nD_dg (k : Nat) : Dg (nD k) := ⟨by simp [nD], by
  intro x hx
  simp only [nD, List.mem_cons, List.mem_replicate] at hx
  rcases hx with rfl | rfl | ⟨_, rfl⟩ <;> omega⟩
theorem nD_built (x : Int) : Tryd.prog.built 41 [(0, .int .u8 x), (1, .int .u8 200)] = some (.int .u8 x :: .int .u8 200 :: List.replicate 30 (.int .u8 0)).toArray := by kernel_rfl
theorem nD_brow (k : Nat) : brow (nD k) = (.int .u8 ((k % 256 : Nat) : Int) :: .int .u8 200 :: List.replicate 30 (.int .u8 0)).toArray := by
  simp [brow, nD, u8]
/-- A list written over up to place i. -/
def owG (f : Nat → List Nat) (F : List (List Nat)) (i : Nat) : List (List Nat) := (List.range i).map f ++ F.drop i
theorem owG_len {f : Nat → List Nat} {F : List (List Nat)} {i : Nat} (h : i ≤ F.length) : (owG f F i).length = F.length := by simp [owG]; omega
theorem owG_dg {f : Nat → List Nat} {F : List (List Nat)} (hf : ∀ j, Dg (f j)) (h : ∀ d ∈ F, Dg d) (i : Nat) : ∀ d ∈ owG f F i, Dg d := by
  intro d hd
  rcases List.mem_append.1 hd with hd | hd
  · obtain ⟨j, _, rfl⟩ := List.mem_map.1 hd; exact hf j
  · exact h d (List.mem_of_mem_drop hd)
theorem owG_set {f : Nat → List Nat} {F : List (List Nat)} {i : Nat} (h : i < F.length) : (owG f F i).set i (f i) = owG f F (i + 1) := by
  unfold owG
  rw [List.set_append_right _ _ (by simp), List.length_map, List.length_range, Nat.sub_self, List.drop_eq_getElem_cons h, List.set_cons_zero, List.range_succ, List.map_append, List.append_assoc]
  rfl
theorem owG_zero (f : Nat → List Nat) (F : List (List Nat)) : owG f F 0 = F := by simp [owG]
theorem owG_end {f : Nat → List Nat} {F : List (List Nat)} {n : Nat} (h : F.length = n) : owG f F n = (List.range n).map f := by
  unfold owG
  rw [List.drop_of_length_le (by omega), List.append_nil]
/-- The lists that are kept behind k rounds. -/
def mL (r c n : Nat) : List (List Nat) := (List.range n).map (mD r c)
def wL (a b : Nat) : Nat → List (List (List Nat))
  | 0 => []
  | k + 1 => wL a b k ++ [mL k 77 a, mL k 78 b]
theorem wL_len (a b k : Nat) : (wL a b k).length = 2 * k := by
  induction k with
  | zero => rfl
  | succ k ih => rw [wL, List.length_append, ih]; simp; omega
theorem wL_at {a b n k : Nat} (h : k < 2 * n) : (wL a b n)[k]? = some (if k % 2 = 0 then mL (k / 2) 77 a else mL (k / 2) 78 b) := by
  induction n with
  | zero => omega
  | succ n ih =>
    rw [wL]
    rcases Nat.lt_or_ge k (2 * n) with h9 | h9
    · rw [List.getElem?_append_left (by rw [wL_len]; exact h9), ih h9]
    · rw [List.getElem?_append_right (by rw [wL_len]; exact h9), wL_len]
      rcases (by omega : k = 2 * n ∨ k = 2 * n + 1) with rfl | rfl
      · rw [if_pos (by omega), show 2 * n / 2 = n by omega, show 2 * n - 2 * n = 0 by omega]; rfl
      · rw [if_neg (by omega), show (2 * n + 1) / 2 = n by omega, show 2 * n + 1 - 2 * n = 1 by omega]; rfl
theorem OwD.base {w0 w : World} {v : Value} {ds : List (List Nat)} (h : OwD w0 w v ds) {B : Nat} (hb : B ≤ w0.heap.size) : w.ownsRow B 41 32 v ds.length (flatD ds) := owns_baseK h.own hb
theorem own_new {w : World} {B n : Nat} {e s : Nat} {v : Value} {xs : List Value} (h : w.ownsRow B e s v n xs) {w0 : World} {B' e' s' n' : Nat} {v' : Value} {xs' : List Value} (h' : w0.ownsRow B' e' s' v' n' xs') (hB : w0.heap.size ≤ B) : ∀ b, v.ownBlock = some b → v'.ownBlock ≠ some b := by
  intro b hb hb'
  have h1 := (h.lt b hb).1
  have h2 := (h'.lt b hb').2
  omega

theorem KM.cell {B : Nat} {w : World} {gh n c : Nat} {rows : List (Value × List (List Nat))} (h : KM B w (.slice (some ⟨gh, 0, none⟩) n c) rows) {k : Nat} {r : Value × List (List Nat)} (hr : rows[k]? = some r) : w.cell? ⟨gh, k, none⟩ = some r.1 := by
  have h9 := h.hdr.cells (g := gh) rfl k r.1 (by rw [List.getElem?_map, hr]; rfl)
  rw [Addr.add_mid, Nat.zero_add] at h9
  exact h9
theorem KM.form {B : Nat} {w : World} {kv : Value} {rows : List (Value × List (List Nat))} (h : KM B w kv rows) (hp : 0 < rows.length) : ∃ gh c, kv = .slice (some ⟨gh, 0, none⟩) rows.length c := by
  rcases h.hdr.2 with ⟨_, h9⟩ | ⟨g, cap, cur, e, _⟩
  · omega
  · exact ⟨g, cap, e⟩
theorem mL_at {r c n j : Nat} (h : j < n) : (mL r c n).getD j [] = mD r c j := by
  unfold mL
  rw [List.getD_eq_getElem?_getD, List.getElem?_map, List.getElem?_range h]
  rfl

set_option maxRecDepth 100000 in
set_option maxHeartbeats 4000000 in
theorem mproofMemory_go (z : Int) (lv : Value) (ls : List (List Nat)) (i m n : Nat) (w : World) (hz : -9223372036854775808 ≤ z ∧ z ≤ 9223372036854775807) (hl : RdD w lv ls) (hN : ls.length < 32768) (hi64 : i < 18446744073709551616) (hm64 : m < 18446744073709551616) (hn64 : n < 18446744073709551616) (hT : Tabs w) (h6 : Tab6 w) :
    Calls Tryd.prog 7 #[.int .i64 z, lv, .int .u64 (i : Int), .int .u64 (m : Int), .int .u64 (n : Int)] w fun e w' => e = .returned (.bool true) ∧ Kept [] w w' := by
  have HTB := hide hT
  have H6 := hide h6
  have HL := hide hl
  clear hT h6 hl
  go_enter Tryd.func7, Tryd.ntmps7
  go_wp2_with fail
  refine (mpawake_any w (unhide HTB) (unhide H6)).mono ?_
  rintro e w1 ⟨rfl, k1⟩
  have HK1 := hide k1
  clear k1
  go_wp2_with fail
  cases hwb : widthB z with
  | false =>
    refine (tree_bad z lv ls w1 hz hwb).mono ?_
    rintro e w2 ⟨h1, _⟩
    obtain ⟨rfl, k2⟩ := h1 hwb
    have HK2 := hide ((unhide HK1).trans k2 (by simp))
    clear k2 h1
    go_wp2_with fail
    all_goals go_ret
    all_goals exact ⟨rfl, unhide HK2⟩
  | true =>
    obtain ⟨hz1, hz2⟩ : 1 ≤ z ∧ z ≤ 32 := by simpa [widthB] using hwb
    obtain ⟨k, rfl⟩ : ∃ k : Nat, z = k := ⟨z.toNat, by omega⟩
    refine (tree_ok k lv ls w1 (by omega) (by omega) ((unhide HL).old (unhide HK1)) (by omega) ((unhide HTB).kept (unhide HK1) (by simp) (by simp)) ((unhide H6).kept (unhide HK1))).mono ?_
    rintro e w2 ⟨_, h2⟩
    obtain ⟨t, v, qs, u, rfl, tr, hlv, ow⟩ := h2 hwb
    rw [Int.toNat_natCast] at hlv ow
    have HT2 := hide tr
    have HO2 := hide (ow.back (unhide HK1))
    have HLV := hide hlv
    have hll9 : (ls.map (cutL k)).length = ls.length := by rw [List.length_map]
    have HLL := hide hll9
    clear h2 tr hlv ow hwb hll9
    obtain ⟨ua, uc, rfl⟩ := (unhide HO2).form
    generalize ls.map (cutL k) = L at HO2 HLV HLL
    obtain ⟨nl, hnl⟩ : ∃ nl, ls.length = nl := ⟨_, rfl⟩
    have HNL := hide (by rw [unhide HLL, hnl] : L.length = nl)
    have hcv : IntKind.u64.wrap (nl : Int) = (nl : Int) := by rw [wrM]; omega
    rw [hnl] at hN
    simp only [unhide HNL]
    clear hnl HLL
    by_cases hbig : nl < n
    · have hbig' : (nl : Int) < (n : Int) := by omega
      go_wp2_with (simp only [hcv])
      all_goals go_ret
      all_goals exact ⟨rfl, (unhide HO2).kept⟩
    · have hbig' : ¬ (nl : Int) < (n : Int) := by omega
      have HRu := hide (by have h9 := (unhide HO2).rd; rw [unhide HNL] at h9; exact h9 : RdD w2 (.slice ua nl uc) L)
      have HB := hide (by rw [unhide HLV, unhide HNL]; exact hN : (leavesK qs).length < 32768)
      have HTK := hide (fun W (kk : Kept [] w2 W) => (unhide HTB).kept ((unhide HO2).kept.trans kk (by simp)) (by simp) (by simp))
      have H6K := hide (fun W (kk : Kept [] w2 W) => (unhide H6).kept ((unhide HO2).kept.trans kk (by simp)))
      have HIN := hide (fun W (kk : Kept [] w2 W) => mincl_any (k : Int) t v qs i n W ((unhide HT2).old kk) (unhide HB) (unhide HTK W kk) (unhide H6K W kk) hn64)
      have HCO := hide (fun W (kk : Kept [] w2 W) => mcons_any (k : Int) t v qs m n W ((unhide HT2).old kk) (unhide HB) (unhide HTK W kk) (unhide H6K W kk) hn64)
      have HRN := hide (fun W (kk : Kept [] w2 W) => rootT_all (k : Int) t v qs n W ((unhide HT2).old kk) (unhide HB) (unhide HTK W kk) (unhide H6K W kk))
      have HDI := hide (fun W (kk : Kept [] w2 W) => docIncl_any k ⟨by omega, by omega⟩ (.slice ua nl uc) L i n W ((unhide HRu).old kk) (by rw [unhide HNL]; omega) hn64)
      have HDC := hide (fun W (kk : Kept [] w2 W) => docCons_any k ⟨by omega, by omega⟩ (.slice ua nl uc) L m n W ((unhide HRu).old kk) (by rw [unhide HNL]; omega) hn64)
      have HLD := hide (fun d (hd : d ∈ L) => (unhide HRu).dg hd)
      rw [unhide HLV] at HIN HCO HRN
      rw [show rgD (k : Int) L 0 n = rngD (k : Int) (noT (k : Int)) L 0 n from if_neg (by rw [unhide HNL]; omega), show rgE L 0 n = 0 from if_neg (by rw [unhide HNL]; omega)] at HRN
      have HLG := hide (fun W ao (kk : Kept [] w2 W) (hr : RdD W (.slice ao n uc) (L.take n)) => (by have h9 := logR_any k ⟨by omega, by omega⟩ n (.slice ao n uc) (L.take n) W (by rw [List.length_take]; omega) (by rw [List.length_take, unhide HNL]; omega) hr; exact h9 : Calls Tryd.prog 18 #[.int .i64 (k : Int), .slice ao n uc] W fun e w' => e = .returned (.agg (brow (rngD (k : Int) (noT (k : Int)) L 0 n))) ∧ Kept [] W w'))
      have hdr : Dg (rngD (k : Int) (noT (k : Int)) L 0 n) := log_dg (k : Int) (noT k) ((L.drop 0).take (n - 0)) (noT_dg _) (fun d hd => unhide HLD d (List.mem_of_mem_drop (List.mem_of_mem_take hd)))
      have HDR := hide hdr
      clear hdr
      have hP65 : (inD (k : Int) L i n).length ≤ 64 := by
        unfold inD
        split
        · simp
        · unfold rgL; rw [List.length_map]; exact pathF_len i 64 0 n
      have hQ65 : (csD (k : Int) L m n).length ≤ 65 := by
        unfold csD
        split
        · simp
        · unfold rgL; rw [List.length_map]; exact smL_le m n
      generalize rngD (k : Int) (noT (k : Int)) L 0 n = R at HRN HLG HDR
      generalize inD (k : Int) L i n = P at HIN HDI hP65
      generalize csD (k : Int) L m n = Q at HCO HDC hQ65
      generalize inE L i n = pe at HIN HDI
      generalize csE L m n = qe at HCO HDC
      clear HT2 HLV
      go_wp2_with (simp only [hcv])
      refine (unhide HDI w2 (Kept.refl _ _)).mono ?_
      rintro e w3 ⟨dp, rfl, o3⟩
      have HDP3 := hide o3.rd
      have HK3 := hide o3.kept
      clear o3 HDI
      go_wp2_with fail
      refine (unhide HDC w3 (unhide HK3)).mono ?_
      rintro e w4 ⟨dq, rfl, o4⟩
      have HDQ := hide o4.rd
      have HDP := hide ((unhide HDP3).old o4.kept)
      have HK4 := hide ((unhide HK3).trans o4.kept (by simp))
      clear o4 HDC HDP3 HK3
      obtain ⟨pn, hpn⟩ : ∃ pn, P.length = pn := ⟨_, rfl⟩
      obtain ⟨qn, hqn⟩ : ∃ qn, Q.length = qn := ⟨_, rfl⟩
      rw [hpn] at hP65
      rw [hqn] at hQ65
      have HPN := hide hpn
      have HQN := hide hqn
      clear hpn hqn
      go_wp2_with fail
      go_loopw [18, 19] (fun t18 t19 wr => ∃ (r : Nat) (kv : Value) (rows : List (Value × List (List Nat))), r ≤ 3 ∧ t18 = kv ∧ t19 = .int .i64 (r : Int) ∧ Hid (KM w4.heap.size wr kv rows) ∧ Hid (rows.map (·.2) = wL pn qn r) ∧ Hid (Kept [] w4 wr)) (fun _ t _ => 3 - (intOf t).toNat)
      case atStart => exact ⟨0, _, [], by omega, rfl, rfl, hide (KM.nil _ _), hide rfl, hide (Kept.refl _ _)⟩
      case round =>
        obtain ⟨r, kv, rows, hr3, rfl, rfl, HKM, HWL, HKr⟩ := hrel
        obtain ⟨W0, hW0⟩ : ∃ W0, W0 = wr := ⟨_, rfl⟩
        subst hW0
        by_cases hrl : r < 3
        · have hrl' : (r : Int) < 3 := by omega
          go_wp2_with fail
          refine (unhide HIN W0 ((unhide HK4).trans (unhide HKr) (by simp))).mono ?_
          rintro e w5 ⟨p, rfl, o5⟩
          have HP5 := hide o5
          obtain ⟨pa, pc, rfl⟩ := o5.form
          clear o5
          go_wp2_with fail
          refine (unhide HCO w5 (((unhide HK4).trans (unhide HKr) (by simp)).trans (unhide HP5).kept (by simp))).mono ?_
          rintro e w6 ⟨q, rfl, o6⟩
          have HQ6 := hide o6
          obtain ⟨qa, qc, rfl⟩ := o6.form
          have HP6 := hide ((unhide HP5).pass o6.kept)
          have HK6 := hide ((unhide HKr).trans ((unhide HP5).kept.trans o6.kept (by simp)) (by simp))
          have HNPQ := hide (own_new o6.own (unhide HP5).own (Nat.le_refl _))
          have HPo := hide (unhide HP5).own
          have HSZ5 := hide (unhide HP5).kept.size
          clear o6 HP5
          go_wp2_with fail
          refine (samep_any (.slice pa P.length pc) dp P w6 (unhide HP6).rd ((unhide HDP).old (unhide HK6))).mono ?_
          rintro e w7 ⟨rfl, k7⟩
          have HP7 := hide ((unhide HP6).pass k7)
          have HQ7 := hide ((unhide HQ6).pass k7)
          have HK7 := hide ((unhide HK6).trans k7 (by simp))
          clear k7 HP6 HQ6 HK6
          go_wp2_with fail
          refine (samep_any (.slice qa Q.length qc) dq Q w7 (unhide HQ7).rd ((unhide HDQ).old (unhide HK7))).mono ?_
          rintro e w8 ⟨rfl, k8⟩
          have HP8 := hide ((unhide HP7).pass k8)
          have HQ8 := hide ((unhide HQ7).pass k8)
          have HK8 := hide ((unhide HK7).trans k8 (by simp))
          clear k8 HP7 HQ7 HK7
          simp only [unhide HPN, unhide HQN]
          go_wp2_with fail
          have HX0 := hide (by rw [owG_zero]; have h9 := (unhide HP8).own; rw [unhide HPN] at h9; exact h9 : w8.ownsRow W0.heap.size 41 32 (.slice pa pn pc) pn (flatD (owG (mD r 77) P 0)))
          have HY0 := hide (by have h9 := (unhide HQ8).own; rw [unhide HQN] at h9; exact h9 : w8.ownsRow w5.heap.size 41 32 (.slice qa qn qc) qn (flatD Q))
          rw [unhide HPN] at HNPQ HPo
          rw [unhide HQN] at HNPQ
          have HPD := hide (unhide HP8).dg
          have HQD := hide (unhide HQ8).dg
          have HC0 := hide ((unhide HP8).kept)
          have hw5 : W0.heap.size ≤ w5.heap.size := (unhide HSZ5)
          have hw54 : w4.heap.size ≤ W0.heap.size := (unhide HKr).size
          have hr8 : IntKind.u8.wrap (r : Int) = ((r % 256 : Nat) : Int) := by simp [IntKind.wrap, IntKind.signed, IntKind.bits]
          clear HP8 HQ8 HK8
          go_loopw [24] (fun t24 wr => ∃ (j : Nat), j ≤ pn ∧ t24 = .int .i64 (j : Int) ∧ Hid (wr.ownsRow W0.heap.size 41 32 (.slice pa pn pc) pn (flatD (owG (mD r 77) P j))) ∧ Hid (wr.ownsRow w5.heap.size 41 32 (.slice qa qn qc) qn (flatD Q)) ∧ Hid (Kept [] W0 wr)) (fun t _ => pn - (intOf t).toNat)
          case atStart => exact ⟨0, Nat.zero_le _, rfl, HX0, HY0, HC0⟩
          case round =>
            obtain ⟨j, hj, rfl, HXj, HYj, HCj⟩ := hrel
            by_cases hjn : j < pn
            · have hjn' : (j : Int) < (pn : Int) := by omega
              obtain ⟨gp, rfl⟩ : ∃ gp, pa = some ⟨gp, 0, none⟩ := by
                rcases (unhide HXj).2 with ⟨_, h9⟩ | ⟨g, cap, cur, e, _⟩
                · omega
                · simp only [Value.slice.injEq] at e; exact ⟨g, e.1⟩
              have hol : (owG (mD r 77) P j).length = pn := by rw [owG_len (by rw [unhide HPN]; exact hj), unhide HPN]
              have hpt := owns_put (X := mD r 77 j) (by rw [hol]; exact unhide HXj) (fun d hd => (owG_dg (mD_dg r 77) (unhide HPD) j d hd).1) (by rw [hol]; exact hjn) (mD_dg r 77 j).1
              rw [owG_set (by rw [unhide HPN]; exact hjn), hol] at hpt
              obtain ⟨hth, hop, hkp⟩ := hpt
              have HTH := hide hth
              have HOp := hide hop
              have HYp := hide (hkp.owns (unhide HYj) (by intro b hb hm; rw [List.mem_singleton] at hm; subst hm; exact unhide HNPQ _ hb rfl))
              have HCp := hide ((unhide HCj).trans hkp (by intro x hx; right; rw [List.mem_singleton] at hx; subst hx; exact ((unhide HXj).lt _ rfl).1))
              have hj8 : IntKind.u8.wrap (j : Int) = ((j % 256 : Nat) : Int) := by simp [IntKind.wrap, IntKind.signed, IntKind.bits]
              have ib : ¬ (pn : Int) ≤ (j : Int) := by omega
              have HBB := hide (by rw [mD_brow]; exact mD_built _ _ 77 : Tryd.prog.built 41 [(0, .int .u8 ((r % 256 : Nat) : Int)), (1, .int .u8 ((j % 256 : Nat) : Int)), (2, .int .u8 77)] = some (brow (mD r 77 j)))
              have hbsz : (brow (mD r 77 j)).size = 32 := by rw [brow_size, (mD_dg r 77 j).1]
              obtain ⟨wp, hwp⟩ : ∃ wp, wr.setCells gp (j * 32) ((mD r 77 j).map Go.Proofs.YtecadmldnjlibaaDoor.u8) = wp := ⟨_, rfl⟩
              rw [hwp] at HOp HYp HCp
              have HWP := hide (by rw [← hwp]; simp [brow] : wr.setCells gp (j * 32) (brow (mD r 77 j)).toList = wp)
              clear hth hop hkp hwp hol
              go_wp2_with (first
                | (simp only [hr8, hj8])
                | (refine wpList_build_as rfl 41 _ rfl (brow (mD r 77 j)) (by exact unhide HBB) ?_)
                | (refine wpList_store_mid rfl 41 (.tmp 110) (.tmp 109) rfl gp (j * 32) (brow (mD r 77 j)) rfl rfl (by rw [hbsz]; exact unhide HTH) (Tryd.szD (mD_dg r 77 j).1) (brow_one _) ?_; rw [unhide HWP]))
              refine ⟨⟨j + 1, by omega, by go_num, HOp, HYp, HCp⟩, ?_⟩
              simp [intOf]; omega
            · have hjn' : ¬ (j : Int) < (pn : Int) := by omega
              have hje : pn = j := by omega
              subst hje
              rw [owG_end (unhide HPN)] at HXj
              obtain ⟨W1, hW1⟩ : ∃ W1, W1 = wr := ⟨_, rfl⟩
              subst hW1
              go_wp2_with fail
              have HYz := hide (by rw [owG_zero]; exact unhide HYj : W1.ownsRow w5.heap.size 41 32 (.slice qa qn qc) qn (flatD (owG (mD r 78) Q 0)))
              have HNQP := hide (fun b (hb : (Value.slice pa pn pc).ownBlock = some b) (e : (Value.slice qa qn qc).ownBlock = some b) => unhide HNPQ b e hb)
              go_loopw [25] (fun t25 wr => ∃ (j : Nat), j ≤ qn ∧ t25 = .int .i64 (j : Int) ∧ Hid (wr.ownsRow w5.heap.size 41 32 (.slice qa qn qc) qn (flatD (owG (mD r 78) Q j))) ∧ Hid (wr.ownsRow W0.heap.size 41 32 (.slice pa pn pc) pn (flatD ((List.range pn).map (mD r 77)))) ∧ Hid (Kept [] W0 wr)) (fun t _ => qn - (intOf t).toNat)
              case atStart => exact ⟨0, Nat.zero_le _, rfl, HYz, HXj, HCj⟩
              case round =>
                obtain ⟨j, hj, rfl, HXk, HYk, HCk⟩ := hrel
                by_cases hjn : j < qn
                · have hjn' : (j : Int) < (qn : Int) := by omega
                  obtain ⟨gp, rfl⟩ : ∃ gp, qa = some ⟨gp, 0, none⟩ := by
                    rcases (unhide HXk).2 with ⟨_, h9⟩ | ⟨g, cap, cur, e, _⟩
                    · omega
                    · simp only [Value.slice.injEq] at e; exact ⟨g, e.1⟩
                  have hol : (owG (mD r 78) Q j).length = qn := by rw [owG_len (by rw [unhide HQN]; exact hj), unhide HQN]
                  have hpt := owns_put (X := mD r 78 j) (by rw [hol]; exact unhide HXk) (fun d hd => (owG_dg (mD_dg r 78) (unhide HQD) j d hd).1) (by rw [hol]; exact hjn) (mD_dg r 78 j).1
                  rw [owG_set (by rw [unhide HQN]; exact hjn), hol] at hpt
                  obtain ⟨hth, hop, hkp⟩ := hpt
                  have HTH := hide hth
                  have HOp := hide hop
                  have HYp := hide (hkp.owns (unhide HYk) (by intro b hb hm; rw [List.mem_singleton] at hm; subst hm; exact unhide HNQP _ hb rfl))
                  have HCp := hide ((unhide HCk).trans hkp (by intro x hx; right; rw [List.mem_singleton] at hx; subst hx; exact Nat.le_trans hw5 ((unhide HXk).lt _ rfl).1))
                  have hj8 : IntKind.u8.wrap (j : Int) = ((j % 256 : Nat) : Int) := by simp [IntKind.wrap, IntKind.signed, IntKind.bits]
                  have ib : ¬ (qn : Int) ≤ (j : Int) := by omega
                  have HBB := hide (by rw [mD_brow]; exact mD_built _ _ 78 : Tryd.prog.built 41 [(0, .int .u8 ((r % 256 : Nat) : Int)), (1, .int .u8 ((j % 256 : Nat) : Int)), (2, .int .u8 78)] = some (brow (mD r 78 j)))
                  have hbsz : (brow (mD r 78 j)).size = 32 := by rw [brow_size, (mD_dg r 78 j).1]
                  obtain ⟨wp, hwp⟩ : ∃ wp, wr.setCells gp (j * 32) ((mD r 78 j).map Go.Proofs.YtecadmldnjlibaaDoor.u8) = wp := ⟨_, rfl⟩
                  rw [hwp] at HOp HYp HCp
                  have HWP := hide (by rw [← hwp]; simp [brow] : wr.setCells gp (j * 32) (brow (mD r 78 j)).toList = wp)
                  clear hth hop hkp hwp hol
                  go_wp2_with (first
                    | (simp only [hr8, hj8])
                    | (refine wpList_build_as rfl 41 _ rfl (brow (mD r 78 j)) (by exact unhide HBB) ?_)
                    | (refine wpList_store_mid rfl 41 (.tmp 124) (.tmp 123) rfl gp (j * 32) (brow (mD r 78 j)) rfl rfl (by rw [hbsz]; exact unhide HTH) (Tryd.szD (mD_dg r 78 j).1) (brow_one _) ?_; rw [unhide HWP]))
                  refine ⟨⟨j + 1, by omega, by go_num, HOp, HYp, HCp⟩, ?_⟩
                  simp [intOf]; omega
                · have hjn' : ¬ (j : Int) < (qn : Int) := by omega
                  have hje : qn = j := by omega
                  subst hje
                  rw [owG_end (unhide HQN)] at HXk
                  obtain ⟨W2, hW2⟩ : ∃ W2, W2 = wr := ⟨_, rfl⟩
                  subst hW2
                  have hrw : rows.length = 2 * r := by have h9 := congrArg List.length (unhide HWL); rw [List.length_map, wL_len] at h9; exact h9
                  have HRW := hide hrw
                  clear hrw
                  have HKMw := hide ((unhide HKM).old (unhide HCk))
                  have HALN := hide (heap_alloc_new W2 (.cells #[.slice pa pn pc, .slice qa qn qc] 32))
                  have kA := (Kept.refl [] W2).alloc (.cells #[.slice pa pn pc, .slice qa qn qc] 32)
                  have HKMa := hide ((unhide HKMw).old kA)
                  have HPa := hide (kA.owns (unhide HYk) (by simp))
                  have HQa := hide (kA.owns (unhide HXk) (by simp))
                  have HCa := hide ((unhide HCk).trans kA (by simp))
                  have hml : ∀ c x, ((List.range x).map (mD r c)).length = x := fun c x => by simp
                  clear kA
                  go_wp2_with (at_builtin; refine wpList_push2 rfl (.tmp 125) (.tmp 128) rfl rfl (W2.alloc (.cells #[.slice pa pn pc, .slice qa qn qc] 32)) w4.heap.size u18 (rows.map (·.1)) (.slice pa pn pc) (.slice qa qn qc) W2.heap.size (by rw [List.length_map]; exact (unhide HKMa).hdr) (unhide HALN) rfl rfl (by rw [List.length_map, unhide HRW]; omega) (by have := (unhide HCa).size; omega) rfl rfl ?_; intro gk ck w9 HOk HGk HAt)
                  have HKM9 := hide (by
                    rw [List.length_map] at HOk
                    exact (unhide HKMa).push (ps := (List.range pn).map (mD r 77)) (qs := (List.range qn).map (mD r 78)) (by rw [hml]; exact owns_baseK (unhide HPa) (by omega)) (by rw [hml]; exact owns_baseK (unhide HQa) (by omega))
                      (by intro d hd; obtain ⟨x, _, rfl⟩ := List.mem_map.1 hd; exact mD_dg _ _ _) (by intro d hd; obtain ⟨x, _, rfl⟩ := List.mem_map.1 hd; exact mD_dg _ _ _)
                      (fun s hs => own_new (unhide HPa) ((unhide HKM).own s hs) (Nat.le_refl _)) (fun s hs => own_new (unhide HQa) ((unhide HKM).own s hs) hw5) (unhide HNQP) (unhide HGk) (unhide HOk))
                  have HWL9 := hide (by rw [List.map_append, unhide HWL]; rfl : (rows ++ [(Value.slice pa pn pc, (List.range pn).map (mD r 77)), (Value.slice qa qn qc, (List.range qn).map (mD r 78))]).map (·.2) = wL pn qn (r + 1))
                  have HKr9 := hide (((unhide HKr).trans (unhide HCa) (by simp)).grown (unhide HGk) (by intro b hb; right; exact ((unhide HKM).hdr.lt b hb).1))
                  clear HOk HGk HAt
                  go_wp2_with fail
                  refine ⟨⟨r + 1, _, _, by omega, rfl, by go_num, HKM9, HWL9, HKr9⟩, ?_⟩
                  simp [intOf]; omega
        · have hrl' : ¬ (r : Int) < 3 := by omega
          have hre : r = 3 := by omega
          subst hre
          go_wp2_with fail
          have HR6 := hide (by have h9 := congrArg List.length (unhide HWL); rw [List.length_map, wL_len] at h9; exact h9 : rows.length = 6)
          obtain ⟨gh, ch, rfl⟩ := (unhide HKM).form (by rw [unhide HR6]; omega)
          simp only [unhide HR6]
          have HKM6 := hide (by have h9 := unhide HKM; rw [unhide HR6] at h9; exact h9 : KM w4.heap.size W0 (.slice (some ⟨gh, 0, none⟩) 6 ch) rows)
          have HROW := hide (fun x (hx : x < 6) => (by
            obtain ⟨s, hs⟩ : ∃ s, rows[x]? = some s := ⟨_, List.getElem?_eq_getElem (by rw [unhide HR6]; exact hx)⟩
            have h9 := congrArg (fun l => l[x]?) (unhide HWL)
            simp only [List.getElem?_map, hs, Option.map_some] at h9
            rw [wL_at (by omega)] at h9
            injection h9 with h9
            refine ⟨s, if x % 2 = 0 then pn else qn, hs, ?_, by split <;> omega⟩
            rw [h9]
            rcases (by omega : x % 2 = 0 ∨ x % 2 = 1) with h8 | h8
            · rw [h8]; rfl
            · rw [h8]; rfl : ∃ (s : Value × List (List Nat)) (ln : Nat), rows[x]? = some s ∧ s.2 = mL (x / 2) (77 + x % 2) ln ∧ ln ≤ 65))
          clear HKM hrl
          go_loopw [26] (fun t26 wr => ∃ (x : Nat), x ≤ 6 ∧ t26 = .int .i64 (x : Int) ∧ Hid (KM w4.heap.size wr (.slice (some ⟨gh, 0, none⟩) 6 ch) rows) ∧ Hid (Kept [] w4 wr)) (fun t _ => 6 - (intOf t).toNat)
          case atStart => exact ⟨0, by omega, rfl, HKM6, HKr⟩
          case round =>
            obtain ⟨x, hx, rfl, HKx, HCx⟩ := hrel
            obtain ⟨W3, hW3⟩ : ∃ W3, W3 = wr := ⟨_, rfl⟩
            subst hW3
            by_cases hxl : x < 6
            · have hxl' : (x : Int) < 6 := by omega
              obtain ⟨⟨rv, rds⟩, ln, hrs, hrc, hln⟩ := unhide HROW x hxl
              have hca := (unhide HKx).cell hrs
              have HGM0 := hide (GM.start (unhide HKx) hrs)
              have HRL := hide (by simp only at hrc; rw [hrc]; simp [mL]; omega : rds.length ≤ 65)
              obtain ⟨ra, rc, rfl⟩ : ∃ a c, rv = .slice a rds.length c := owns_form ((unhide HKx).own _ (List.mem_of_getElem? hrs))
              have ib : ¬ (6 : Int) ≤ (x : Int) := by omega
              clear hrs hrc
              go_wp2_with fail
              have hx8 : IntKind.u8.wrap (x : Int) = ((x % 256 : Nat) : Int) := by simp [IntKind.wrap, IntKind.signed, IntKind.bits]
              have HND := hide (nD_dg x)
              have hndl := (unhide HND).1
              have HNB := hide (by rw [nD_brow]; exact nD_built _ : Tryd.prog.built 41 [(0, .int .u8 ((x % 256 : Nat) : Int)), (1, .int .u8 200)] = some (brow (nD x)))
              have HROWa := hide (by rw [nD_brow]; rfl : brow (nD x) = #[.int .u8 ((x % 256 : Nat) : Int), .int .u8 200, .int .u8 0, .int .u8 0, .int .u8 0, .int .u8 0, .int .u8 0, .int .u8 0, .int .u8 0, .int .u8 0, .int .u8 0, .int .u8 0, .int .u8 0, .int .u8 0, .int .u8 0, .int .u8 0, .int .u8 0, .int .u8 0, .int .u8 0, .int .u8 0, .int .u8 0, .int .u8 0, .int .u8 0, .int .u8 0, .int .u8 0, .int .u8 0, .int .u8 0, .int .u8 0, .int .u8 0, .int .u8 0, .int .u8 0, .int .u8 0])
              have HROWb := hide (by rw [nD_brow]; simp : brow (nD x) = #[.int .u8 ((x : Int) % 256), .int .u8 200, .int .u8 0, .int .u8 0, .int .u8 0, .int .u8 0, .int .u8 0, .int .u8 0, .int .u8 0, .int .u8 0, .int .u8 0, .int .u8 0, .int .u8 0, .int .u8 0, .int .u8 0, .int .u8 0, .int .u8 0, .int .u8 0, .int .u8 0, .int .u8 0, .int .u8 0, .int .u8 0, .int .u8 0, .int .u8 0, .int .u8 0, .int .u8 0, .int .u8 0, .int .u8 0, .int .u8 0, .int .u8 0, .int .u8 0, .int .u8 0])
              generalize nD x = D at HND hndl HNB HROWa HROWb
              generalize hrd : rds.length = rn at HRL ⊢
              have HRD := hide hrd
              clear hrd hca
              go_loopw [27, 28] (fun t27 t28 wr => ∃ (j : Nat) (gv : Value) (gs : List (List Nat)), j ≤ 40 ∧ t27 = gv ∧ t28 = .int .i64 (j : Int) ∧ Hid (GM w4.heap.size wr (.slice (some ⟨gh, 0, none⟩) 6 ch) rows gv gs) ∧ Hid (gs.length ≤ 65 + j) ∧ Hid (Kept [] w4 wr)) (fun _ t _ => 40 - (intOf t).toNat)
              case atStart => exact ⟨0, _, rds, by omega, rfl, rfl, by rw [← unhide HRD]; exact HGM0, hide (by rw [unhide HRD]; have := unhide HRL; omega), HCx⟩
              case round =>
                obtain ⟨j, gv, gs, hj, rfl, rfl, HGM, HGL, HCg⟩ := hrel
                by_cases hjl : j < 40
                · have hjl' : (j : Int) < 40 := by omega
                  have kA := (Kept.refl [] wr).alloc (.cells (brow D) 41)
                  have HGMa := hide ((unhide HGM).old kA)
                  have HNA := hide (heap_alloc_new wr (.cells (brow D) 41))
                  have HCa := hide ((unhide HCg).trans kA (by simp))
                  clear kA
                  go_wp2_with (first
                    | (simp only [hx8])
                    | (refine wpList_build_as rfl 41 _ rfl (brow D) (by exact unhide HNB) ?_)
                    | (at_builtin; first | rw [zb32, one_digP D hndl] | rw [← unhide HROWa] | rw [← unhide HROWb]; refine wpList_appendTwoD rfl (.tmp 144) (.tmp 148) rfl rfl (wr.alloc (.cells (brow D) 41)) w4.heap.size u27 gs D wr.heap.size (unhide HGMa).gown (fun d hd => ((unhide HGMa).gdg d hd).1) (unhide HNA) (unhide HND) (by have := unhide HGL; omega) (unhide HCa).size rfl rfl ?_; intro ao3 cap3 w9 H91 H92 H93 H94; have HGM9 := hide ((unhide HGMa).push (unhide HND) (unhide H91) (unhide H92) (unhide H93) (unhide H94)); have HC9 := hide ((unhide HCa).grown (unhide H93) (by intro b hb; right; exact ((unhide HGMa).gown.lt b hb).1)); clear H91 H92 H93 H94))
                  refine ⟨⟨j + 1, _, _, by omega, rfl, by go_num, HGM9, hide (by rw [List.length_append]; simp; have := unhide HGL; omega), HC9⟩, ?_⟩
                  simp [intOf]; omega
                · have hjl' : ¬ (j : Int) < 40 := by omega
                  have HKn := hide (unhide HGM).km
                  go_wp2_with fail
                  refine ⟨⟨x + 1, by omega, by go_num, HKn, HCg⟩, ?_⟩
                  simp [intOf]; omega
            · have hxl' : ¬ (x : Int) < 6 := by omega
              go_wp2_with fail
              go_loopw [29] (fun t29 wr => ∃ (x : Nat), x ≤ 6 ∧ t29 = .int .i64 (x : Int) ∧ Hid (KM w4.heap.size wr (.slice (some ⟨gh, 0, none⟩) 6 ch) rows) ∧ Hid (Kept [] w4 wr)) (fun t _ => 6 - (intOf t).toNat)
              case atStart => exact ⟨0, by omega, rfl, HKx, HCx⟩
              case round =>
                obtain ⟨x, hx, rfl, HKy, HCy⟩ := hrel
                obtain ⟨W4, hW4⟩ : ∃ W4, W4 = wr := ⟨_, rfl⟩
                subst hW4
                by_cases hxl : x < 6
                · have hxl' : (x : Int) < 6 := by omega
                  obtain ⟨⟨rv, rds⟩, ln, hrs, hrc, hln⟩ := unhide HROW x hxl
                  have hca := (unhide HKy).cell hrs
                  have hmm := List.mem_of_getElem? hrs
                  have HOWr := hide ((unhide HKy).own _ hmm)
                  have HDGr := hide ((unhide HKy).dg _ hmm)
                  have hrl2 : rds.length = ln := by simp only at hrc; rw [hrc]; simp [mL]
                  obtain ⟨ra, rc, rfl⟩ : ∃ a c, rv = .slice a rds.length c := owns_form (unhide HOWr)
                  have HRDr := hide (rdd_owns (unhide HOWr) (unhide HDGr))
                  have HRC := hide hrc
                  simp only [hrl2] at hca HRDr HOWr
                  have HRL2 := hide hrl2
                  have ib : ¬ (6 : Int) ≤ (x : Int) := by omega
                  obtain ⟨kh, hkh⟩ : ∃ kh, x / 2 = kh := ⟨_, rfl⟩
                  obtain ⟨km, hkm⟩ : ∃ km, x % 2 = km := ⟨_, rfl⟩
                  rw [hkh, hkm] at HRC
                  have h2a : (x : Int) / 2 = (kh : Int) := by omega
                  have h2b : Int.tdiv (x : Int) 2 = (kh : Int) := by rw [Int.tdiv_eq_ediv_of_nonneg (by omega)]; exact h2a
                  have h3a : (x : Int) % 2 = (km : Int) := by omega
                  have h3b : Int.tmod (x : Int) 2 = (km : Int) := by rw [Int.tmod_eq_emod_of_nonneg (by omega)]; exact h3a
                  have hkb : kh < 3 ∧ km < 2 := by omega
                  have w1a : IntKind.i64.wrap (kh : Int) = (kh : Int) := by simp [IntKind.wrap, IntKind.signed, IntKind.bits]; omega
                  have w1b : IntKind.u8.wrap (kh : Int) = ((kh % 256 : Nat) : Int) := by simp [IntKind.wrap, IntKind.signed, IntKind.bits]
                  have w2a : IntKind.i64.wrap (km : Int) = (km : Int) := by simp [IntKind.wrap, IntKind.signed, IntKind.bits]; omega
                  have w2b : IntKind.i64.wrap (77 + (km : Int)) = 77 + (km : Int) := by simp [IntKind.wrap, IntKind.signed, IntKind.bits]; omega
                  have w2c : IntKind.u8.wrap (77 + (km : Int)) = (((77 + km) % 256 : Nat) : Int) := by simp [IntKind.wrap, IntKind.signed, IntKind.bits]
                  have HKH := hide hkh
                  have HKMm := hide hkm
                  clear hrs hrc hmm hrl2 hkh hkm HDGr
                  go_wp2_with fail
                  go_loopw [30] (fun t30 wr => ∃ (j : Nat), j ≤ ln ∧ t30 = .int .i64 (j : Int) ∧ Hid (wr = W4)) (fun t _ => ln - (intOf t).toNat)
                  case atStart => exact ⟨0, by omega, rfl, hide rfl⟩
                  case round =>
                    obtain ⟨j, hj, rfl, HWj⟩ := hrel
                    have hwj := unhide HWj
                    subst hwj
                    by_cases hjl : j < ln
                    · have hjl' : (j : Int) < (ln : Int) := by omega
                      obtain ⟨br, bo, rfl, hrg⟩ := (unhide HRDr).range (by rw [unhide HRL2]; omega)
                      have HXR := hide (hrg j (by rw [unhide HRL2]; exact hjl))
                      rw [unhide HRC, mL_at hjl] at HXR
                      have HX := hide (mD_dg kh (77 + km) j)
                      have hxl2 := (unhide HX).1
                      have HBB := hide (by rw [mD_brow]; exact mD_built _ _ _ : Tryd.prog.built 41 [(0, .int .u8 ((kh % 256 : Nat) : Int)), (1, .int .u8 ((j % 256 : Nat) : Int)), (2, .int .u8 (((77 + km) % 256 : Nat) : Int))] = some (brow (mD kh (77 + km) j)))
                      have HE1 := (by rw [mD_brow]; rfl : brow (mD kh (77 + km) j) = #[.int .u8 ((kh % 256 : Nat) : Int), .int .u8 ((j % 256 : Nat) : Int), .int .u8 (((77 + km) % 256 : Nat) : Int), .int .u8 0, .int .u8 0, .int .u8 0, .int .u8 0, .int .u8 0, .int .u8 0, .int .u8 0, .int .u8 0, .int .u8 0, .int .u8 0, .int .u8 0, .int .u8 0, .int .u8 0, .int .u8 0, .int .u8 0, .int .u8 0, .int .u8 0, .int .u8 0, .int .u8 0, .int .u8 0, .int .u8 0, .int .u8 0, .int .u8 0, .int .u8 0, .int .u8 0, .int .u8 0, .int .u8 0, .int .u8 0, .int .u8 0])
                      have HE2 := (by rw [mD_brow]; simp : brow (mD kh (77 + km) j) = #[.int .u8 ((kh : Int) % 256), .int .u8 ((j : Int) % 256), .int .u8 ((77 + (km : Int)) % 256), .int .u8 0, .int .u8 0, .int .u8 0, .int .u8 0, .int .u8 0, .int .u8 0, .int .u8 0, .int .u8 0, .int .u8 0, .int .u8 0, .int .u8 0, .int .u8 0, .int .u8 0, .int .u8 0, .int .u8 0, .int .u8 0, .int .u8 0, .int .u8 0, .int .u8 0, .int .u8 0, .int .u8 0, .int .u8 0, .int .u8 0, .int .u8 0, .int .u8 0, .int .u8 0, .int .u8 0, .int .u8 0, .int .u8 0])
                      have hq1 : ∀ W, (Op.equalIn 10000 41 (.agg ((mD kh (77 + km) j).map Go.Proofs.YtecadmldnjlibaaDoor.u8).toArray) (.agg (brow (mD kh (77 + km) j)))).run Tryd.prog W = .ok true W := dig_same _ hxl2
                      have hq2 := hq1
                      have hq3 := hq1
                      rw [HE1] at hq2
                      rw [HE2] at hq3
                      generalize mD kh (77 + km) j = X at HXR HX hxl2 HBB hq1 hq2 hq3
                      have hj8 : IntKind.u8.wrap (j : Int) = ((j % 256 : Nat) : Int) := by simp [IntKind.wrap, IntKind.signed, IntKind.bits]
                      have ic : ¬ (ln : Int) ≤ (j : Int) := by omega
                      clear HE1 HE2 hrg
                      go_wp2_with (first
                        | (simp only [h2a, h2b, h3a, h3b, w1a, w1b, w2a, w2b, w2c, hj8])
                        | (refine wpList_load_mid rfl 41 (.tmp 170) rfl br (bo + j * 32) rfl (X.map Go.Proofs.YtecadmldnjlibaaDoor.u8) _ (unhide HXR) Tryd.underlying41 rfl (by rw [List.length_map, hxl2]; exact Tryd.size_dig) ?_)
                        | (refine wpList_build_as rfl 41 _ rfl (brow X) (by exact unhide HBB) ?_))
                      refine ⟨⟨j + 1, by omega, by go_num, hide trivial⟩, ?_⟩
                      simp [intOf]; omega
                    · have hjl' : ¬ (j : Int) < (ln : Int) := by omega
                      go_wp2_with fail
                      refine ⟨⟨x + 1, by omega, by go_num, HKy, HCy⟩, ?_⟩
                      simp [intOf]; omega
                · have hxl' : ¬ (x : Int) < 6 := by omega
                  have hrl9 := (unhide HDR).1
                  have HKz := hide ((unhide HK4).trans (unhide HCy) (by simp))
                  have hqr := fun W => dig_eq W R R hrl9 hrl9
                  rw [decide_eq_true rfl] at hqr
                  clear HKy HKx HKM6 HROW HWL HR6 HIN HCO
                  go_wp2_with fail
                  refine (unhide HRN W4 (unhide HKz)).mono ?_
                  rintro e wa ⟨rfl, ka⟩
                  have kab := ka.trans (kept_old wa R) (by simp)
                  have HMa := hide (cell_new wa R)
                  have HKa := hide ((unhide HKz).trans kab (by simp))
                  obtain ⟨wb, hwb⟩ : ∃ wb, (wa.alloc (.cells (zb 32) 41)).setRow wa.heap.size (brow R) = wb := ⟨_, rfl⟩
                  rw [hwb] at HMa HKa
                  have HWb := hide hwb
                  clear ka kab hwb
                  have huc : nl ≤ uc ∧ uc ≤ 9223372036854775807 := by obtain ⟨_, _, _, e9, h91, h92, h93, _⟩ := unhide HRu; cases e9; omega
                  have HRp := hide (by have h9 := (unhide HRu).piece (lo := 0) (hi := n) (c' := uc) (by omega) (by omega) (by omega) ua (by intro _ b off e; rw [e]; simp); rw [Nat.sub_zero, List.drop_zero] at h9; exact h9 : RdD w2 (.slice ua n uc) (L.take n))
                  have HLG2 := hide (fun W (kk : Kept [] wb W) => (unhide HLG W ua ((unhide HKa).trans kk (by simp)) ((unhide HRp).old ((unhide HKa).trans kk (by simp)))).mono (fun e w2 (h2 : _ ∧ _) => (⟨h2.1, kk.trans h2.2 (by simp)⟩ : _ ∧ Kept [] wb w2)))
                  have s1 : ¬ (uc : Int) < (n : Int) := by omega
                  have s2 : ¬ (n : Int) < 0 := by omega
                  go_wp2_with (rw [zb32]; refine wpList_store_row rfl 41 (.tmp 31) _ rfl wa.heap.size (brow R) rfl rfl _ (zb 32) (heap_alloc_new _ _) (Tryd.szD hrl9) (by rw [zb_size, brow_size, hrl9]) (brow_one _) ?_; rw [unhide HWb])
                  have hne : ∀ p : Prop, (∀ w', Kept [] wb w' → p) = p := fun p => propext ⟨fun h => h wb (Kept.refl [] wb), fun h _ _ => h⟩
                  refine wp_region_keep (by kernel_rfl) (by kernel_rfl) ?_
                  iterate 3 (go_big_quiet_step (fail))
                  refine wpQuiet_row rfl 41 (.tmp 31) rfl wa.heap.size rfl _ (brow R) (0, 0) _ (fun w' hw' => hw'.heap (unhide HMa) (by simp)) Tryd.underlying41 rfl (Tryd.szD hrl9) ?_
                  simp only [Act.put, List.setIfInBounds_toArray, List.set_cons_succ, List.set_cons_zero]
                  iterate 4 (go_big_quiet_step (fail))
                  go_big_quiet_want
                  go_big_quiet_op
                  apply Exists.intro
                  refine ⟨fun w' hw' => ?_, ?_⟩
                  · exact unhide HLG2 w' hw'
                  go_big_quiet_on
                  refine wpQuiet_val rfl (.bool true) (fun w' _ => run_eql 41 (.tmp 192) (.tmp 197) _ rfl (brow R) (brow R) rfl rfl w' true (by kernel_rfl) (hqr w')) ?_
                  simp only [Act.put, List.setIfInBounds_toArray, List.set_cons_succ, List.set_cons_zero]
                  iterate 2 (go_big_quiet_step (fail))
                  refine wpQuiet_nil ?_
                  intro w6 hw6
                  have HK9 := hide ((unhide HO2).kept.trans ((unhide HKa).trans hw6 (by simp)) (by simp))
                  clear hw6
                  go_wp2_with fail
                  go_ret
                  exact ⟨rfl, unhide HK9⟩

theorem mproofMemory_walk (z : Int) (lv : Value) (ls : List (List Nat)) (i m n : Nat) (w : World) (hz : -9223372036854775808 ≤ z ∧ z ≤ 9223372036854775807) (hl : RdD w lv ls) (hN : ls.length < 32768) (hi : i < 18446744073709551616) (hm : m < 18446744073709551616) (hn : n < 18446744073709551616) (h : Tabs w ∧ Tab6 w) :
    Calls Tryd.prog 7 #[.int .i64 z, lv, .int .u64 (i : Int), .int .u64 (m : Int), .int .u64 (n : Int)] w fun e w' => e = .returned (.bool true) ∧ Below w.heap.size w w' :=
  (mproofMemory_go z lv ls i m n w hz hl hN hi hm hn h.1 h.2).mono fun e w' h9 => ⟨h9.1, h9.2.below (Nat.le_refl _) (by simp)⟩
end Go.Proofs.YtecadmldnjlibaaDoor
namespace Go.Proofs.YtecadmldnjlibaaDoor
open Go.ChangeShapes Go.WideShapes Go.ChangeAt Go.RowKit Go.Deep
set_option linter.unusedVariables false
set_option linter.unusedSimpArgs false

theorem own : ownKnob Tryd.prog.godebug = none := by kernel_rfl
theorem laidOut : laidOutB Tryd.prog = true := by kernel_rfl
theorem byte_of_wf {x : Int} (h : (Lit.int .u8 x).wf = true) : 0 ≤ x ∧ x < 256 := by
  simp [Lit.wf, IntKind.min, IntKind.max, IntKind.signed, IntKind.bits] at h
  exact ⟨by omega, by omega⟩
theorem int_of_wf {x : Int} (h : (Lit.int .i64 x).wf = true) : -9223372036854775808 ≤ x ∧ x ≤ 9223372036854775807 := by
  simp [Lit.wf, IntKind.min, IntKind.max, IntKind.signed, IntKind.bits] at h
  exact ⟨by omega, by omega⟩

theorem bulk_one {H : Type} (d : DataW H) : 1 ≤ Rows.uptoBulk d := by
  cases d with
  | lit l => cases l <;> simp [Rows.uptoBulk]
  | nil => simp [Rows.uptoBulk]
  | ptr d => simp [Rows.uptoBulk]
  | slice elems spare => simp [Rows.uptoBulk]
  | agg parts => simp [Rows.uptoBulk]
  | iface t d => simp [Rows.uptoBulk]
  | map entries => simp [Rows.uptoBulk]
  | held h => simp [Rows.uptoBulk]
theorem bulk_len {H : Type} (l : List (DataW H)) : l.length ≤ Rows.uptoBulkAll l := by
  induction l with
  | nil => simp [Rows.uptoBulkAll]
  | cons x r ih => have := bulk_one x; simp only [Rows.uptoBulkAll, List.length_cons]; omega
theorem Tryd.bytes5 : Tryd.prog.bytesOf 5 = 1 := by kernel_rfl

section
variable {H : Type} {enc : TypeId × Value → H} {W : World}

/-- Bytes that came in, as the walks want them, of whatever length. -/
theorem open_bytes {fuel : Nat} {cs : List Value} {x : DataW H × List MemPlace} (h : DataW.trod enc Tryd.prog W 0 (fun _ => true) true fuel 86 cs = some x) :
    ∃ v bs, cs = [v] ∧ (bs.length ≤ 140737488355328 → Rd W v bs) ∧ ((bs = [] ∧ x.1 = .nil) ∨ ∃ elems spare, x.1 = .slice elems spare ∧ elems.length = bs.length) := by
  rcases open_ints Tryd.underlying86 Tryd.underlying5 (by kernel_rfl) h with ⟨rfl, rfl⟩ | ⟨a, len, cap, zs, rfl, _, hl, hm, hz, rfl, hcell, hwz⟩
  · exact ⟨_, [], rfl, fun _ => Rd.nil W, .inl ⟨rfl, rfl⟩⟩
  · have h2 : (lits (H := H) .u8 (zs.take len)).length = len := by simp only [lits, List.length_map, List.length_take]; simp at hz; omega
    have hbl : ((zs.take len).map Int.toNat).length = len := by simp at hz; simp; omega
    refine ⟨_, (zs.take len).map Int.toNat, rfl, fun hB => ⟨_, _, _, rfl, hbl, hl, ⟨by unfold maxLen at hm; omega, by omega⟩, by simp, ?_, ?_⟩, .inr ⟨_, _, rfl, by rw [h2, hbl]⟩⟩
    · intro y hy
      obtain ⟨z, hz1, rfl⟩ := List.mem_map.1 hy
      have := byte_of_wf (hwz z (List.mem_of_mem_take hz1)); omega
    · intro hp
      simp at hz
      have hc0 := hcell 0 (by omega)
      obtain ⟨b, off, spot⟩ := a
      have hspot : spot = none := by simpa [Addr.add] using World.cell?_spot hc0
      subst hspot
      refine ⟨b, off, rfl, fun i hi => ?_⟩
      have hc := hcell i (by omega)
      have hzi : i < zs.length := by omega
      rw [Addr.add_mid] at hc
      rw [hc]
      have hw := byte_of_wf (hwz (zs[i]) (List.getElem_mem hzi))
      simp only [List.getD_eq_getElem?_getD, List.getElem?_eq_getElem hzi, Option.getD_some, List.getElem?_map, List.getElem?_take, hi, if_true, Option.map_some]
      simp [u8]; omega
/-- Their length, by the reach. -/
theorem reach_bytes {ts : List TypeId} {ds : List (DataW H)} (h : (DataW.weightsEach Tryd.prog ts ds).all (· ≤ reachBytes) = true) {j : Nat} (ht : ts[j]? = some 86) {d : DataW H} (hd : ds[j]? = some d) {bs : List Nat}
    (hx : (bs = [] ∧ d = .nil) ∨ ∃ elems spare, d = .slice elems spare ∧ elems.length = bs.length) : bs.length ≤ 140737488351232 := by
  rcases hx with ⟨rfl, _⟩ | ⟨elems, spare, rfl, he⟩
  · simp
  · have := sized_slice h ht hd Tryd.underlying86
    rw [Tryd.bytes5, Nat.mul_one] at this
    unfold reachBytes at this
    omega
/-- Their length, by the bulk. -/
theorem bulk_bytes {d : DataW H} {bs : List Nat} (hx : (bs = [] ∧ d = .nil) ∨ ∃ elems spare, d = .slice elems spare ∧ elems.length = bs.length) : bs.length + 1 ≤ Rows.uptoBulk d := by
  rcases hx with ⟨rfl, rfl⟩ | ⟨elems, spare, rfl, he⟩
  · simp [Rows.uptoBulk]
  · have := bulk_len elems
    simp only [Rows.uptoBulk]; omega
end
end Go.Proofs.YtecadmldnjlibaaDoor
namespace Go.Proofs.YtecadmldnjlibaaDoor
open Go Go.RowKit
set_option linter.unusedVariables false
set_option linter.unusedSimpArgs false
section
variable {H : Type} {enc : TypeId × Value → H} {W : World}

def natOf : Value → Nat
  | .int _ n => n.toNat
  | _ => 0
/-- A digest that came in. -/
theorem open_dig {fuel : Nat} {cs : List Value} {x : DataW H × List MemPlace} (h : DataW.trod enc Tryd.prog W 0 (fun _ => true) true fuel 41 cs = some x) :
    ∃ l : List Nat, cs = l.map u8 ∧ l.length = 32 ∧ ∀ y ∈ l, y < 256 := by
  obtain ⟨xs, m, _, rfl, hl, hn, hc⟩ := DataW.trod_array Tryd.underlying41 h
  rw [show Tryd.prog.cellsOf 41 = 32 from by kernel_rfl] at hl
  rw [show Tryd.prog.cellsOf 5 = 1 from by kernel_rfl] at hc
  have key : ∀ i (hi : i < cs.length), cs[i] = u8 (natOf cs[i]) ∧ natOf cs[i] < 256 := by
    intro i hi
    have h1 := hc i (by omega)
    rw [Nat.mul_one, List.getElem?_eq_getElem (by omega)] at h1
    obtain ⟨n, e, _, hw⟩ := DataW.trod_int Tryd.underlying5 h1
    rw [List.drop_eq_getElem_cons hi, List.take_succ_cons, List.take_zero] at e
    simp only [List.cons.injEq, and_true] at e
    have := byte_of_wf hw
    rw [e]
    refine ⟨?_, ?_⟩
    · simp [u8, natOf]; omega
    · simp [natOf]; omega
  refine ⟨cs.map natOf, ?_, by simp [hl], ?_⟩
  · rw [List.map_map]
    refine List.ext_getElem (by simp) fun i h1 h2 => ?_
    rw [List.getElem_map]
    exact (key i h1).1
  · intro y hy
    obtain ⟨v, hv, rfl⟩ := List.mem_map.1 hy
    obtain ⟨i, hi, rfl⟩ := List.getElem_of_mem hv
    exact (key i hi).2
set_option maxRecDepth 100000 in
theorem open_digv {b0 : Nat} {v : Value} {d : DataW H} {ps : List MemPlace} (hv : Value.okWide Tryd.prog W .any b0 41 v) (h : DataW.Trod enc Tryd.prog W 0 (fun _ => true) true 41 v d ps) :
    ∃ l : List Nat, v = .agg (brow l) ∧ l.length = 32 ∧ ∀ y ∈ l, y < 256 := by
  unfold Value.okWide at hv
  rw [Tryd.underlying41] at hv
  obtain ⟨cs, rfl, _, _⟩ := hv
  obtain ⟨fuel, hf⟩ := h
  obtain ⟨l, e, h1, h2⟩ := open_dig hf
  refine ⟨l, ?_, h1, h2⟩
  simp only [Value.cells] at e
  unfold brow
  rw [← e]
end
end Go.Proofs.YtecadmldnjlibaaDoor
namespace Go.Proofs.YtecadmldnjlibaaDoor
open Go.RowKit
set_option linter.unusedVariables false
set_option linter.unusedSimpArgs false

/-- The slice value v reads as these numbers of 64 bits. -/
def RdQ (w : World) (v : Value) (xs : List Nat) : Prop :=
  ∃ (ao : Option Addr) (len cap : Nat), v = .slice ao len cap ∧ xs.length = len ∧ len ≤ cap ∧ cap ≤ 9223372036854775807 ∧ (∀ x ∈ xs, x < 18446744073709551616) ∧
    (0 < len → ∃ b off, ao = some ⟨b, off, none⟩ ∧ ∀ i, i < len → w.cell? ⟨b, off + i, none⟩ = some (.int .u64 ((xs.getD i 0 : Nat) : Int)))
theorem RdQ.old {w0 w : World} {v : Value} {ws : List Nat} (h : RdQ w0 v ws) (k : Kept [] w0 w) : RdQ w v ws := by
  obtain ⟨ao, len, cap, rfl, h1, h2, h3, h5, h6⟩ := h
  refine ⟨ao, len, cap, rfl, h1, h2, h3, h5, fun hp => ?_⟩
  obtain ⟨b, off, rfl, hc⟩ := h6 hp
  exact ⟨b, off, rfl, fun i hi => k.cell (hc i hi) (by simp)⟩
end Go.Proofs.YtecadmldnjlibaaDoor
namespace Go.Proofs.YtecadmldnjlibaaDoor
open Go.ChangeShapes Go.WideShapes Go.ChangeAt Go.RowKit Go.Deep
set_option linter.unusedVariables false
set_option linter.unusedSimpArgs false
section
variable {H : Type} {enc : TypeId × Value → H} {W : World}

/-- Digests that came in. -/
theorem open_digs2 {fuel : Nat} {cs : List Value} {x : DataW H × List MemPlace} (h : DataW.trod enc Tryd.prog W 0 (fun _ => true) true fuel 32 cs = some x) (hB : Rows.uptoBulk x.1 ≤ 1048576) :
    ∃ v ds, cs = [v] ∧ RdD W v ds ∧ ds.length ≤ 1048576 := by
  rcases open_slice Tryd.underlying32 h with ⟨rfl, rfl⟩ | ⟨a, len, cap, m, n, D, Pl, rfl, _, hl, hm, hmm, rfl, hx⟩
  · exact ⟨_, [], rfl, ⟨none, 0, 0, rfl, rfl, Nat.le_refl _, by omega, fun d hd => by simp at hd, fun h => by omega⟩, by simp⟩
  · have hC : Tryd.prog.cellsOf 41 = 32 := by kernel_rfl
    rw [hC] at hx
    simp only [if_true] at hmm
    simp only [Rows.uptoBulk] at hB
    have hcap : cap ≤ 1048576 := by
      have h1 := bulk_len ((List.range len).map D)
      have h2 := bulk_len ((List.range (m - len)).map fun j => D (len + j))
      simp at h1 h2
      omega
    obtain ⟨f, hf⟩ := choose_lt (α := List Nat) (n := len) (p := fun i o => (∀ j v, (o.map u8)[j]? = some v → W.cell? ((a.add (i * 32)).add j) = some v) ∧ o.length = 32 ∧ ∀ y ∈ o, y < 256) (by
      intro i hi
      obtain ⟨cs', h1, h2⟩ := hx i (by omega)
      obtain ⟨l, rfl, hl1, hl2⟩ := open_dig h2
      obtain ⟨_, hlen, hc⟩ := World.cells?_some h1
      refine ⟨l, fun j v hv => ?_, hl1, hl2⟩
      have hj := (List.getElem?_eq_some_iff.1 hv).1
      have := hc j (by rw [List.length_map] at hj; omega)
      rw [this, ← hv, List.getElem?_eq_getElem hj])
    refine ⟨_, (List.range len).map f, rfl, ⟨some a, len, cap, rfl, by simp, hl, by omega, ?_, ?_⟩, by simp; omega⟩
    · intro d hd
      obtain ⟨i, hi, rfl⟩ := List.mem_map.1 hd
      exact (hf i (List.mem_range.1 hi)).2
    · intro hp
      obtain ⟨b, off, spot⟩ := a
      have h0 := hf 0 hp
      have hc0 := h0.1 0 (u8 ((f 0).getD 0 0)) (by rw [List.getElem?_map, List.getD_eq_getElem?_getD, List.getElem?_eq_getElem (by omega)]; rfl)
      have hspot : spot = none := by simpa [Addr.add] using World.cell?_spot hc0
      subst hspot
      refine ⟨b, off, rfl, fun i hi j v hv => ?_⟩
      have e9 : ((List.range len).map f).getD i [] = f i := by simp [List.getD_eq_getElem?_getD, hi]
      rw [e9] at hv
      have := (hf i hi).1 j v hv
      rw [Addr.add_mid, Addr.add_mid] at this
      exact this

/-- Numbers of 64 bits that came in. -/
theorem open_u64s {fuel : Nat} {cs : List Value} {x : DataW H × List MemPlace} (h : DataW.trod enc Tryd.prog W 0 (fun _ => true) true fuel 69 cs = some x) :
    ∃ v ws, cs = [v] ∧ RdQ W v ws := by
  rcases open_ints Tryd.underlying69 Tryd.underlying49 (by kernel_rfl) h with ⟨rfl, rfl⟩ | ⟨a, len, cap, zs, rfl, _, hl, hm, hz, rfl, hcell, hwz⟩
  · exact ⟨_, [], rfl, ⟨none, 0, 0, rfl, rfl, Nat.le_refl _, by omega, by simp, fun h => by omega⟩⟩
  · have hbl : ((zs.take len).map Int.toNat).length = len := by simp at hz; simp; omega
    have hwf : ∀ y ∈ zs, 0 ≤ y ∧ y < 18446744073709551616 := by
      intro y hy
      have h9 := hwz y hy
      simp [Lit.wf, IntKind.min, IntKind.max, IntKind.signed, IntKind.bits] at h9
      omega
    refine ⟨_, (zs.take len).map Int.toNat, rfl, ⟨_, _, _, rfl, hbl, hl, by unfold maxLen at hm; omega, ?_, ?_⟩⟩
    · intro y hy
      obtain ⟨u, hu, rfl⟩ := List.mem_map.1 hy
      have := hwf u (List.mem_of_mem_take hu)
      omega
    · intro hp
      simp at hz
      have hc0 := hcell 0 (by omega)
      obtain ⟨b, off, spot⟩ := a
      have hspot : spot = none := by simpa [Addr.add] using World.cell?_spot hc0
      subst hspot
      refine ⟨b, off, rfl, fun i hi => ?_⟩
      have hc := hcell i (by omega)
      have hzi : i < zs.length := by omega
      have hzm := hwf (zs[i]) (List.getElem_mem hzi)
      rw [Addr.add_mid] at hc
      rw [hc]
      simp [List.getD_eq_getElem?_getD, List.getElem?_take, hi, hzi]
      omega

end
end Go.Proofs.YtecadmldnjlibaaDoor
namespace Go.Proofs.YtecadmldnjlibaaDoor
open Go.ChangeShapes Go.WideShapes Go.ChangeAt Go.RowKit Go.Deep
set_option linter.unusedVariables false
set_option linter.unusedSimpArgs false
theorem bulk_mul {H : Type} (c : Nat) (l : List (DataW H)) (h : ∀ y ∈ l, c ≤ Rows.uptoBulk y) : c * l.length ≤ Rows.uptoBulkAll l := by
  induction l with
  | nil => simp [Rows.uptoBulkAll]
  | cons x r ih =>
    have h1 := h x (by simp)
    have h2 := ih (fun y hy => h y (by simp [hy]))
    simp only [Rows.uptoBulkAll, List.length_cons, Nat.mul_add, Nat.mul_one]
    omega
section
variable {H : Type} {enc : TypeId × Value → H} {W : World}
theorem dig_bulk {fuel : Nat} {cs : List Value} {x : DataW H × List MemPlace} (h : DataW.trod enc Tryd.prog W 0 (fun _ => true) true fuel 41 cs = some x) : 33 ≤ Rows.uptoBulk x.1 := by
  obtain ⟨xs, m, _, rfl, hl, hn, hc⟩ := DataW.trod_array Tryd.underlying41 h
  have h9 := bulk_len (xs.map (fun x => x.fst))
  rw [List.length_map] at h9
  simp only [Rows.uptoBulk]
  omega
/-- Digests that came in: how many there may be. -/
theorem open_digs3 {fuel : Nat} {cs : List Value} {x : DataW H × List MemPlace} (h : DataW.trod enc Tryd.prog W 0 (fun _ => true) true fuel 32 cs = some x) (hB : Rows.uptoBulk x.1 ≤ 1048576) :
    ∃ v ds, cs = [v] ∧ RdD W v ds ∧ 33 * ds.length + 1 ≤ Rows.uptoBulk x.1 := by
  obtain ⟨v, ds, e, hr, _⟩ := open_digs2 h hB
  refine ⟨v, ds, e, hr, ?_⟩
  rcases open_slice Tryd.underlying32 h with ⟨rfl, rfl⟩ | ⟨a, len, cap, m, n, D, Pl, rfl, _, hl, hm, hmm, rfl, hx⟩
  · simp at e
    subst e
    obtain ⟨_, _, _, e2, h1, _⟩ := hr
    cases e2
    rw [h1]
    simp [Rows.uptoBulk]
  · simp at e
    subst e
    obtain ⟨_, _, _, e2, h1, _⟩ := hr
    cases e2
    rw [h1]
    simp only [Rows.uptoBulk]
    have h2 := bulk_mul 33 ((List.range len).map D) (by
      intro y hy
      obtain ⟨i, hi, rfl⟩ := List.mem_map.1 hy
      obtain ⟨cs', _, h3⟩ := hx i (by have := List.mem_range.1 hi; simp only [if_true] at hmm; omega)
      exact dig_bulk h3)
    simp at h2
    omega
end
end Go.Proofs.YtecadmldnjlibaaDoor
