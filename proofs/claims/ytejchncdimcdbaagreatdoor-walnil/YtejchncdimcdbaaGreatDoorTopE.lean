import Derived.Test.YtejchncdimcdbaaGreatDoorTopD
import Derived.Test.YtejchncdimcdbaaGreatDoorTopA
import Derived.Deep.RegionHeld3
import Derived.Test.YtejchncdimcdbaaGreatDoorTopC
import Derived.Test.YtejchncdimcdbaaGreatDoorBase
import Derived.Test.YtejchncdimcdbaaGreatDoorCards
import Derived.Test.YtejchncdimcdbaaGreatDoorTie
import Derived.ProofKit
import Derived.OpenShut
import Derived.Deep.Slices
import Derived.SizedLaws
namespace Go.Proofs.YtejchncdimcdbaaGreatDoor
open Go.RowKit Go.BigFrame Go.Maps Go.Sort
set_option linter.unusedVariables false
set_option linter.unusedSimpArgs false

theorem Tryz.infoStr : (Tryz.prog.info? 9).map (fun i => (i.zero, i.size, i.bytes)) = some (some (.string ⟨#[]⟩), 1, 16) := by kernel_rfl
theorem rdC_one {w : World} {H : Nat} {x : Value} {t : TypeId} (h : w.heap[H]? = some (.cells #[x] t (0, 0))) : RdC 1 w (.slice (some ⟨H, 0, none⟩) 1 1) [[x]] := by
  refine ⟨_, _, _, rfl, rfl, Nat.le_refl _, by omega, fun _ => ⟨H, 0, rfl, fun i hi j u hu => ?_⟩⟩
  have hi0 : i = 0 := by simp at hi; omega
  subst hi0
  simp only [List.getElem_cons_zero] at hu
  match j with
  | 0 =>
    simp only [List.getElem?_cons_zero, Option.some.injEq] at hu
    subst hu
    have h9 := cell_of_row _ _ 0 _ _ _ h
    simpa using h9
  | j + 1 => simp at hu
theorem encStr_eq (s : List UInt8) : encStr s = .string (strU s) := rfl
theorem OwnX.shape {X : List Nat} {w0 w : World} {v : Value} {ts : List (Nat × Value × List En)} (h : OwnX X w0 w v ts) : ∃ a c, v = .slice a ts.length c := owns_formC h.own
theorem FK.turn {w0 w w' : World} {g : Nat} {f f' : FSt} {sv bv : Value} {ts : List (Nat × Value × List En)} (h : FK w0 w g f sv bv ts) (k : Kept [g] w w') (hr : w'.heap[g]? = some (.cells (fdC f' sv bv) 110 (0, 0))) (h1 : f'.sg = f.sg) (h2 : f'.bs = f.bs) (h3 : f'.last < 18446744073709551616) (h4 : f'.ep < 18446744073709551616) (h5 : f'.sz < 18446744073709551616) : FK w0 w' g f' sv bv ts := by
  have hg : ∀ x ∈ [g], x < w0.heap.size := fun x hx => by rw [List.mem_singleton.1 hx]; exact h.gl
  exact ⟨hr, h.gl, by rw [h1]; exact k.owns h.sg (fun b hb hm => by have := (h.sg.lt b hb).1; have := hg b hm; omega), h.bs.pass k (fun x hx => Or.inl (hg x hx)), by rw [h2]; exact h.eq, h3, h4, h5⟩
theorem cntB_take (l : List (Nat × List En)) (i : Nat) (h : i < l.length) : cntB (l.take (i + 1)) = cntB (l.take i) + l[i].2.length := by
  unfold cntB
  rw [List.take_succ_eq_append_getElem h, List.map_append, List.sum_append]
  simp only [List.map_cons, List.map_nil, List.sum_cons, List.sum_nil, Nat.add_zero]
theorem wp_appC {o : Oper} {a : Act} {w : World} {K : Act → World → Prop} {Q : Exit → Act → World → Prop} (T : Nat) (s x : Operand)
    (ho : o.op = .call { callee := .builtin .append, args := #[s, x], argTypes := #[T, T] }) (hty : o.type = T) (v y : Value) (he : a.eval s = v) (hx : a.eval x = y) (u : Value) (w2 : World) (hrun : (Builtin.append_ #[T, T] T #[v, y]).run Tryz.prog w = .ok u w2) (hK : K (a.put o.dst u) w2) : o.wp Tryz.prog a w K Q := by
  unfold Oper.wp execOp
  simp only [ho, hty, resolve, invoke, builtin, Sem.run_bind, Sem.run_pure, Result.andThen_ok, List.map_toArray, List.map_cons, List.map_nil, he, hx, hrun]
  exact hK
set_option maxRecDepth 100000 in
set_option maxHeartbeats 8000000 in
theorem wadd_any (g a b c u : Nat) (z : Int) (s : List UInt8) (f : FSt) (sv bv v2 : Value) (ts ss : List (Nat × Value × List En)) (w0 w1 wR w : World) (M : List Nat) (h : FK w0 w g f sv bv ts) (hk : Kept [g] w0 w) (h2 : OwnB w1 wR v2 ss) (k : Kept M wR w) (hM : ∀ x ∈ M, x < w1.heap.size ∨ wR.heap.size ≤ x) (h01 : w0.heap.size ≤ w1.heap.size) (hv : ∀ x, bv.ownBlock = some x → x < w1.heap.size) (hX : ∀ x, sv.ownBlock = some x → x < w1.heap.size)
    (hb : b < 18446744073709551616) (hl : ts.length + ss.length ≤ 1000000000000) (hl2 : f.sg.length ≤ 1000000000) :
    Calls Tryz.prog 85 #[.pointer (some ⟨g, 0, none⟩), .string (strU s), .agg #[.int .u64 (a : Int), .int .u64 (b : Int), .int .u64 (c : Int), .int .i64 z, v2, .int .i64 (u : Int)]] w fun e w' => ∃ sv' bv', e = .returned (.tuple #[]) ∧ FK w0 w' g ⟨f.last, b, (f.sz + cntB (ss.map fun t => (t.1, t.2.2))) % 18446744073709551616, f.sg ++ [s], f.bs ++ ss.map fun t => (t.1, t.2.2)⟩ sv' bv' (ts ++ ss) ∧ Kept [g] w0 w' := by
  obtain ⟨a2, c2, rfl⟩ := owns_formC h2.own
  obtain ⟨sa, sc, rfl⟩ := owns_formC h.sg
  obtain ⟨ba, bc, rfl⟩ := h.bs.shape
  have hgw : g < w.heap.size := lt_of_block h.row
  have k1 := (Kept.refl [] w).alloc (.cells #[.int .u64 (a : Int), .int .u64 (b : Int), .int .u64 (c : Int), .int .i64 z, .slice a2 ss.length c2, .int .i64 (u : Int)] 83)
  have hq := heap_alloc_new w (.cells #[.int .u64 (a : Int), .int .u64 (b : Int), .int .u64 (c : Int), .int .i64 z, .slice a2 ss.length c2, .int .i64 (u : Int)] 83)
  have hr1 := k1.heap h.row (by simp)
  obtain ⟨s0, s1, s2, s3, s4, s5⟩ := scells hq
  obtain ⟨d0, d1, d2, d3, d4⟩ := fdC_cell hr1
  obtain ⟨z0, z1, z2, z3, z4⟩ := ffroz hr1
  have H := hide h
  have HK := hide hk
  have H2 := hide h2
  have HKR := hide k
  have HM := hide hM
  have HV := hide hv
  have HX := hide hX
  have HK1 := hide k1
  have HQ := hide hq
  have HR1 := hide hr1
  have HGW := hide hgw
  have HSZ := hide k.size
  clear h hk h2 k hM hv hX k1 hq hr1 hgw
  go_enter Tryz.func85, Tryz.ntmps85
  go_upto_region 2 with fail
  have hS := heap_setCell_same _ g 1 _ _ (.int .u64 (b : Int)) (unhide HR1)
  have kS := (Kept.refl [g] (w.alloc (.cells #[.int .u64 (a : Int), .int .u64 (b : Int), .int .u64 (c : Int), .int .i64 z, .slice a2 ss.length c2, .int .i64 (u : Int)] 83))).setCell (p := ⟨g, 1, none⟩) (.inl (by simp)) (.int .u64 (b : Int))
  have hS2 : ((w.alloc (.cells #[.int .u64 (a : Int), .int .u64 (b : Int), .int .u64 (c : Int), .int .i64 z, .slice a2 ss.length c2, .int .i64 (u : Int)] 83)).setCell ⟨g, 1, none⟩ (.int .u64 (b : Int))).heap[g]? = some (.cells (fdC ⟨f.last, b, f.sz, f.sg, f.bs⟩ (.slice sa f.sg.length sc) (.slice ba ts.length bc)) 110 (0, 0)) := by rw [hS]; rfl
  have HF2 := hide (((unhide H).pass (unhide HK1)).turn kS hS2 rfl rfl (unhide H).last hb (unhide H).szb)
  have HQ2 := hide (kS.heap (unhide HQ) (by intro hm; have := List.mem_singleton.1 hm; have := unhide HGW; omega))
  have HK2 := hide (((unhide HK1).mono (M := [g]) (by simp)).trans kS (by simp))
  clear hS hS2 kS s0 s1 s2 s3 s4 s5 d0 d1 d2 d3 d4 z0 z1 z2 z3 z4
  generalize (w.alloc (.cells #[.int .u64 (a : Int), .int .u64 (b : Int), .int .u64 (c : Int), .int .i64 z, .slice a2 ss.length c2, .int .i64 (u : Int)] 83)).setCell ⟨g, 1, none⟩ (.int .u64 (b : Int)) = W2 at HF2 HQ2 HK2 ⊢
  obtain ⟨d0, d1, d2, d3, d4⟩ := fdC_cell (unhide HF2).row
  have HK3 := hide ((Kept.refl [] W2).alloc (.cells #[.string (strU s)] 9))
  have HN3 := hide (rdC_one (heap_alloc_new W2 (.cells #[.string (strU s)] 9)))
  have HF3 := hide ((unhide HF2).pass (unhide HK3))
  have HZ3 := hide (by have := lt_of_block (unhide HF2).row; exact (unhide HF3).gl : g < w0.heap.size)
  go_upto_region 3 with (at_builtin; refine wpList_appendC rfl 76 9 (.tmp 18) (.tmp 20) rfl rfl _ w0.heap.size (.string ⟨#[]⟩) 1 16 Tryz.underlying76 Tryz.infoStr rfl (by decide) (.slice sa f.sg.length sc) f.sg.length (f.sg.map encStr) (unhide HF3).sg (some ⟨W2.heap.size, 0, none⟩) 1 1 [[.string (strU s)]] (unhide HN3) (by simp) (by simp [Value.oneCell']) (by omega) (by omega) (unhide HF3).bs.sz rfl rfl ?_; intro a5 cap5 w5 HO5 HGR5 HA5; (have HKA := hide ((Kept.refl ((Value.slice sa f.sg.length sc).ownBlock.toList) _).grown (unhide HGR5) (by intro k hk; left; simp [hk]))); (have HR5 := hide ((unhide HKA).heap (unhide HF3).row (by intro hm; have h9 := ((unhide HF3).sg.lt g (by simpa using hm)).1; have := unhide HZ3; omega))); (obtain ⟨e0, e1, e2, e3, e4⟩ := fdC_cell (unhide HR5)); (obtain ⟨z0, z1, z2, z3, z4⟩ := ffroz (unhide HR5)))
  have hS := heap_setCell_same _ g 3 _ _ (.slice a5 (f.sg.length + 1) cap5) (unhide HR5)
  have kS := (Kept.refl [g] w5).setCell (p := ⟨g, 3, none⟩) (.inl (by simp)) (.slice a5 (f.sg.length + 1) cap5)
  have hS2 : (w5.setCell ⟨g, 3, none⟩ (.slice a5 (f.sg.length + 1) cap5)).heap[g]? = some (.cells (fdC ⟨f.last, b, f.sz, f.sg ++ [s], f.bs⟩ (.slice a5 (f.sg.length + 1) cap5) (.slice ba ts.length bc)) 110 (0, 0)) := by rw [hS]; rfl
  have hoX := (unhide HF3).bs.pass (unhide HKA) (fun x hx => Or.inr hx)
  have hoY : OwnX (Value.slice a5 (f.sg.length + 1) cap5).ownBlock.toList w0 w5 (.slice ba ts.length bc) ts := hoX.turn (n := (W2.alloc (.cells #[.string (strU s)] 9)).heap.size) (fun x hx => by
    rcases unhide HA5 with h9 | h9
    · rw [h9] at hx; exact Or.inl hx
    · rw [h9] at hx; simp only [Option.toList_some, List.mem_singleton] at hx; exact Or.inr (by omega)) rfl (unhide HF3).bs (unhide HKA)
  have hgl := (unhide HF3).gl
  have HF6 := hide (⟨hS2, hgl, by
      have h9 := unhide HO5
      rw [List.length_append, List.map_append]
      refine kS.owns h9 (fun x hx hm => ?_)
      have := (h9.lt x hx).1
      have := List.mem_singleton.1 hm
      omega, hoY.pass kS (fun x hx => Or.inl (by rw [List.mem_singleton.1 hx]; exact hgl)), (unhide H).eq, (unhide H).last, hb, (unhide H).szb⟩ : FK w0 (w5.setCell ⟨g, 3, none⟩ (.slice a5 (f.sg.length + 1) cap5)) g ⟨f.last, b, f.sz, f.sg ++ [s], f.bs⟩ (.slice a5 (f.sg.length + 1) cap5) (.slice ba ts.length bc) ts)
  have HX6 := hide (fun x hx => by
      rcases unhide HA5 with h9 | h9
      · rw [h9] at hx; exact Or.inl (unhide HX x hx)
      · rw [h9] at hx
        have h8 := (unhide HK2).size
        have h7 := (unhide HKR).size
        simp only [Option.some.injEq] at hx
        have h6 : (W2.alloc (.cells #[.string (strU s)] 9)).heap.size = W2.heap.size + 1 := by simp
        exact Or.inr (by omega) : ∀ x, (Value.slice a5 (f.sg.length + 1) cap5).ownBlock = some x → x < w1.heap.size ∨ wR.heap.size ≤ x)
  have kA5 : Kept (Value.slice sa f.sg.length sc).ownBlock.toList W2 w5 := ((unhide HK3).mono (by simp)).trans (unhide HKA) (fun x hx => Or.inl hx)
  have HQ6 := hide (kS.heap (kA5.heap (unhide HQ2) (by
      intro hm
      have h9 := ((unhide HF2).sg.lt w.heap.size (by simpa using hm)).2
      have h8 := unhide HX w.heap.size (by simpa using hm)
      have h7 := (unhide HKR).size
      have h6 := (unhide H2).sz
      omega)) (by intro hm; have := List.mem_singleton.1 hm; have := unhide HGW; omega))
  have HK6 := hide (by
      have h9 : Kept (g :: (Value.slice sa f.sg.length sc).ownBlock.toList) w (w5.setCell ⟨g, 3, none⟩ (.slice a5 (f.sg.length + 1) cap5)) := (((unhide HK2).mono (M := g :: (Value.slice sa f.sg.length sc).ownBlock.toList) (by simp)).trans kA5 (fun x hx => Or.inl (by simp [hx]))).trans kS (fun x hx => Or.inl (by simp at hx; simp [hx]))
      exact h9)
  have HKW6 := hide ((unhide HK).trans (unhide HK6) (fun x hx => by
      rcases List.mem_cons.1 hx with rfl | hx
      · exact Or.inl (by simp)
      · exact Or.inr ((unhide HF2).sg.lt x (by simpa using hx)).1) : Kept [g] w0 (w5.setCell ⟨g, 3, none⟩ (.slice a5 (f.sg.length + 1) cap5)))
  have HR6 := hide ((unhide HKR).mono (M := M ++ (g :: (Value.slice sa f.sg.length sc).ownBlock.toList)) (fun x hx => by simp [hx]) |>.trans (unhide HK6) (fun x hx => Or.inl (by simp at hx; simp [hx])))
  have HM6 := hide (fun x hx => by
      rcases List.mem_append.1 hx with hx | hx
      · exact unhide HM x hx
      · rcases List.mem_cons.1 hx with rfl | hx
        · exact Or.inl (by omega)
        · exact Or.inl (unhide HX x (by simpa using hx)) : ∀ x ∈ M ++ (g :: (Value.slice sa f.sg.length sc).ownBlock.toList), x < w1.heap.size ∨ wR.heap.size ≤ x)
  clear hS hS2 kS hoX hoY kA5 d0 d1 d2 d3 d4 e0 e1 e2 e3 e4 z0 z1 z2 z3 z4 HF2 HF3 HO5 HGR5 HKA HR5 HK3 HN3 HQ2 HK2 HA5 HKR HM HX HK HQ HR1 HK1
  generalize (M ++ (g :: (Value.slice sa f.sg.length sc).ownBlock.toList)) = M6 at HR6 HM6
  generalize w5.setCell ⟨g, 3, none⟩ (.slice a5 (f.sg.length + 1) cap5) = W6 at HF6 HQ6 HK6 HKW6 HR6 ⊢
  obtain ⟨d0, d1, d2, d3, d4⟩ := fdC_cell (unhide HF6).row
  obtain ⟨s0, s1, s2, s3, s4, s5⟩ := scells (unhide HQ6)
  have HQL := hide (by intro x hx; have h9 := unhide HV x hx; have h8 := (unhide H2).sz; have h7 := unhide HSZ; omega : ∀ x, (Value.slice ba ts.length bc).ownBlock = some x → x ≠ w.heap.size)
  have HGB := hide (by intro hm; have h9 := ((unhide HF6).bs.own.lt g (by simpa using hm)).1; have := (unhide HF6).gl; omega : g ∉ (Value.slice ba ts.length bc).ownBlock.toList)
  refine wp_c11 (by kernel_rfl) (by kernel_rfl) (by kernel_rfl) (by kernel_rfl) (by kernel_rfl) (by kernel_rfl) (by kernel_rfl) (by kernel_rfl) (by kernel_rfl) (by kernel_rfl) (by kernel_rfl) (by kernel_rfl) (by kernel_rfl) (by kernel_rfl) (by kernel_rfl) (by kernel_rfl) (by kernel_rfl) (by kernel_rfl) (by kernel_rfl) (by kernel_rfl) (by kernel_rfl) (by kernel_rfl) (by kernel_rfl) (by kernel_rfl) rfl (by kernel_rfl) rfl (by kernel_rfl) rfl (by kernel_rfl) rfl (by kernel_rfl)
    (.pointer (some ⟨g, 0, none⟩)) (.pointer (some ⟨g, 0, none⟩)) (.pointer (some ⟨g, 0, none⟩)) (.pointer (some ⟨g, 4, none⟩)) (.slice ba ts.length bc) (.pointer (some ⟨w.heap.size, 4, none⟩)) (.slice a2 ss.length c2) _ _ _ _ _ _ _
    (fun w' => Kept (Value.slice ba ts.length bc).ownBlock.toList W6 w')
    (fun w' => Kept [] W6 w')
    (fun u0 w' => ∃ a8 cap8 wq, u0 = .slice a8 (ts.length + ss.length) cap8 ∧ Kept [] W6 wq ∧ w'.ownsRow w0.heap.size 129 2 u0 (ts.length + ss.length) (cellsB ts ++ cellsB ss) ∧ wq.grownBy w' (Value.slice ba ts.length bc).ownBlock ∧ (u0.ownBlock = (Value.slice ba ts.length bc).ownBlock ∨ u0.ownBlock = some wq.heap.size))
    (fun u0 u1 w' => u1 = .pointer (some ⟨g, 0, none⟩) ∧ ∃ a8 cap8 wq, u0 = .slice a8 (ts.length + ss.length) cap8 ∧ Kept [] W6 wq ∧ w'.ownsRow w0.heap.size 129 2 u0 (ts.length + ss.length) (cellsB ts ++ cellsB ss) ∧ wq.grownBy w' (Value.slice ba ts.length bc).ownBlock ∧ (u0.ownBlock = (Value.slice ba ts.length bc).ownBlock ∨ u0.ownBlock = some wq.heap.size))
    (fun u0 u1 u2 w' => u2 = .pointer (some ⟨g, 4, none⟩) ∧ ∃ a8 cap8 wq, u0 = .slice a8 (ts.length + ss.length) cap8 ∧ Kept [] W6 wq ∧ w'.ownsRow w0.heap.size 129 2 u0 (ts.length + ss.length) (cellsB ts ++ cellsB ss) ∧ wq.grownBy w' (Value.slice ba ts.length bc).ownBlock ∧ (u0.ownBlock = (Value.slice ba ts.length bc).ownBlock ∨ u0.ownBlock = some wq.heap.size))
    (fun u0 u1 u2 w' => ∃ a8 cap8 wq w8, u0 = .slice a8 (ts.length + ss.length) cap8 ∧ Kept [] W6 wq ∧ w8.ownsRow w0.heap.size 129 2 u0 (ts.length + ss.length) (cellsB ts ++ cellsB ss) ∧ wq.grownBy w8 (Value.slice ba ts.length bc).ownBlock ∧ (u0.ownBlock = (Value.slice ba ts.length bc).ownBlock ∨ u0.ownBlock = some wq.heap.size) ∧ w' = w8.setCell ⟨g, 4, none⟩ u0)
    (by simp only [Act.put, List.setIfInBounds_toArray, List.set_cons_zero, List.set_cons_succ]; rfl) (by exact Or.inl ⟨by rfl, fun W' hW' => by go_simp⟩)
    (by simp only [Act.put, List.setIfInBounds_toArray, List.set_cons_zero, List.set_cons_succ]; rfl) (by exact Or.inl ⟨by rfl, fun W' hW' => by go_simp⟩)
    (by simp only [Act.put, List.setIfInBounds_toArray, List.set_cons_zero, List.set_cons_succ]; rfl) (by exact Or.inl ⟨by rfl, fun W' hW' => by go_simp⟩)
    (by simp only [Act.put, List.setIfInBounds_toArray, List.set_cons_zero, List.set_cons_succ]; rfl) (by exact Or.inl ⟨by rfl, fun W' hW' => by go_simp⟩)
    (by simp only [Act.put, List.setIfInBounds_toArray, List.set_cons_zero, List.set_cons_succ]; rfl) (by exact Or.inl ⟨by rfl, fun W' hW' => by have h90 := hW'.cell d4 (unhide HGB); go_simp⟩)
    (by simp only [Act.put, List.setIfInBounds_toArray, List.set_cons_zero, List.set_cons_succ]; rfl) (by exact Or.inl ⟨by rfl, fun W' hW' => by go_simp⟩)
    (by simp only [Act.put, List.setIfInBounds_toArray, List.set_cons_zero, List.set_cons_succ]; rfl) (by exact Or.inl ⟨by rfl, fun W' hW' => by have h90 := hW'.cell s4 (by intro hm; exact unhide HQL _ (by simpa using hm) rfl); go_simp⟩)
    (Kept.refl [] W6).drew
    ⟨fun w' h => h.mono (by simp), fun u0 w' h => by obtain ⟨a8, cap8, wq, _, h1, _, h2, _⟩ := h; exact (h1.mono (by simp)).grown h2 (by intro k hk; left; simp [hk]), fun u0 u1 w' h => by obtain ⟨_, a8, cap8, wq, _, h1, _, h2, _⟩ := h; exact (h1.mono (by simp)).grown h2 (by intro k hk; left; simp [hk]), fun u0 u1 u2 w' h => by obtain ⟨_, a8, cap8, wq, _, h1, _, h2, _⟩ := h; exact (h1.mono (by simp)).grown h2 (by intro k hk; left; simp [hk])⟩
    (by
      intro w' k K hK
      have hB7 := (unhide H2).stay ((unhide HR6).trans k (by simp)) (unhide HM6)
      have hF7 := (unhide HF6).pass k
      obtain ⟨a8, cap8, w8, hrun, h8, hg8, ha8⟩ := appendC w' w0.heap.size 46 129 (.agg #[.int .u64 0, .slice none 0 0]) 2 32 Tryz.underlying46 Tryz.infoBt rfl (by decide) (.slice ba ts.length bc) ts.length (cellsB ts) hF7.bs.own a2 ss.length c2 (ss.map rowB) hB7.rdC (rowB_len ss) hB7.oneC (by omega) (by omega) hF7.bs.sz
      rw [cellsB_flat] at h8
      have hK2 := hK _ _ ⟨a8, cap8, w', rfl, k, h8, hg8, ha8⟩
      clear hK
      simp only [Act.put, List.setIfInBounds_toArray, List.set_cons_zero, List.set_cons_succ] at hK2 ⊢
      exact wp_appC 46 (.tmp 28) (.tmp 30) rfl rfl (.slice ba ts.length bc) (.slice a2 ss.length c2) rfl rfl _ _ hrun hK2)
    (by rintro u0 w' ⟨a8, cap8, wq, rfl, h1, h2, h3, h4⟩ K hK; unfold Oper.wp execOp; go_simp; exact hK _ _ ⟨rfl, a8, cap8, wq, rfl, h1, h2, h3, h4⟩)
    (by rintro u0 u1 w' ⟨rfl, a8, cap8, wq, rfl, h1, h2, h3, h4⟩ K hK; unfold Oper.wp execOp; go_simp; exact hK _ _ ⟨rfl, a8, cap8, wq, rfl, h1, h2, h3, h4⟩)
    (by
      rintro u0 u1 u2 w' ⟨rfl, a8, cap8, wq, rfl, h1, h2, h3, h4⟩ K hK
      have kk : Kept (Value.slice ba ts.length bc).ownBlock.toList W6 w' := (h1.mono (by simp)).grown h3 (by intro k hk; left; simp [hk])
      have hr9 := kk.heap (unhide HF6).row (unhide HGB)
      have hw9 := (fdC_cell hr9).2.2.2.2
      have hz9 := (ffroz hr9).2.2.2.2
      unfold Oper.wp execOp
      go_simp
      exact hK _ ⟨a8, cap8, wq, w', rfl, h1, h2, h3, h4, rfl⟩)
    ?_
  rintro u0 u1 u2 w9 ⟨a8, cap8, wq, w8, rfl, kq, ho8, gr8, ha8, rfl⟩
  simp only [Act.put, List.setIfInBounds_toArray, List.set_cons_zero, List.set_cons_succ]
  have kk : Kept (Value.slice ba ts.length bc).ownBlock.toList W6 w8 := (kq.mono (by simp)).grown gr8 (by intro k hk; left; simp [hk])
  have hr8 := kk.heap (unhide HF6).row (unhide HGB)
  have kS := (Kept.refl [g] w8).setCell (p := ⟨g, 4, none⟩) (.inl (by simp)) (.slice a8 (ts.length + ss.length) cap8)
  have hS2 : (w8.setCell ⟨g, 4, none⟩ (.slice a8 (ts.length + ss.length) cap8)).heap[g]? = some (.cells (fdC ⟨f.last, b, f.sz, f.sg ++ [s], f.bs ++ ss.map fun t => (t.1, t.2.2)⟩ (.slice a5 (f.sg.length + 1) cap5) (.slice a8 (ts.length + ss.length) cap8)) 110 (0, 0)) := by rw [heap_setCell_same _ g 4 _ _ _ hr8]; rfl
  have hgl := (unhide HF6).gl
  have hFq := (unhide HF6).pass kq
  have hcat := hFq.bs.cat (unhide H2) ((unhide HR6).trans kq (by simp)) (unhide HM6) h01 (unhide HV) (fun x hx => unhide HX6 x (by simpa using hx)) (fun x hx => (hFq.sg.lt x (by simpa using hx)).2) ho8 gr8 ha8
  have kA : Kept (Value.slice ba ts.length bc).ownBlock.toList wq w8 := (Kept.refl _ wq).grown gr8 (by intro k hk; left; simp [hk])
  have hsg8 := kA.owns hFq.sg (fun x hx hm => hFq.bs.ap x (by simpa using hm) (by simpa using hx))
  have HF9 := hide (⟨hS2, hgl, kS.owns hsg8 (fun x hx hm => by have := (hsg8.lt x hx).1; have := List.mem_singleton.1 hm; omega), hcat.pass kS (fun x hx => Or.inl (by rw [List.mem_singleton.1 hx]; exact hgl)), by rw [(unhide H).eq, List.map_append], (unhide H).last, hb, (unhide H).szb⟩ : FK w0 (w8.setCell ⟨g, 4, none⟩ (.slice a8 (ts.length + ss.length) cap8)) g ⟨f.last, b, f.sz, f.sg ++ [s], f.bs ++ ss.map fun t => (t.1, t.2.2)⟩ (.slice a5 (f.sg.length + 1) cap5) (.slice a8 (ts.length + ss.length) cap8) (ts ++ ss))
  have k69 : Kept (g :: (Value.slice ba ts.length bc).ownBlock.toList) W6 (w8.setCell ⟨g, 4, none⟩ (.slice a8 (ts.length + ss.length) cap8)) := (kk.mono (fun x hx => by simp [hx])).trans kS (fun x hx => Or.inl (by simp at hx; simp [hx]))
  have HKW9 := hide ((unhide HKW6).trans k69 (fun x hx => by
      rcases List.mem_cons.1 hx with rfl | hx
      · exact Or.inl (by simp)
      · exact Or.inr (hFq.bs.own.lt x (by simpa using hx)).1))
  have HQ9 := hide (k69.heap (unhide HQ6) (by
      intro hm
      rcases List.mem_cons.1 hm with h9 | h9
      · have := unhide HGW; omega
      · exact unhide HQL _ (by simpa using h9) rfl))
  have HB9 := hide ((unhide H2).stay (((unhide HR6).mono (M := M6 ++ (g :: (Value.slice ba ts.length bc).ownBlock.toList)) (fun x hx => by simp [hx])).trans k69 (fun x hx => Or.inl (by simp at hx; simp [hx]))) (fun x hx => by
      rcases List.mem_append.1 hx with hx | hx
      · exact unhide HM6 x hx
      · rcases List.mem_cons.1 hx with rfl | hx
        · exact Or.inl (by omega)
        · exact Or.inl (unhide HV x (by simpa using hx))))
  clear kk hr8 kS hS2 hFq hcat kA hsg8 k69 d0 d1 d2 d3 d4 s0 s1 s2 s3 s4 s5 kq ho8 gr8 ha8 HF6 HQ6 HK6 HKW6 HR6 HM6 HX6 HQL HGB H2 HV
  generalize w8.setCell ⟨g, 4, none⟩ (.slice a8 (ts.length + ss.length) cap8) = W9 at HF9 HKW9 HQ9 HB9 ⊢
  obtain ⟨s0, s1, s2, s3, s4, s5⟩ := scells (unhide HQ9)
  go_wp2_with fail
  clear s0 s1 s2 s3 s4 s5
  go_loopw [37] (fun t37 wr => ∃ i : Nat, i ≤ ss.length ∧ t37 = .int .i64 (i : Int) ∧ Hid (FK w0 wr g ⟨f.last, b, (f.sz + cntB ((ss.map fun t => (t.1, t.2.2)).take i)) % 18446744073709551616, f.sg ++ [s], f.bs ++ ss.map fun t => (t.1, t.2.2)⟩ (.slice a5 (f.sg.length + 1) cap5) (.slice a8 (ts.length + ss.length) cap8) (ts ++ ss)) ∧ Hid (Kept [g] w0 wr) ∧ Hid (OwnB w1 wr (.slice a2 ss.length c2) ss)) (fun t _ => ss.length - (intOf t).toNat)
  case atStart => exact ⟨0, Nat.zero_le _, rfl, hide (by have h9 := unhide HF9; rw [List.take_zero, show cntB [] = 0 from rfl, Nat.add_zero, Nat.mod_eq_of_lt (unhide H).szb]; exact h9), HKW9, HB9⟩
  case round =>
    obtain ⟨i, hi, rfl, HF, HK, HB⟩ := hrel
    by_cases hlt : i < ss.length
    · have hlt' : (i : Int) < ss.length := by omega
      have hmi : i < (ss.map fun t => (t.1, t.2.2)).length := by rw [List.length_map]; exact hlt
      have HCN := hide (cntB_take (ss.map fun t => (t.1, t.2.2)) i hmi)
      rw [List.getElem_map] at HCN
      obtain ⟨qa, ql, qc, hq1, hq2, hq3, hq4, hq5⟩ := (unhide HB).rdC
      injection hq1 with e1 e2 e3
      subst e1 e2 e3
      obtain ⟨b2, o2, rfl, hcc⟩ := hq5 (by omega)
      have hri := hcc i (by rw [List.length_map]; exact hlt)
      rw [List.getElem_map] at hri
      have hrn := (unhide HB).rdN ss[i] (List.getElem_mem hlt)
      generalize ss[i] = X at hri hrn HCN
      obtain ⟨pl, y, es⟩ := X
      dsimp only at hrn HCN
      obtain ⟨ea, en, ec, kv, vv, rfl, hen, hecn, hecm, _⟩ := hrn
      subst hen
      have x0 := hri 0 _ rfl
      have x1 := hri 1 _ rfl
      simp only [Nat.add_zero] at x0
      have HLE := hide (by omega : es.length ≤ 9223372036854775807)
      clear hcc hri hq2 hq3 hq4 hq5 hmi hecn hecm
      have ha1 : IntKind.i64.wrap ((i : Int) + 1) = (i : Int) + 1 := by rw [IntKind.wrap_i64]; omega
      go_upto_region 7 with fail
      have k1 := (Kept.refl [] wr).alloc (.cells #[.int .u64 (pl : Int), .slice ea es.length ec] 129)
      have hh1 := heap_alloc_new wr (.cells #[.int .u64 (pl : Int), .slice ea es.length ec] 129)
      have HF1 := hide ((unhide HF).pass k1)
      have HK1 := hide ((unhide HK).trans k1 (by simp))
      have HB1 := hide ((unhide HB).stay k1 (by simp))
      clear x0 x1
      obtain ⟨W1, hW1⟩ : ∃ W, wr.alloc (.cells #[.int .u64 (pl : Int), .slice ea es.length ec] 129) = W := ⟨_, rfl⟩
      rw [hW1] at HF1 HK1 HB1 hh1 ⊢
      clear hW1 k1 HF HK HB
      obtain ⟨y0, y1⟩ := bcells hh1
      obtain ⟨d0, d1, d2, d3, d4⟩ := fdC_cell (unhide HF1).row
      dsimp only at d2
      have hw2 : IntKind.u64.wrap (es.length : Int) = (es.length : Int) := by rw [IntKind.wrap_u64]; have := unhide HLE; omega
      have hw3 : IntKind.u64.wrap ((((f.sz + cntB ((ss.map fun t => (t.1, t.2.2)).take i)) % 18446744073709551616 : Nat) : Int) + (es.length : Int)) = (((f.sz + cntB ((ss.map fun t => (t.1, t.2.2)).take (i + 1))) % 18446744073709551616 : Nat) : Int) := by
        rw [IntKind.wrap_u64, unhide HCN]
        omega
      obtain ⟨SZ, hSZ⟩ : ∃ SZ, (f.sz + cntB ((ss.map fun t => (t.1, t.2.2)).take i)) % 18446744073709551616 = SZ := ⟨_, rfl⟩
      obtain ⟨SZ2, hSZ2⟩ : ∃ SZ2, (f.sz + cntB ((ss.map fun t => (t.1, t.2.2)).take (i + 1))) % 18446744073709551616 = SZ2 := ⟨_, rfl⟩
      rw [hSZ, hSZ2] at hw3
      rw [hSZ] at d2 HF1
      have HSZ2 := hide hSZ2
      have HS2B := hide (by rw [← hSZ2]; exact Nat.mod_lt _ (by omega) : SZ2 < 18446744073709551616)
      clear hSZ hSZ2 hh1 d0 d1 d3 d4 HCN
      refine wp_quiet_tail 9 (by kernel_rfl) (by kernel_rfl) ?_
      simp only [List.take_succ_cons, List.take_zero, List.drop_succ_cons, List.drop_zero]
      repeat (go_big_quiet_step (fail))
      refine wpQuiet_nil ?_
      rintro _ ⟨n5, rfl⟩
      have kD : Kept [] W1 (W1.drewN n5) := (Kept.refl [] W1).drewN n5
      have HF2 := hide ((unhide HF1).pass kD)
      have HK2 := hide ((unhide HK1).trans kD (by simp))
      have HB2 := hide ((unhide HB1).stay kD (by simp))
      clear kD y0 y1 d2 HF1 HK1 HB1
      generalize W1.drewN n5 = W3 at HF2 HK2 HB2 ⊢
      obtain ⟨d0, d1, d2, d3, d4⟩ := fdC_cell (unhide HF2).row
      obtain ⟨z0, z1, z2, z3, z4⟩ := ffroz (unhide HF2).row
      dsimp only at d2
      have hS2 : (W3.setCell ⟨g, 2, none⟩ (.int .u64 (SZ2 : Int))).heap[g]? = some (.cells (fdC ⟨f.last, b, SZ2, f.sg ++ [s], f.bs ++ ss.map fun t => (t.1, t.2.2)⟩ (.slice a5 (f.sg.length + 1) cap5) (.slice a8 (ts.length + ss.length) cap8)) 110 (0, 0)) := by rw [heap_setCell_same _ g 2 _ _ _ (unhide HF2).row]; rfl
      have kS := (Kept.refl [g] W3).setCell (p := ⟨g, 2, none⟩) (.inl (by simp)) (.int .u64 (SZ2 : Int))
      have HF3 := hide ((unhide HF2).turn kS hS2 rfl rfl (unhide HF2).last (unhide HF2).ep (unhide HS2B))
      have HK3 := hide ((unhide HK2).trans kS (fun x hx => Or.inl hx))
      have HB3 := hide ((unhide HB2).stay kS (fun x hx => Or.inl (by rw [List.mem_singleton.1 hx]; have := (unhide HF2).gl; omega)))
      clear hS2 kS
      go_wp2_with fail
      go_roundw
      case rel => exact ⟨i + 1, by omega, by simp, hide (by rw [unhide HSZ2]; exact unhide HF3), HK3, HB3⟩
      case measure => simp [intOf]; omega
    · have hlt' : ¬ (i : Int) < ss.length := by omega
      have hie : i = ss.length := by omega
      subst hie
      have hfin := unhide HF
      rw [List.take_of_length_le (by rw [List.length_map]; exact Nat.le_refl _)] at hfin
      have HFI := hide hfin
      clear hfin
      go_wp2_with fail
      refine bodyPost_end (v := .tuple #[]) (results_none rfl _ _ _) rfl ⟨rfl, ⟨_, _, unhide HFI⟩, unhide HK⟩
end Go.Proofs.YtejchncdimcdbaaGreatDoor
namespace Go.Proofs.YtejchncdimcdbaaGreatDoor
open Go.RowKit Go.BigFrame
set_option linter.unusedVariables false
set_option linter.unusedSimpArgs false

theorem rdL_le : ∀ (k : Nat) (p : List Nat) (z i : Nat), (rdL k p z i).1.length ≤ k
  | 0, p, z, i => by simp [rdL]
  | k + 1, p, z, i => by
    rw [rdL]
    split
    · have := rdL_le k p (rbN p z i).toNat ((i + (rbE p z i).length) % 18446744073709551616)
      simp only [List.length_cons]
      omega
    · simp
theorem sgB_le (p : List Nat) : (sgB p).length ≤ p.length := by
  unfold sgB
  split
  · exact rdL_le _ _ _ _
  · simp
/-- How much a reading of these files reads. -/
def rdT (σ : DSt) (l : List (List UInt8)) : Nat := (l.map fun s => (stRead σ (strU s)).1.length).sum
theorem rdT_cons (σ : DSt) (s : List UInt8) (l : List (List UInt8)) : rdT σ (s :: l) = (stRead σ (strU s)).1.length + rdT σ l := by simp [rdT]
def totA (A : List DF) : Nat := (A.map fun f => f.bs.length).sum
theorem findA_mem {A : List DF} (hd : Dist A) {f : DF} (hf : f ∈ A) : findA A f.nm.data.toList = some f := by
  unfold findA
  have hd2 : A.Pairwise fun a b => a.nm ≠ b.nm := hd
  induction hd2 with
  | nil => simp at hf
  | @cons y l hy hl ih =>
    rcases List.mem_cons.1 hf with rfl | hf
    · simp
    · rw [List.find?_cons]
      have hne : (y.nm.data.toList == f.nm.data.toList) = false := by
        rw [beq_eq_false_iff_ne]
        intro e
        exact hy f hf (ba_ext e)
      rw [hne]
      exact ih hl hf
theorem rdT_le (σ : DSt) (hd : Dist σ.A) : rdT σ (nmsOf σ) ≤ totA σ.A := by
  unfold rdT nmsOf
  by_cases ho : σ.off = true
  · rw [if_pos ho]; simp
  · rw [if_neg ho]
    have hp : (srtN σ.A).Perm (σ.A.map fun f => f.nm.data.toList) := List.mergeSort_perm _ _
    rw [(hp.map (fun s => (stRead σ (strU s)).1.length)).sum_nat, List.map_map]
    unfold totA
    apply Nat.le_of_eq
    congr 1
    apply List.map_congr_left
    intro f hf
    simp only [Function.comp]
    unfold stRead
    rw [if_neg ho]
    have h1 : (strU f.nm.data.toList).data.toList = f.nm.data.toList := by simp [strU]
    rw [h1, findA_mem hd hf]
theorem nms_mem {σ : DSt} {s : List UInt8} (h : s ∈ nmsOf σ) : ∃ f ∈ σ.A, s = f.nm.data.toList := by
  unfold nmsOf at h
  by_cases ho : σ.off = true
  · rw [if_pos ho] at h; simp at h
  · rw [if_neg ho] at h
    have hp : (srtN σ.A).Perm (σ.A.map fun f => f.nm.data.toList) := List.mergeSort_perm _ _
    obtain ⟨f, hf, e⟩ := List.mem_map.1 (hp.mem_iff.1 h)
    exact ⟨f, hf, e.symm⟩
theorem nms_len (σ : DSt) : (nmsOf σ).length ≤ σ.A.length := by
  unfold nmsOf
  split
  · simp
  · have hp : (srtN σ.A).Perm (σ.A.map fun f => f.nm.data.toList) := List.mergeSort_perm _ _
    rw [hp.length_eq, List.length_map]
    exact Nat.le_refl _
theorem hd_lt (p : List Nat) : (hdC p).a < 18446744073709551616 ∧ (hdC p).b < 18446744073709551616 ∧ (hdC p).c < 18446744073709551616 := by
  unfold hdC hdF
  split
  · simp
  · split
    · exact ⟨beL_lt _, beL_lt _, beL_lt _⟩
    · simp
theorem nbU_lt (l : List Nat) : nbU l < 18446744073709551616 := by
  unfold nbU
  split
  · exact dv_lt _ 0 (by omega)
  · omega
/-- A disk that refuses nothing. -/
def dH (sec : Nat) (op : Int) (A : List DF) : DSt := ⟨sec, 0, op, false, fun _ => none, A⟩
theorem opE_h (op : Int) (own : Nat) (h : 0 ≤ op) : opE (fun _ => none) 0 op own = own := by
  unfold opE
  rw [if_neg (by omega)]
  by_cases h0 : own = 0
  · simp [h0]
  · simp [h0]
theorem tick_h (sec : Nat) (op : Int) (A C : List DF) (h : 0 ≤ op) : tick (dH sec op A) C = dH sec (op + 1) C := by
  unfold tick dH
  simp only [DSt.mk.injEq, true_and, and_true]
  simp
  omega
theorem create_h {sec : Nat} {op : Int} {A : List DF} {s : ByteArray} (h : 0 ≤ op) (hs : isNm s = true) (hn : findA A s.data.toList = none) : stCreate (dH sec op A) s = (0, dH sec (op + 1) (A ++ [⟨s, [], 0, false⟩])) := by
  have ho : ownA A s = 0 := by unfold ownA; rw [hs, hn]; rfl
  unfold stCreate
  rw [tick_h sec op A _ h]
  show (if false = true then _ else (opE (fun _ => none) 0 op (ownA A s), _)) = _
  rw [if_neg (by simp), opE_h op _ h]
  show (ownA A s, dH sec (op + 1) (if ownA A s = 0 ∧ opE (fun _ => none) 0 op (ownA A s) ≠ 7 then A ++ [⟨s, [], 0, false⟩] else A)) = _
  rw [opE_h op _ h, ho]
  simp
theorem append_h {sec : Nat} {op : Int} {A : List DF} {s : ByteArray} (p : List Nat) (h : 0 ≤ op) (hn : (findA A s.data.toList).isSome = true) : stAppend (dH sec op A) s p = (0, dH sec (op + 1) (upA A s fun f => { f with bs := f.bs ++ p })) := by
  have hk : appK (dH sec op A) p = p.length := by
    unfold appK
    show (if opE (fun _ => none) 0 op 0 = 7 then _ else _) = _
    rw [opE_h op 0 h]; simp
  unfold stAppend
  rw [hk, List.take_length, tick_h sec op A _ h, tick_h sec op A _ h]
  show (if false = true then _ else if (findA A s.data.toList).isSome = true then (opE (fun _ => none) 0 op 0, _) else _) = _
  rw [if_neg (by simp), if_pos hn, opE_h op 0 h]
  rfl
theorem sync_h {sec : Nat} {op : Int} {A : List DF} {s : ByteArray} (h : 0 ≤ op) (hn : (findA A s.data.toList).isSome = true) : stSync (dH sec op A) s = (0, dH sec (op + 1) (upA A s fun f => { f with sy := f.bs.length })) := by
  unfold stSync
  rw [tick_h sec op A _ h, tick_h sec op A _ h]
  show (if false = true then _ else if (findA A s.data.toList).isSome = true then (opE (fun _ => none) 0 op 0, dH sec (op + 1) (if opE (fun _ => none) 0 op 0 = 0 then _ else _)) else _) = _
  rw [if_neg (by simp), if_pos hn, opE_h op 0 h]
  simp
  rfl
theorem names_h {sec : Nat} {op : Int} {A : List DF} (h : 0 ≤ op) : stNames (dH sec op A) = (0, dH sec (op + 1) (ndA A)) := by
  unfold stNames
  rw [tick_h sec op A _ h]
  show (if false = true then _ else (opE (fun _ => none) 0 op 0, dH sec (op + 1) (if opE (fun _ => none) 0 op 0 = 0 then _ else _))) = _
  rw [if_neg (by simp), opE_h op 0 h]
  simp
  rfl
theorem upA_app (A : List DF) (s : ByteArray) (F : DF → DF) (x : DF) (hx : x.nm = s) (hA : ∀ f ∈ A, f.nm ≠ s) : upA (A ++ [x]) s F = A ++ [F x] := by
  unfold upA
  rw [List.map_append]
  congr 1
  · conv => rhs; rw [← List.map_id A]
    apply List.map_congr_left
    intro f hf
    rw [if_neg (hA f hf)]
    rfl
  · simp [hx]
theorem findA_no {A : List DF} {s : ByteArray} (h : ∀ f ∈ A, f.nm ≠ s) : findA A s.data.toList = none := by
  unfold findA
  rw [List.find?_eq_none]
  intro f hf
  simp only [beq_iff_eq]
  intro e
  exact h f hf (ba_ext e)
theorem findA_app {A : List DF} {s : ByteArray} {x : DF} (hx : x.nm = s) : (findA (A ++ [x]) s.data.toList).isSome = true := by
  unfold findA
  rw [List.find?_isSome]
  exact ⟨x, by simp, by simp [hx]⟩
theorem nmB_ok (n : Nat) : isNm (nmB n) = true := by
  unfold isNm
  rw [nmB_size, Bool.and_eq_true]
  refine ⟨by decide, ?_⟩
  rw [List.all_eq_true]
  intro b hb
  unfold nmB strB at hb
  simp only [List.mem_map] at hb
  obtain ⟨x, hx, rfl⟩ := hb
  have hx2 : x = 115 ∨ x = 101 ∨ x = 103 ∨ x = 45 ∨ (48 ≤ x ∧ x ≤ 57) := by
    rcases List.mem_append.1 hx with h | h
    · simp at h; omega
    · have := dgs_dig 20 n x h; omega
  have hm : (UInt8.ofNat x).toNat = x := by simp; omega
  rw [hm]
  unfold nameB
  simp only [Bool.or_eq_true, decide_eq_true_eq]
  omega
theorem begin_h {sec : Nat} {op : Int} {A : List DF} (n ep fs : Nat) {wd : Int} (h : 0 ≤ op) (hw : wideB wd = true) (hA : ∀ f ∈ A, f.nm ≠ nmB n) :
    stBegin (dH sec op A) n ep fs wd = (0, dH sec (op + 4) (ndA (A ++ [⟨nmB n, ehB n ep fs wd, 48, false⟩]))) := by
  unfold stBegin
  rw [create_h h (nmB_ok n) (findA_no hA)]
  rw [thn_yes (r := (0, _)) rfl]
  rw [append_h _ (by omega) (findA_app rfl), upA_app _ _ _ _ rfl hA]
  rw [thn_yes (r := (0, _)) rfl]
  rw [sync_h (by omega) (findA_app rfl), upA_app _ _ _ _ rfl hA]
  rw [thn_yes (r := (0, _)) rfl]
  rw [names_h (by omega)]
  simp only [List.nil_append, ehB_l48 hw]
  rw [show op + 1 + 1 + 1 + 1 = op + 4 by omega]
end Go.Proofs.YtejchncdimcdbaaGreatDoor
namespace Go.Proofs.YtejchncdimcdbaaGreatDoor
open Go.RowKit Go.BigFrame Go.Maps Go.Sort
set_option linter.unusedVariables false
set_option linter.unusedSimpArgs false

end Go.Proofs.YtejchncdimcdbaaGreatDoor
namespace Go.Proofs.YtejchncdimcdbaaGreatDoor
open Go.RowKit Go.BigFrame Go.Maps Go.Sort
set_option linter.unusedVariables false
set_option linter.unusedSimpArgs false

theorem DK.old {w w' : World} {d nb bb : Nat} {B : List Nat} {σ : DSt} (h : DK w d B nb bb σ) (k : Kept [] w w') : DK w' d B nb bb σ := h.kept k (by simp)
theorem Kept.ev {w0 w w' : World} {B B' : List Nat} (k : Kept [] w0 w) (hb : ∀ x ∈ B, w0.heap.size ≤ x) (e : Ev w w' B B') : Kept [] w0 w' ∧ ∀ x ∈ B', w0.heap.size ≤ x := by
  refine ⟨k.trans e.1 (fun x hx => .inr (hb x hx)), ?_⟩
  intro x hx
  rcases e.2 x hx with h | h
  · exact hb x h
  · exact Nat.le_trans k.size h
end Go.Proofs.YtejchncdimcdbaaGreatDoor
/-
  Laws for drawn regions, by genreg.py. No program.
-/
namespace Go.Proofs.YtejchncdimcdbaaGreatDoor
open Go Go.RowKit Go.BigFrame
set_option linter.unusedVariables false
set_option linter.unusedSimpArgs false
section
variable {P : Program} {Q : Exit → Act → World → Prop}
end
end Go.Proofs.YtejchncdimcdbaaGreatDoor
namespace Go.Proofs.YtejchncdimcdbaaGreatDoor
open Go.RowKit Go.BigFrame Go.Maps Go.Sort
set_option linter.unusedVariables false
set_option linter.unusedSimpArgs false

/-- The cells of a file. -/
def dfC (t : DF × Value) : List Value := [.string t.1.nm, t.2, .int .i64 (t.1.sy : Int), .bool t.1.nd]
theorem dfC_get : ∀ (ts : List (DF × Value)) (i : Nat) (h : i < ts.length) (j : Nat) (v : Value), (dfC ts[i])[j]? = some v → (ts.flatMap dfC)[i * 4 + j]? = some v
  | t :: r, 0, _, j, v, hv => by
    have hj := (List.getElem?_eq_some_iff.1 hv).1
    rw [List.flatMap_cons, List.getElem?_append_left (by simpa using hj)]
    simpa using hv
  | t :: r, i + 1, h, j, v, hv => by
    have h' : i < r.length := by simpa using h
    have h1 := dfC_get r i h' j v (by simpa using hv)
    rw [List.flatMap_cons, List.getElem?_append_right (by simp [dfC]; omega)]
    rw [show (i + 1) * 4 + j - (dfC t).length = i * 4 + j by simp [dfC]; omega]
    exact h1
/-- Files that are owned, each file's bytes in memory of their own. -/
structure OwnFl (B : Nat) (w : World) (v : Value) (ts : List (DF × Value)) : Prop where
  own : w.ownsRow B 74 4 v ts.length (ts.flatMap dfC)
  el : ∀ t ∈ ts, w.ownsRow B 5 1 t.2 t.1.bs.length (t.1.bs.map u8) ∧ (∀ x ∈ t.1.bs, x < 256) ∧ t.1.bs.length ≤ 140737488355328
  ap : ts.Pairwise fun a b => ∀ x ∈ blk a.2, x ∉ blk b.2
theorem OwnFl.nil (B : Nat) (w : World) : OwnFl B w (.slice none 0 0) [] := ⟨World.ownsRow_nil _ _ _ _, by simp, List.Pairwise.nil⟩
/-- Files that can be read. -/
def RdFl (w : World) (v : Value) (ts : List (DF × Value)) : Prop := RdC 4 w v (ts.map dfC) ∧ ∀ t ∈ ts, Rd w t.2 t.1.bs
theorem OwnFl.rd {B : Nat} {w : World} {v : Value} {ts : List (DF × Value)} (h : OwnFl B w v ts) : RdFl w v ts := by
  refine ⟨?_, fun t ht => rd_owns (h.el t ht).1 (h.el t ht).2.1 (h.el t ht).2.2⟩
  rcases h.own.2 with ⟨rfl, h0⟩ | ⟨g, cap, cur, rfl, _, hg, hc, hm', hs, ht⟩
  · have : ts = [] := List.eq_nil_of_length_eq_zero h0
    subst this
    exact RdC.nil 4 w
  · refine ⟨some ⟨g, 0, none⟩, ts.length, cap, rfl, by simp, hc, by unfold maxLen at hm'; omega, fun _ => ⟨g, 0, rfl, fun i hi j u hu => ?_⟩⟩
    have hi' : i < ts.length := by simpa using hi
    rw [List.getElem_map] at hu
    have h9 := h.own.cells (g := g) rfl (i * 4 + j) u (dfC_get ts i hi' j u hu)
    rw [Addr.add_lit, Nat.zero_add] at h9
    rw [Nat.zero_add]
    exact h9
theorem OwnFl.kept {L : List Nat} {B : Nat} {w w' : World} {v : Value} {ts : List (DF × Value)} (h : OwnFl B w v ts) (k : Kept L w w') (hv : ∀ x ∈ blk v, x ∉ L) (ht : ∀ t ∈ ts, ∀ x ∈ blk t.2, x ∉ L) : OwnFl B w' v ts :=
  ⟨k.owns h.own (fun x hx => hv x (own_blk hx)), fun t h1 => ⟨k.owns (h.el t h1).1 (fun x hx => ht t h1 x (own_blk hx)), (h.el t h1).2⟩, h.ap⟩
theorem blk_own4 {w : World} {base e s n : Nat} {v : Value} {xs : List Value} (h : w.ownsRow base e s v n xs) {x : Nat} (hx : x ∈ blk v) : v.ownBlock = some x := by
  rcases h.2 with ⟨rfl, _⟩ | ⟨g, cap, cur, rfl, _, hg, _⟩
  · simp [blk] at hx
  · simp only [blk, List.mem_singleton] at hx
    subst hx
    rfl
/-- The blocks of a list of files. -/
def flB (v : Value) (ts : List (DF × Value)) : List Nat := blk v ++ ts.flatMap fun t => blk t.2
theorem OwnFl.ge {B : Nat} {w : World} {v : Value} {ts : List (DF × Value)} (h : OwnFl B w v ts) : ∀ x ∈ flB v ts, B ≤ x ∧ x < w.heap.size := by
  intro x hx
  simp only [flB, List.mem_append, List.mem_flatMap] at hx
  rcases hx with hx | ⟨t, ht, hx⟩
  · exact h.own.lt x (blk_own4 h.own hx)
  · exact (h.el t ht).1.lt x (blk_own (h.el t ht).1 hx)
end Go.Proofs.YtejchncdimcdbaaGreatDoor
namespace Go.Proofs.YtejchncdimcdbaaGreatDoor
open Go.RowKit Go.BigFrame Go.Maps Go.Sort
set_option linter.unusedVariables false
set_option linter.unusedSimpArgs false

end Go.Proofs.YtejchncdimcdbaaGreatDoor
namespace Go.Proofs.YtejchncdimcdbaaGreatDoor
open Go.RowKit Go.BigFrame
set_option linter.unusedVariables false
set_option linter.unusedSimpArgs false

end Go.Proofs.YtejchncdimcdbaaGreatDoor
namespace Go.Proofs.YtejchncdimcdbaaGreatDoor
open Go.RowKit Go.BigFrame Go.Maps Go.Sort
set_option linter.unusedVariables false
set_option linter.unusedSimpArgs false

theorem strU_size (s : List UInt8) : (strU s).size = s.length := by simp [strU, ByteArray.size]
theorem stSync_e (σ : DSt) (s : ByteArray) : (stSync σ s).1 < 100 := stSync_lt σ s
set_option maxRecDepth 100000 in
set_option maxHeartbeats 4000000 in
theorem wfflush_any (g d nb ob bb : Nat) (B : List Nat) (σ : DSt) (f : FSt) (sv bv : Value) (w : World) (hr : w.heap[g]? = some (.cells (fdC f sv bv) 110 (0, 0))) (hs : RdS w sv f.sg) (hsz : ∀ s ∈ f.sg, s.length ≤ 40) (hD : DKf w d B nb ob bb σ) (hsB : ∀ x ∈ blk sv, x ∉ B) (hn : nb ≤ 1000000000) (hob : ob + f.sg.length ≤ 1000000000) :
    Calls Tryz.prog 47 #[.pointer (some ⟨g, 0, none⟩), .pointer (some ⟨d, 0, none⟩)] w fun e w' => ∃ B', e = .returned (.int .i64 ((stSyncs σ f.sg).1 : Nat)) ∧ DKf w' d B' nb (ob + f.sg.length) bb (stSyncs σ f.sg).2 ∧ Ev w w' B B' := by
  have HS := hide hs
  obtain ⟨sa, sl, sc, rfl, h1, h2, h3, h4⟩ := hs
  obtain ⟨c0, c1, c2, c3, c4⟩ := fdC_cell hr
  have H4 := hide h4
  have HSZ := hide hsz
  have HDK := hide hD
  have HSB := hide hsB
  obtain ⟨L, hL⟩ : ∃ L, f.sg = L := ⟨_, rfl⟩
  rw [hL] at h1 H4 HSZ hob ⊢
  subst h1
  clear hsz hD hsB h4 c0 c1 c2 c4 hr HS hL
  obtain ⟨⟨E0, τ0⟩, hR0⟩ : ∃ R, stSyncs σ L = R := ⟨_, rfl⟩
  rw [hR0]
  have HR0 := hide hR0
  clear hR0
  dsimp only at *
  go_enter Tryz.func47, Tryz.ntmps47
  go_wp2_with fail
  clear c3
  go_loopw [13] (fun t13 wr => ∃ (i : Nat) (Bi : List Nat) (τ : DSt), i ≤ L.length ∧ t13 = .int .i64 (i : Int) ∧ Hid (stSyncs τ (L.drop i) = (E0, τ0)) ∧ Hid (DKf wr d Bi nb (ob + i) bb τ) ∧ Hid (Ev w wr B Bi)) (fun t _ => L.length - (intOf t).toNat)
  case atStart => exact ⟨0, B, σ, Nat.zero_le _, rfl, by rw [List.drop_zero]; exact HR0, HDK, hide (Ev.refl _ _)⟩
  case round =>
    obtain ⟨i, Bi, τ, hi, rfl, HT, HD, HE⟩ := hrel
    by_cases hlt : i < L.length
    · have hlt' : (i : Int) < L.length := by omega
      obtain ⟨b, off, rfl, hc⟩ := unhide H4 (by omega)
      have q0 := (unhide HE).1.cell (hc i hlt) (unhide HSB b (by simp [blk]))
      have HSI := hide (unhide HSZ L[i] (List.getElem_mem hlt))
      have HDR := hide (List.drop_eq_getElem_cons hlt)
      generalize L[i] = s at q0 HSI HDR
      have hic : (i : Int) < sc := by omega
      rw [encStr_eq] at q0
      have ha1 : IntKind.i64.wrap ((i : Int) + 1) = (i : Int) + 1 := by rw [IntKind.wrap_i64]; omega
      clear hc
      have HSY := hide (sync_F d nb (ob + i) bb Bi τ (strU s) wr (unhide HD) (by rw [strU_size]; have := unhide HSI; omega) hn (by omega))
      have HLT := hide (stSync_e τ (strU s))
      obtain ⟨⟨E1, τ1⟩, hR1⟩ : ∃ R, stSync τ (strU s) = R := ⟨_, rfl⟩
      have HN := hide (fun (h0 : E1 ≠ 0) => (by have h9 := unhide HT; rw [unhide HDR] at h9; unfold stSyncs at h9; rw [hR1, if_pos h0] at h9; exact h9 : (E1, τ1) = (E0, τ0)))
      have HY := hide (fun (h0 : E1 = 0) => (by have h9 := unhide HT; rw [unhide HDR] at h9; unfold stSyncs at h9; rw [hR1, if_neg (by simpa using h0)] at h9; exact h9 : stSyncs τ1 (L.drop (i + 1)) = (E0, τ0)))
      rw [hR1] at HSY HLT
      clear hR1 HT HDR
      dsimp only at *
      go_wp2_with fail
      refine Calls.mono (unhide HSY) ?_
      rintro e w1 ⟨B1, rfl, hd1, ev1⟩
      have HD1 := hide hd1
      have HE1 := hide ((unhide HE).trans ev1)
      clear hd1 ev1 q0 HSY HD HE
      by_cases h0 : E1 = 0
      · subst h0
        have HT1 := hide (unhide HY rfl)
        go_wp2_with fail
        go_roundw
        case rel => exact ⟨i + 1, B1, τ1, by omega, by simp, HT1, HD1, HE1⟩
        case measure => simp [intOf]; omega
      · have h0' : ((E1 : Int) != 0) = true := by rw [bne_iff_ne]; omega
        have hz := unhide HN h0
        cases hz
        go_wp2_with fail
        go_ret
        first | exact ⟨B1, rfl, (unhide HD1).more (Nat.le_refl _) (by omega) (Nat.le_refl _), unhide HE1⟩ | exact ⟨rfl, B1, (unhide HD1).more (Nat.le_refl _) (by omega) (Nat.le_refl _), unhide HE1⟩
    · have hlt' : ¬ (i : Int) < L.length := by omega
      have hie : i = L.length := by omega
      subst hie
      have hz := unhide HT
      rw [List.drop_length] at hz
      unfold stSyncs at hz
      cases hz
      go_wp2_with fail
      go_ret
      first | exact ⟨Bi, rfl, unhide HD, unhide HE⟩ | exact ⟨rfl, Bi, unhide HD, unhide HE⟩
end Go.Proofs.YtejchncdimcdbaaGreatDoor
namespace Go.Proofs.YtejchncdimcdbaaGreatDoor
open Go.RowKit Go.BigFrame Go.Maps Go.Sort
set_option linter.unusedVariables false
set_option linter.unusedSimpArgs false

theorem Tryz.size_found : (Tryz.prog.info? 110).map (·.size) = some 5 := by kernel_rfl
theorem put5_heap {w : World} {g : Nat} {a b c d e : Value} {t : TypeId} (h : w.heap[g]? = some (.cells #[a, b, c, d, e] t (0, 0))) (x y z u r : Value) : (((((w.setCell ⟨g, 0, none⟩ x).setCell ⟨g, 1, none⟩ y).setCell ⟨g, 2, none⟩ z).setCell ⟨g, 3, none⟩ u).setCell ⟨g, 4, none⟩ r).heap[g]? = some (.cells #[x, y, z, u, r] t (0, 0)) := by
  rw [heap_setCell_same _ g 4 _ t _ (heap_setCell_same _ g 3 _ t _ (heap_setCell_same _ g 2 _ t _ (heap_setCell_same _ g 1 _ t _ (heap_setCell_same w g 0 _ t _ h))))]; rfl
theorem put5_kept {L : List Nat} {w0 w : World} (k : Kept L w0 w) (g : Nat) (hg : g ∈ L ∨ w0.heap.size ≤ g) (x y z u r : Value) : Kept L w0 (((((w.setCell ⟨g, 0, none⟩ x).setCell ⟨g, 1, none⟩ y).setCell ⟨g, 2, none⟩ z).setCell ⟨g, 3, none⟩ u).setCell ⟨g, 4, none⟩ r) := ((((k.setCell hg x).setCell hg y).setCell hg z).setCell hg u).setCell hg r
theorem cells5 {w : World} {g : Nat} {a b c d e : Value} {t : TypeId} (h : w.heap[g]? = some (.cells #[a, b, c, d, e] t (0, 0))) : w.cell? ⟨g, 0, none⟩ = some a ∧ w.cell? ⟨g, 1, none⟩ = some b ∧ w.cell? ⟨g, 2, none⟩ = some c ∧ w.cell? ⟨g, 3, none⟩ = some d ∧ w.cell? ⟨g, 4, none⟩ = some e := by
  refine ⟨?_, ?_, ?_, ?_, ?_⟩ <;> rw [cell_of_row _ _ _ _ _ _ h] <;> rfl
theorem OwnX.base {X : List Nat} {w0 w1 w : World} {v : Value} {ts : List (Nat × Value × List En)} (h : OwnX X w1 w v ts) (hb : w0.heap.size ≤ w1.heap.size) : OwnX X w0 w v ts := by
  refine ⟨owns_base h.own hb, fun t ht => ?_, Nat.le_trans hb h.sz, h.ap⟩
  obtain ⟨B, C, h1, h2, h3, h4, h5⟩ := h.rd t ht
  exact ⟨B, C, h1, Nat.le_trans hb h2, h3, h4, h5⟩
abbrev zFd : Array Value := #[.int .u64 0, .int .u64 0, .int .u64 0, .slice none 0 0, .slice none 0 0]
/-- What find answers: nothing that goes together, or what was found. -/
def FindR (w w' : World) (R : Option FSt) (e : Ending) : Prop :=
  (R = none ∧ e = .returned (.tuple #[.agg zFd, .bool false])) ∨
  ∃ f sv bv ts, R = some f ∧ e = .returned (.tuple #[.agg (fdC f sv bv), .bool true]) ∧ w'.ownsRow w.heap.size 9 1 sv f.sg.length (f.sg.map encStr) ∧ OwnX sv.ownBlock.toList w w' bv ts ∧ f.bs = ts.map (fun t => (t.1, t.2.2)) ∧ f.last < 18446744073709551615 ∧ f.ep < 18446744073709551615 ∧ f.sz < 18446744073709551616
theorem stepF_1 {σ : DSt} {wd : Int} {f : FSt} {s : List UInt8} (h : nbE (natL s) ≠ 0) : stepF σ wd f s = some f := by unfold stepF; rw [if_pos h]
theorem stepF_2 {σ : DSt} {wd : Int} {f : FSt} {s : List UInt8} (h : nbE (natL s) = 0) (h2 : nbU (natL s) = 18446744073709551615) : stepF σ wd f s = none := by unfold stepF; rw [if_neg (by simpa using h), if_pos h2]
theorem stepF_3 {σ : DSt} {wd : Int} {f : FSt} {s : List UInt8} {p : List Nat} (hp : (stRead σ (strU s)).1 = p) (h : nbE (natL s) = 0) (h2 : nbU (natL s) ≠ 18446744073709551615) (h3 : sgE p ≠ 0) : stepF σ wd f s = some ⟨nbU (natL s), f.ep, f.sz, f.sg, f.bs⟩ := by unfold stepF; rw [if_neg (by simpa using h), if_neg h2, hp, if_pos h3]
theorem stepF_4 {σ : DSt} {wd : Int} {f : FSt} {s : List UInt8} {p : List Nat} (hp : (stRead σ (strU s)).1 = p) (h : nbE (natL s) = 0) (h2 : nbU (natL s) ≠ 18446744073709551615) (h3 : sgE p = 0) (h4 : ¬ ((hdC p).a = nbU (natL s) ∧ ((hdC p).d : Int) = wd ∧ goOnF f p = true)) : stepF σ wd f s = none := by unfold stepF; rw [if_neg (by simpa using h), if_neg h2, hp, if_neg (by simpa using h3), if_neg h4]
theorem stepF_5 {σ : DSt} {wd : Int} {f : FSt} {s : List UInt8} {p : List Nat} (hp : (stRead σ (strU s)).1 = p) (h : nbE (natL s) = 0) (h2 : nbU (natL s) ≠ 18446744073709551615) (h3 : sgE p = 0) (h4 : (hdC p).a = nbU (natL s) ∧ ((hdC p).d : Int) = wd ∧ goOnF f p = true) : stepF σ wd f s = some ⟨nbU (natL s), (hdC p).b, (f.sz + cntB (sgB p)) % 18446744073709551616, f.sg ++ [s], f.bs ++ sgB p⟩ := by unfold stepF; rw [if_neg (by simpa using h), if_neg h2, hp, if_neg (by simpa using h3), if_pos h4]
theorem goOnF_last (f : FSt) (n : Nat) (p : List Nat) : goOnF ⟨n, f.ep, f.sz, f.sg, f.bs⟩ p = goOnF f p := rfl
theorem findF_no {σ : DSt} {wd : Int} {f : FSt} {s : List UInt8} {r : List (List UInt8)} {R : Option FSt} (h : findF σ wd f (s :: r) = R) (h2 : stepF σ wd f s = none) : R = none := by
  unfold findF at h; rw [h2] at h; exact h.symm
theorem findF_go {σ : DSt} {wd : Int} {f g : FSt} {s : List UInt8} {r : List (List UInt8)} {R : Option FSt} (h : findF σ wd f (s :: r) = R) (h2 : stepF σ wd f s = some g) : findF σ wd g r = R := by
  unfold findF at h; rw [h2] at h; exact h
set_option maxRecDepth 100000 in
set_option maxHeartbeats 8000000 in
theorem wfind_any (d nb ob bb g0 : Nat) (wd : Int) (B : List Nat) (σ : DSt) (w : World) (hD : DKf w d B nb ob bb σ) (hv : VarsG g0 w) (hg0 : g0 ≤ w.heap.size) (hn : nb ≤ 1000000000) (hob : ob ≤ 1000000000) (hb : bb ≤ 100000000000) (hT : rdT σ (nmsOf σ) ≤ 1000000000000) :
    Calls Tryz.prog 46 #[.pointer (some ⟨d, 0, none⟩), .int .i64 wd] w fun e w' => FindR w w' (findF σ wd fst0 (nmsOf σ)) e ∧ Kept [] w w' := by
  have HDK := hide hD
  have HVG := hide hv
  have kA := (Kept.refl [] w).alloc (.cells zFd 110)
  have kB := kA.alloc (.cells zFd 110)
  have hA := heap_alloc_new w (.cells zFd 110)
  have hA2 := ((Kept.refl [] (w.alloc (.cells zFd 110))).alloc (.cells zFd 110)).heap hA (by simp)
  have hB := heap_alloc_new (w.alloc (.cells zFd 110)) (.cells zFd 110)
  rw [show (w.alloc (.cells zFd 110)).heap.size = w.heap.size + 1 by simp] at hB
  obtain ⟨L, hL⟩ : ∃ L, nmsOf σ = L := ⟨_, rfl⟩
  have HNL := hide (by rw [← hL]; exact Nat.le_trans (nms_len σ) (Nat.le_trans hD.len hn) : L.length ≤ 1000000000)
  have HNM := hide (fun s hs => by
    rw [← hL] at hs
    obtain ⟨f, hf, rfl⟩ := nms_mem hs
    have := (isNm_size (hD.nms f hf)).2
    exact Nat.le_trans (Nat.le_of_eq (Array.length_toList)) this : ∀ s ∈ L, s.length ≤ 40)
  have HNC := hide (namesOf_D d (max nb ob) bb B σ _ (hD.toDK.kept kB (by simp)) (by omega))
  rw [hL] at hT HNC ⊢
  obtain ⟨R, hR⟩ : ∃ R, findF σ wd fst0 L = R := ⟨_, rfl⟩
  rw [hR]
  have HR := hide hR
  have HKB := hide kB
  have HA := hide hA2
  have HB := hide hB
  have HW := hide (rfl : w.heap.size = w.heap.size)
  clear hD hv kA kB hA hA2 hB hL hR
  go_enter Tryz.func46, Tryz.ntmps46
  go_wp2_with fail
  refine Calls.mono (unhide HNC) ?_
  rintro e w1 ⟨v1, rfl, ho1, k1⟩
  have HRS := hide (rds_owns ho1)
  have HBL := hide (fun x (hx : x ∈ blk v1) => ho1.lt x (blk_own ho1 hx))
  have HK1 := hide ((unhide HKB).trans k1 (by simp))
  have HA1 := hide (k1.heap (unhide HA) (by simp))
  have HB1 := hide (k1.heap (unhide HB) (by simp))
  have HZ1 := hide (by have := k1.size; simp at this; omega : w.heap.size + 2 ≤ w1.heap.size)
  obtain ⟨va, vl, vc, rfl, g1, g2, g3, g4⟩ := unhide HRS
  subst g1
  have H4 := hide g4
  clear k1 ho1 g4 HNC HKB HA HB
  go_wp2_with fail
  have HF0 := hide (⟨unhide HB1, by have := unhide HZ1; omega, World.ownsRow_nil _ _ _ _, OwnX.start w1, rfl, by decide, by decide, by decide⟩ : FK w1 w1 (w.heap.size + 1) fst0 (.slice none 0 0) (.slice none 0 0) [])
  go_loopw [17] (fun t17 wr => ∃ (i : Nat) (f : FSt) (sv bv : Value) (ts : List (Nat × Value × List En)), i ≤ L.length ∧ t17 = .int .i64 (i : Int) ∧ Hid (findF σ wd f (L.drop i) = R) ∧ Hid (FK w1 wr (w.heap.size + 1) f sv bv ts) ∧ Hid (Kept [w.heap.size + 1] w1 wr) ∧ Hid (f.last < 18446744073709551615 ∧ f.ep < 18446744073709551615 ∧ f.sg.length ≤ i ∧ ts.length + rdT σ (L.drop i) ≤ 1000000000000)) (fun t _ => L.length - (intOf t).toNat)
  case atStart => exact ⟨0, fst0, _, _, [], Nat.zero_le _, rfl, by rw [List.drop_zero]; exact HR, HF0, hide (Kept.refl _ _), hide ⟨by decide, by decide, by decide, by rw [List.drop_zero]; simpa using hT⟩⟩
  case round =>
    obtain ⟨i, f, sv, bv, ts, hi, rfl, HT, HF, HK, HBD⟩ := hrel
    have HAR := hide ((unhide HK).heap (unhide HA1) (by intro hm; have := List.mem_singleton.1 hm; omega))
    by_cases hlt : i < L.length
    · have hlt' : (i : Int) < L.length := by omega
      obtain ⟨b, off, rfl, hc⟩ := unhide H4 (by omega)
      have q0 := (unhide HK).cell (hc i hlt) (by intro hm; have h9 := (unhide HBL b (by simp [blk])).1; have h8 : b = w.heap.size + 1 := List.mem_singleton.1 hm; simp at h9; omega)
      have HSI := hide (unhide HNM L[i] (List.getElem_mem hlt))
      have HDR := hide (List.drop_eq_getElem_cons hlt)
      generalize L[i] = s at q0 HSI HDR
      have hic : (i : Int) < vc := by omega
      rw [encStr_eq] at q0
      have ha1 : IntKind.i64.wrap ((i : Int) + 1) = (i : Int) + 1 := by rw [IntKind.wrap_i64]; omega
      have HVR := hide ((((unhide HVG).old (unhide HK1)).on (unhide HK) (fun x hx => by rw [List.mem_singleton.1 hx]; omega)))
      have HDR2 := hide (((unhide HDK).old (unhide HK1)).kept (unhide HK) (fun x hx hm => by have h9 := (unhide HDK).lt x hx; have := List.mem_singleton.1 hm; omega))
      clear hc
      have HT2 := hide (by have h9 := unhide HT; rw [unhide HDR] at h9; exact h9 : findF σ wd f (s :: L.drop (i + 1)) = R)
      have HRT := hide (by have h9 := (unhide HBD).2.2.2; rw [unhide HDR, rdT_cons] at h9; exact h9 : ts.length + ((stRead σ (strU s)).1.length + rdT σ (L.drop (i + 1))) ≤ 1000000000000)
      have HNU := hide (number_all (natL s) wr (natL_byte s) (by have := unhide HSI; simp [natL]; omega) (unhide HVR).now)
      rw [strB_nat] at HNU
      have HUL := hide (nbU_lt (natL s))
      obtain ⟨P, hP⟩ : ∃ x, (stRead σ (strU s)).1 = x := ⟨_, rfl⟩
      obtain ⟨NE, hNE⟩ : ∃ x, nbE (natL s) = x := ⟨_, rfl⟩
      obtain ⟨NU, hNU⟩ : ∃ x, nbU (natL s) = x := ⟨_, rfl⟩
      have H1 := hide (fun (h : NE ≠ 0) => findF_go (unhide HT2) (stepF_1 (by rw [hNE]; exact h)))
      have H2 := hide (fun (h : NE = 0) (h2 : NU = 18446744073709551615) => findF_no (unhide HT2) (stepF_2 (by rw [hNE]; exact h) (by rw [hNU]; exact h2)))
      have H3 := hide (fun (h : NE = 0) (h2 : NU ≠ 18446744073709551615) (h3 : sgE P ≠ 0) => (by have h9 := findF_go (unhide HT2) (stepF_3 hP (by rw [hNE]; exact h) (by rw [hNU]; exact h2) h3); rw [hNU] at h9; exact h9 : findF σ wd ⟨NU, f.ep, f.sz, f.sg, f.bs⟩ (L.drop (i + 1)) = R))
      have H4' := hide (fun (h : NE = 0) (h2 : NU ≠ 18446744073709551615) (h3 : sgE P = 0) (h4 : ¬ ((hdC P).a = NU ∧ ((hdC P).d : Int) = wd ∧ goOnF f P = true)) => findF_no (unhide HT2) (stepF_4 hP (by rw [hNE]; exact h) (by rw [hNU]; exact h2) h3 (by rw [hNU]; exact h4)))
      have H5 := hide (fun (h : NE = 0) (h2 : NU ≠ 18446744073709551615) (h3 : sgE P = 0) (h4 : (hdC P).a = NU ∧ ((hdC P).d : Int) = wd ∧ goOnF f P = true) => (by have h9 := findF_go (unhide HT2) (stepF_5 hP (by rw [hNE]; exact h) (by rw [hNU]; exact h2) h3 (by rw [hNU]; exact h4)); rw [hNU] at h9; exact h9 : findF σ wd ⟨NU, (hdC P).b, (f.sz + cntB (sgB P)) % 18446744073709551616, f.sg ++ [s], f.bs ++ sgB P⟩ (L.drop (i + 1)) = R))
      have HPL := hide (by
        rw [← hP]
        unfold stRead
        split
        · simp
        · split
          · simp
          · rename_i x hx
            exact Nat.le_trans ((unhide HDK).byt x (List.mem_of_find?_eq_some hx)) hb : P.length ≤ 100000000000)
      rw [hP] at HRT
      rw [hNE, hNU] at HNU
      rw [hNU] at HUL
      have HPQ := hide hP
      clear hNE hNU hP HT HT2 HDR
      go_wp2_with fail
      refine Calls.mono (unhide HNU) ?_
      rintro e w2 ⟨rfl, k2⟩
      have HF2 := hide ((unhide HF).pass k2)
      have HK2 := hide ((unhide HK).trans k2 (by simp))
      have HA2 := hide (k2.heap (unhide HAR) (by simp))
      have HV2 := hide ((unhide HVR).old k2)
      have HD2 := hide ((unhide HDR2).old k2)
      clear k2 q0 HNU HF HK HAR HVR HDR2
      by_cases hne : NE = 0
      · subst hne
        by_cases hnu : NU = 18446744073709551615
        · have hq : ((NU : Int) == 18446744073709551615) = true := by rw [hnu]; rfl
          have HRN := hide (unhide H2 (by simp) hnu)
          obtain ⟨z0, z1, z2, z3, z4⟩ := cells5 (unhide HA2)
          obtain ⟨y0, y1, y2, y3, y4⟩ := ffroz (unhide HA2)
          clear hnu H1 H2 H3 H4' H5
          go_wp2_with fail
          refine bodyPost_ret (v := .tuple #[.agg zFd, .bool false]) ?_ rfl ⟨Or.inl ⟨unhide HRN, rfl⟩, ?_⟩
          · exact results_cell_tmp rfl _ _ w.heap.size _ zFd (0, 0) _ rfl (put5_heap (unhide HA2) _ _ _ _ _) Tryz.underlying110 rfl Tryz.size_found _ rfl
          · exact put5_kept ((unhide HK1).trans (unhide HK2) (fun x hx => Or.inr (by rw [List.mem_singleton.1 hx]; omega))) w.heap.size (Or.inr (Nat.le_refl _)) _ _ _ _ _
        · have hq : ((NU : Int) == 18446744073709551615) = false := by simp; omega
          obtain ⟨c0, c1, c2, c3, c4⟩ := fdC_cell (unhide HF2).row
          obtain ⟨y0, y1, y2, y3, y4⟩ := ffroz (unhide HF2).row
          have kS := (Kept.refl [w.heap.size + 1] w2).setCell (p := ⟨w.heap.size + 1, 0, none⟩) (.inl (by simp)) (.int .u64 (NU : Int))
          have hS2 : (w2.setCell ⟨w.heap.size + 1, 0, none⟩ (.int .u64 (NU : Int))).heap[w.heap.size + 1]? = some (.cells (fdC ⟨NU, f.ep, f.sz, f.sg, f.bs⟩ sv bv) 110 (0, 0)) := by rw [heap_setCell_same _ _ 0 _ _ _ (unhide HF2).row]; rfl
          have HF3 := hide ((unhide HF2).turn (f' := ⟨NU, f.ep, f.sz, f.sg, f.bs⟩) kS hS2 rfl rfl (unhide HUL) (unhide HF2).ep (unhide HF2).szb)
          have HK3 := hide ((unhide HK2).trans kS (fun x hx => Or.inl hx))
          have HA3 := hide (kS.heap (unhide HA2) (by intro hm; have := List.mem_singleton.1 hm; omega))
          have HD3 := hide ((unhide HD2).kept kS (fun x hx hm => by have h9 := (unhide HDK).lt x hx; have := List.mem_singleton.1 hm; omega))
          obtain ⟨W3, hW3⟩ : ∃ W, w2.setCell ⟨w.heap.size + 1, 0, none⟩ (.int .u64 (NU : Int)) = W := ⟨_, rfl⟩
          rw [hW3] at HF3 HK3 HA3 HD3
          have HW3 := hide hW3
          have HRD := hide (read_D d (max nb ob) bb B σ (strU s) W3 (unhide HD3).toDK (by rw [strU_size]; have := unhide HSI; omega) (by omega))
          clear hW3 kS hS2 HF2 HK2 HA2 HV2 HD2
          go_upto_region 10 with fail
          rw [unhide HW3]
          clear c0 c1 c2 c3 c4 y0 y1 y2 y3 y4
          go_wp2_with fail
          refine Calls.mono (unhide HRD) ?_
          rintro e w4 ⟨v4, rfl, hw4, k4⟩
          rw [unhide HPQ] at hw4
          have hr4 := hw4.rd
          obtain ⟨a4, n4, c4, rfl, hn4, _⟩ := id hr4
          have HF4 := hide ((unhide HF3).pass k4)
          have HK4 := hide ((unhide HK3).trans k4 (by simp))
          have HA4 := hide (k4.heap (unhide HA3) (by simp))
          have HRO := hide (readO_any _ P w4 hr4 (unhide HPL))
          clear k4 hw4 hr4 hn4 HRD HF3 HK3 HA3 HD3 HW3
          go_wp2_with fail
          refine Calls.mono (unhide HRO) ?_
          rintro e w5 ⟨b5, rfl, ⟨ss, hss, ho5⟩, k5⟩
          obtain ⟨a5, c5, rfl⟩ := owns_formC ho5.own
          obtain ⟨SE, hSE⟩ : ∃ x, sgE P = x := ⟨_, rfl⟩
          obtain ⟨⟨xa, xb, xc, xd⟩, hX⟩ : ∃ x, hdC P = x := ⟨_, rfl⟩
          obtain ⟨SU, hSU⟩ : ∃ x, sgU P = x := ⟨_, rfl⟩
          have HWG := hide (fun (V : World) (hr : V.heap[w.heap.size + 1]? = some (.cells (fdC ⟨NU, f.ep, f.sz, f.sg, f.bs⟩ sv bv) 110 (0, 0))) => wgoes_any (w.heap.size + 1) xa xb xc (xd : Int) ⟨NU, f.ep, f.sz, f.sg, f.bs⟩ sv bv V hr P (by rw [hX]) (by rw [hX]))
          have HXB := hide (by have h9 := (hd_lt P).2.1; rw [hX] at h9; exact h9 : xb < 18446744073709551616)
          rw [hSE] at H3 H4' H5
          rw [hX] at H4' H5
          rw [hSE, hX, hSU]
          dsimp only at H4' H5 ⊢
          rw [hss] at H5
          have HGO := hide (goOnF_last f NU P)
          have HGE := hide (fun (h : goOnF f P = true) => by unfold goOnF at h; rw [hX] at h; simp only [Bool.and_eq_true, decide_eq_true_eq] at h; exact h.2 : goOnF f P = true → xb < 18446744073709551615)
          obtain ⟨GO, hGO⟩ : ∃ x, goOnF f P = x := ⟨_, rfl⟩
          have HSL := hide (by rw [← List.length_map (f := fun t : Nat × Value × List En => (t.1, t.2.2)), ← hss]; exact sgB_le P : ss.length ≤ P.length)
          rw [hGO] at H4' H5 HGO HGE
          rw [unhide HGO] at HWG
          have HF5 := hide ((unhide HF4).pass k5)
          have HK5 := hide ((unhide HK4).trans k5 (by simp))
          have HA5 := hide (k5.heap (unhide HA4) (by simp))
          have HO5 := hide ho5
          have HVB := hide (fun x hx => ((unhide HF4).bs.own.lt x hx).2 : ∀ x, bv.ownBlock = some x → x < w4.heap.size)
          have HVS := hide (fun x hx => ((unhide HF4).sg.lt x hx).2 : ∀ x, sv.ownBlock = some x → x < w4.heap.size)
          have H01 := hide (unhide HK4).size
          have kN := (Kept.refl [] w5).alloc (.cells #[.int .u64 (xa : Int), .int .u64 (xb : Int), .int .u64 (xc : Int), .int .i64 (xd : Int), .slice a5 ss.length c5, .int .i64 (SU : Int)] 83)
          have hNw := heap_alloc_new w5 (.cells #[.int .u64 (xa : Int), .int .u64 (xb : Int), .int .u64 (xc : Int), .int .i64 (xd : Int), .slice a5 ss.length c5, .int .i64 (SU : Int)] 83)
          have HF6 := hide ((unhide HF5).pass kN)
          have HK6 := hide ((unhide HK5).trans kN (by simp))
          have HA6 := hide (kN.heap (unhide HA5) (by simp))
          have HKN := hide kN
          have HNW := hide hNw
          clear k5 ho5 hSE hX hSU hss hGO kN hNw HRO HF4 HK4 HA4 HF5 HK5 HA5 HPQ HPL H1 H2 HGO
          by_cases hse : SE = 0
          · subst hse
            go_upto_region 13 with fail
            obtain ⟨W6, hW6⟩ : ∃ W, w5.alloc (.cells #[.int .u64 (xa : Int), .int .u64 (xb : Int), .int .u64 (xc : Int), .int .i64 (xd : Int), .slice a5 ss.length c5, .int .i64 (SU : Int)] 83) = W := ⟨_, rfl⟩
            rw [hW6] at HF6 HK6 HA6 HKN HNW ⊢
            clear hW6
            obtain ⟨s0, s1, s2, s3, s4, s5⟩ := scells (unhide HNW)
            obtain ⟨z0, z1, z2, z3, z4⟩ := cells5 (unhide HA6)
            obtain ⟨y0, y1, y2, y3, y4⟩ := ffroz (unhide HA6)
            by_cases ha : xa = NU
            · have ha' : ((xa : Int) != (NU : Int)) = false := by rw [ha]; simp
              by_cases hd : (xd : Int) = wd
              · have hd' : ((xd : Int) != wd) = false := by rw [hd]; simp
                by_cases hgo : GO = true
                · have HT3 := hide (unhide H5 (by simp) hnu rfl ⟨ha, hd, hgo⟩)
                  have HNM9 := hide hnu
                  have HEB := hide (unhide HGE hgo)
                  subst hgo
                  clear ha hd hnu H3 H4' H5
                  go_wp2_with fail
                  refine Calls.mono (unhide HWG W6 (unhide HF6).row) ?_
                  rintro e w7 ⟨rfl, k7⟩
                  have HF7 := hide ((unhide HF6).pass k7)
                  have HK7 := hide ((unhide HK6).trans k7 (by simp))
                  have HN7 := hide (k7.heap (unhide HNW) (by simp))
                  have HKN7 := hide ((unhide HKN).trans k7 (by simp))
                  clear k7 s0 s1 s2 s3 s4 s5 z0 z1 z2 z3 z4 y0 y1 y2 y3 y4 HF6 HK6 HNW HKN HWG HA6
                  obtain ⟨s0, s1, s2, s3, s4, s5⟩ := scells (unhide HN7)
                  go_wp2_with fail
                  refine Calls.mono (wadd_any (w.heap.size + 1) xa xb xc SU (xd : Int) s ⟨NU, f.ep, f.sz, f.sg, f.bs⟩ sv bv (.slice a5 ss.length c5) ts ss w1 w4 w5 w7 [] (unhide HF7) (unhide HK7) (unhide HO5) (unhide HKN7) (by simp) (unhide H01) (unhide HVB) (unhide HVS) (unhide HXB) (by have := unhide HRT; have := unhide HSL; omega) (by have := (unhide HBD).2.2.1; have := unhide HNL; dsimp only; omega)) ?_
                  rintro e w8 ⟨sv8, bv8, rfl, hf8, hk8⟩
                  have HF8 := hide hf8
                  have HK8 := hide hk8
                  have HBX := hide (by have h9 := unhide HXB; have h8 := hf8.ep; exact h8 : xb < 18446744073709551616)
                  clear hf8 hk8 s0 s1 s2 s3 s4 s5 HF7 HK7 HN7 HKN7 HO5 HVB HVS H01
                  go_wp2_with fail
                  go_roundw
                  case rel => exact ⟨i + 1, _, sv8, bv8, ts ++ ss, by omega, by simp, HT3, HF8, HK8, hide ⟨by show NU < 18446744073709551615; have := unhide HUL; have := unhide HNM9; omega, unhide HEB, by have := (unhide HBD).2.2.1; simp only [List.length_append, List.length_cons, List.length_nil]; omega, by rw [List.length_append]; have := unhide HRT; have := unhide HSL; omega⟩⟩
                  case measure => simp [intOf]; omega
                · have HRN := hide (unhide H4' (by simp) hnu rfl (fun h => hgo h.2.2))
                  have hgo2 : GO = false := by simpa using hgo
                  subst hgo2
                  clear ha hd hnu hgo H3 H4' H5
                  go_wp2_with fail
                  refine Calls.mono (unhide HWG W6 (unhide HF6).row) ?_
                  rintro e w7 ⟨rfl, k7⟩
                  have HK7 := hide ((unhide HK6).trans k7 (by simp))
                  have HA7 := hide (k7.heap (unhide HA6) (by simp))
                  clear k7 s0 s1 s2 s3 s4 s5 z0 z1 z2 z3 z4 y0 y1 y2 y3 y4 HF6 HK6 HNW HKN HWG HA6
                  obtain ⟨z0, z1, z2, z3, z4⟩ := cells5 (unhide HA7)
                  obtain ⟨y0, y1, y2, y3, y4⟩ := ffroz (unhide HA7)
                  go_wp2_with fail
                  refine bodyPost_ret (v := .tuple #[.agg zFd, .bool false]) ?_ rfl ⟨Or.inl ⟨unhide HRN, rfl⟩, ?_⟩
                  · exact results_cell_tmp rfl _ _ w.heap.size _ zFd (0, 0) _ rfl (put5_heap (unhide HA7) _ _ _ _ _) Tryz.underlying110 rfl Tryz.size_found _ rfl
                  · exact put5_kept ((unhide HK1).trans (unhide HK7) (fun x hx => Or.inr (by rw [List.mem_singleton.1 hx]; omega))) w.heap.size (Or.inr (Nat.le_refl _)) _ _ _ _ _
              · have hd' : ((xd : Int) != wd) = true := by rw [bne_iff_ne]; exact hd
                have HRN := hide (unhide H4' (by simp) hnu rfl (fun h => hd h.2.1))
                clear ha hd hnu H3 H4' H5
                go_wp2_with fail
                refine bodyPost_ret (v := .tuple #[.agg zFd, .bool false]) ?_ rfl ⟨Or.inl ⟨unhide HRN, rfl⟩, ?_⟩
                · exact results_cell_tmp rfl _ _ w.heap.size _ zFd (0, 0) _ rfl (put5_heap (unhide HA6) _ _ _ _ _) Tryz.underlying110 rfl Tryz.size_found _ rfl
                · exact put5_kept ((unhide HK1).trans (unhide HK6) (fun x hx => Or.inr (by rw [List.mem_singleton.1 hx]; omega))) w.heap.size (Or.inr (Nat.le_refl _)) _ _ _ _ _
            · have ha' : ((xa : Int) != (NU : Int)) = true := by rw [bne_iff_ne]; omega
              have HRN := hide (unhide H4' (by simp) hnu rfl (fun h => ha h.1))
              clear ha hnu H3 H4' H5
              go_wp2_with fail
              refine bodyPost_ret (v := .tuple #[.agg zFd, .bool false]) ?_ rfl ⟨Or.inl ⟨unhide HRN, rfl⟩, ?_⟩
              · exact results_cell_tmp rfl _ _ w.heap.size _ zFd (0, 0) _ rfl (put5_heap (unhide HA6) _ _ _ _ _) Tryz.underlying110 rfl Tryz.size_found _ rfl
              · exact put5_kept ((unhide HK1).trans (unhide HK6) (fun x hx => Or.inr (by rw [List.mem_singleton.1 hx]; omega))) w.heap.size (Or.inr (Nat.le_refl _)) _ _ _ _ _
          · have hse' : ((SE : Int) != 0) = true := by rw [bne_iff_ne]; omega
            have HT3 := hide (unhide H3 (by simp) hnu hse)
            have HNL9 := hide (by have := unhide HUL; omega : NU < 18446744073709551615)
            clear hse hnu H3 H4' H5
            go_wp2_with fail
            go_roundw
            case rel => exact ⟨i + 1, _, sv, bv, ts, by omega, by simp, HT3, HF6, HK6, hide ⟨unhide HNL9, (unhide HBD).2.1, by have := (unhide HBD).2.2.1; dsimp only; omega, by have := unhide HRT; omega⟩⟩
            case measure => simp [intOf]; omega
      · have hne' : ((NE : Int) != 0) = true := by rw [bne_iff_ne]; omega
        have HT3 := hide (unhide H1 hne)
        go_wp2_with fail
        go_roundw
        case rel => exact ⟨i + 1, f, sv, bv, ts, by omega, by simp, HT3, HF2, HK2, hide ⟨(unhide HBD).1, (unhide HBD).2.1, by have := (unhide HBD).2.2.1; omega, by have := unhide HRT; omega⟩⟩
        case measure => simp [intOf]; omega
    · have hlt' : ¬ (i : Int) < L.length := by omega
      have hie : i = L.length := by omega
      subst hie
      have hz := unhide HT
      rw [List.drop_length] at hz
      unfold findF at hz
      have HRN := hide hz.symm
      obtain ⟨sa, sc, rfl⟩ := owns_formC (unhide HF).sg
      obtain ⟨ba, bc, rfl⟩ := (unhide HF).bs.shape
      obtain ⟨z0, z1, z2, z3, z4⟩ := cells5 (unhide HAR)
      obtain ⟨y0, y1, y2, y3, y4⟩ := ffroz (unhide HAR)
      obtain ⟨c0, c1, c2, c3, c4⟩ := fdC_cell (unhide HF).row
      clear hz HT
      go_wp2_with fail
      have kF : Kept [w.heap.size] wr _ := put5_kept (Kept.refl [w.heap.size] wr) w.heap.size (Or.inl (by simp)) (.int .u64 (f.last : Int)) (.int .u64 (f.ep : Int)) (.int .u64 (f.sz : Int)) (.slice sa f.sg.length sc) (.slice ba ts.length bc)
      refine bodyPost_ret (v := .tuple #[.agg (fdC f (.slice sa f.sg.length sc) (.slice ba ts.length bc)), .bool true]) ?_ rfl ⟨Or.inr ⟨f, _, _, ts, unhide HRN, rfl, ?_, ?_, (unhide HF).eq, (unhide HBD).1, (unhide HBD).2.1, (unhide HF).szb⟩, ?_⟩
      · exact results_cell_tmp rfl _ _ w.heap.size _ (fdC f (.slice sa f.sg.length sc) (.slice ba ts.length bc)) (0, 0) _ rfl (put5_heap (unhide HAR) _ _ _ _ _) Tryz.underlying110 rfl Tryz.size_found _ rfl
      · exact owns_base (kF.owns (unhide HF).sg (fun x hx hm => by have h9 := ((unhide HF).sg.lt x hx).1; have := List.mem_singleton.1 hm; have := unhide HZ1; omega)) (by have := unhide HZ1; omega)
      · exact ((unhide HF).bs.pass kF (fun x hx => Or.inl (by rw [List.mem_singleton.1 hx]; have := unhide HZ1; omega))).base (by have := unhide HZ1; omega)
      · exact put5_kept ((unhide HK1).trans (unhide HK) (fun x hx => Or.inr (by rw [List.mem_singleton.1 hx]; omega))) w.heap.size (Or.inr (Nat.le_refl _)) _ _ _ _ _
end Go.Proofs.YtejchncdimcdbaaGreatDoor
/-
  Laws for drawn regions, by genreg.py. No program.
-/
namespace Go.Proofs.YtejchncdimcdbaaGreatDoor
open Go Go.RowKit Go.BigFrame
set_option linter.unusedVariables false
set_option linter.unusedSimpArgs false
section
variable {P : Program} {Q : Exit → Act → World → Prop}
theorem wp_op11 {id : Nat} {o0 o1 o2 o3 o4 o5 o6 o7 o8 o9 o10 : Oper} {a : Act} {w : World} (hm : P.follows .mixedOrders = true) (hs : Region.noSelect #[o0, o1, o2, o3, o4, o5, o6, o7, o8, o9, o10] = true)
    (f0 : Region.free .any #[o0, o1, o2, o3, o4, o5, o6, o7, o8, o9, o10] #[false, false, false, false, false, false, false, false, false, false, false] 0 = true) (r0 : (Region.ready .any #[o0, o1, o2, o3, o4, o5, o6, o7, o8, o9, o10] #[false, false, false, false, false, false, false, false, false, false, false]).contains 0 = true)
    (f1 : Region.free .any #[o0, o1, o2, o3, o4, o5, o6, o7, o8, o9, o10] #[true, false, false, false, false, false, false, false, false, false, false] 1 = true) (r1 : (Region.ready .any #[o0, o1, o2, o3, o4, o5, o6, o7, o8, o9, o10] #[true, false, false, false, false, false, false, false, false, false, false]).contains 1 = true)
    (f2 : Region.free .any #[o0, o1, o2, o3, o4, o5, o6, o7, o8, o9, o10] #[true, true, false, false, false, false, false, false, false, false, false] 2 = true) (r2 : (Region.ready .any #[o0, o1, o2, o3, o4, o5, o6, o7, o8, o9, o10] #[true, true, false, false, false, false, false, false, false, false, false]).contains 2 = true)
    (f3 : Region.free .any #[o0, o1, o2, o3, o4, o5, o6, o7, o8, o9, o10] #[true, true, true, false, false, false, false, false, false, false, false] 3 = true) (r3 : (Region.ready .any #[o0, o1, o2, o3, o4, o5, o6, o7, o8, o9, o10] #[true, true, true, false, false, false, false, false, false, false, false]).contains 3 = true)
    (f4 : Region.free .any #[o0, o1, o2, o3, o4, o5, o6, o7, o8, o9, o10] #[true, true, true, true, false, false, false, false, false, false, false] 4 = true) (r4 : (Region.ready .any #[o0, o1, o2, o3, o4, o5, o6, o7, o8, o9, o10] #[true, true, true, true, false, false, false, false, false, false, false]).contains 4 = true)
    (f6 : Region.free .any #[o0, o1, o2, o3, o4, o5, o6, o7, o8, o9, o10] #[true, true, true, true, true, false, false, false, false, false, false] 6 = true) (r6 : (Region.ready .any #[o0, o1, o2, o3, o4, o5, o6, o7, o8, o9, o10] #[true, true, true, true, true, false, false, false, false, false, false]).contains 6 = true)
    (f7 : Region.free .any #[o0, o1, o2, o3, o4, o5, o6, o7, o8, o9, o10] #[true, true, true, true, true, false, true, false, false, false, false] 7 = true) (r7 : (Region.ready .any #[o0, o1, o2, o3, o4, o5, o6, o7, o8, o9, o10] #[true, true, true, true, true, false, true, false, false, false, false]).contains 7 = true)
    (q_ : Region.ready .any #[o0, o1, o2, o3, o4, o5, o6, o7, o8, o9, o10] #[true, true, true, true, true, false, true, true, false, false, false] = [5])
    (f_5_8 : Region.free .any #[o0, o1, o2, o3, o4, o5, o6, o7, o8, o9, o10] #[true, true, true, true, true, true, true, true, false, false, false] 8 = true) (r_5_8 : (Region.ready .any #[o0, o1, o2, o3, o4, o5, o6, o7, o8, o9, o10] #[true, true, true, true, true, true, true, true, false, false, false]).contains 8 = true)
    (f_5_9 : Region.free .any #[o0, o1, o2, o3, o4, o5, o6, o7, o8, o9, o10] #[true, true, true, true, true, true, true, true, true, false, false] 9 = true) (r_5_9 : (Region.ready .any #[o0, o1, o2, o3, o4, o5, o6, o7, o8, o9, o10] #[true, true, true, true, true, true, true, true, true, false, false]).contains 9 = true)
    (f_5_10 : Region.free .any #[o0, o1, o2, o3, o4, o5, o6, o7, o8, o9, o10] #[true, true, true, true, true, true, true, true, true, true, false] 10 = true) (r_5_10 : (Region.ready .any #[o0, o1, o2, o3, o4, o5, o6, o7, o8, o9, o10] #[true, true, true, true, true, true, true, true, true, true, false]).contains 10 = true)
    (q5_ : Region.ready .any #[o0, o1, o2, o3, o4, o5, o6, o7, o8, o9, o10] #[true, true, true, true, true, true, true, true, true, true, true] = [])
    (g5 : o5.guard = none)
    (v0 v1 v2 v3 v4 v6 v7 : Value) (A0 A1 A2 A3 A4 A5 A6 : Act)
    (S : World → Prop)
    (I_ : World → Prop)
    (I5_ : Value → World → Prop)
    (v8 : Value → Value)
    (v9 : Value → Value)
    (v10 : Value → Value)
    (p0 : a.put o0.dst v0 = A0) (hy0 : YieldsIf P #[o0, o1, o2, o3, o4, o5, o6, o7, o8, o9, o10] S o0 v0 a)
    (p1 : A0.put o1.dst v1 = A1) (hy1 : YieldsIf P #[o0, o1, o2, o3, o4, o5, o6, o7, o8, o9, o10] S o1 v1 A0)
    (p2 : A1.put o2.dst v2 = A2) (hy2 : YieldsIf P #[o0, o1, o2, o3, o4, o5, o6, o7, o8, o9, o10] S o2 v2 A1)
    (p3 : A2.put o3.dst v3 = A3) (hy3 : YieldsIf P #[o0, o1, o2, o3, o4, o5, o6, o7, o8, o9, o10] S o3 v3 A2)
    (p4 : A3.put o4.dst v4 = A4) (hy4 : YieldsIf P #[o0, o1, o2, o3, o4, o5, o6, o7, o8, o9, o10] S o4 v4 A3)
    (p6 : A4.put o6.dst v6 = A5) (hy6 : YieldsIf P #[o0, o1, o2, o3, o4, o5, o6, o7, o8, o9, o10] S o6 v6 A4)
    (p7 : A5.put o7.dst v7 = A6) (hy7 : YieldsIf P #[o0, o1, o2, o3, o4, o5, o6, o7, o8, o9, o10] S o7 v7 A5)
    (i0 : I_ w.drew)
    (hIS : (∀ w', I_  w' → S w') ∧ (∀ (u5 : Value) w', I5_ u5 w' → S w'))
    (s_5 : ∀ w', I_  w' → ∀ K : Act → World → Prop, (∀ (u5 : Value) w2, I5_ u5 w2 → K (A6.put o5.dst u5) w2) → o5.wp P A6 w' K (NoPanic Q))
    (y_5_8 : ∀ (u5 : Value) w', I5_ u5 w' → YieldsIf P #[o0, o1, o2, o3, o4, o5, o6, o7, o8, o9, o10] S o8 (v8 u5) (A6.put o5.dst u5))
    (y_5_9 : ∀ (u5 : Value) w', I5_ u5 w' → YieldsIf P #[o0, o1, o2, o3, o4, o5, o6, o7, o8, o9, o10] S o9 (v9 u5) ((A6.put o5.dst u5).put o8.dst (v8 u5)))
    (y_5_10 : ∀ (u5 : Value) w', I5_ u5 w' → YieldsIf P #[o0, o1, o2, o3, o4, o5, o6, o7, o8, o9, o10] S o10 (v10 u5) (((A6.put o5.dst u5).put o8.dst (v8 u5)).put o9.dst (v9 u5)))
    (h : ∀ (u5 : Value) w', I5_ u5 w' → Q .normal ((((A6.put o5.dst u5).put o8.dst (v8 u5)).put o9.dst (v9 u5)).put o10.dst (v10 u5)) w') :
    (Code.region id #[o0, o1, o2, o3, o4, o5, o6, o7, o8, o9, o10] true).wp P Q a w := by
  subst p0 p1 p2 p3 p4 p6 p7
  obtain ⟨z_, z5_⟩ := hIS
  refine wp_region_noPanic ?_
  refine wp_region_held_drew (S := S) hm (z_ _ i0) (fun hH => ?_)
  show wpAnyH P .any #[o0, o1, o2, o3, o4, o5, o6, o7, o8, o9, o10] (NoPanic Q) S 11 #[false, false, false, false, false, false, false, false, false, false, false] a w.drew
  refine wpAnyH_take (i := 0) (oi := o0) rfl hs f0 r0 (fun _ _ _ h => h) hy0 hH ?_
  refine wpAnyH_take (i := 1) (oi := o1) rfl hs f1 r1 (fun _ _ _ h => h) hy1 hH ?_
  refine wpAnyH_take (i := 2) (oi := o2) rfl hs f2 r2 (fun _ _ _ h => h) hy2 hH ?_
  refine wpAnyH_take (i := 3) (oi := o3) rfl hs f3 r3 (fun _ _ _ h => h) hy3 hH ?_
  refine wpAnyH_take (i := 4) (oi := o4) rfl hs f4 r4 (fun _ _ _ h => h) hy4 hH ?_
  refine wpAnyH_take (i := 6) (oi := o6) rfl hs f6 r6 (fun _ _ _ h => h) hy6 hH ?_
  refine wpAnyH_take (i := 7) (oi := o7) rfl hs f7 r7 (fun _ _ _ h => h) hy7 hH ?_
  generalize (((((((a.put o0.dst v0).put o1.dst v1).put o2.dst v2).put o3.dst v3).put o4.dst v4).put o6.dst v6).put o7.dst v7) = B at *
  have wa5 : ∀ y, Region.wanted o5 y = true := fun y => by unfold Region.wanted; rw [g5]
  have t5_ : ∀ (u5 : Value) w', I5_ u5 w' → wpAnyH P .any #[o0, o1, o2, o3, o4, o5, o6, o7, o8, o9, o10] (NoPanic Q) S 0 #[true, true, true, true, true, true, true, true, true, true, true] ((((B.put o5.dst u5).put o8.dst (v8 u5)).put o9.dst (v9 u5)).put o10.dst (v10 u5)) w' := by
    intro u5 w0 i0
    exact ⟨q5_, NoPanic.normal (h u5 w0 i0)⟩
  have t_ : ∀ w', I_  w' → wpAnyH P .any #[o0, o1, o2, o3, o4, o5, o6, o7, o8, o9, o10] (NoPanic Q) S 4 #[true, true, true, true, true, false, true, true, false, false, false] B w' := by
    intro w0 i0
    refine wpAnyH_ready (rs := [5]) q_ (by simp) (AllReadyH.cons (o := o5) rfl (fun K hK => ?_) AllReadyH.nil)
    · rw [if_pos (wa5 _)]
      refine s_5  w0 i0 K (fun u5 w1 i1 => hK.out _ _ (z5_ u5 w1 i1) (fun _ => ?_))
      clear hK
      refine wpAnyH_take (i := 8) (oi := o8) rfl hs f_5_8 r_5_8 (fun _ _ _ h => h) (y_5_8 u5 w1 i1) (z5_ u5 w1 i1) ?_
      refine wpAnyH_take (i := 9) (oi := o9) rfl hs f_5_9 r_5_9 (fun _ _ _ h => h) (y_5_9 u5 w1 i1) (z5_ u5 w1 i1) ?_
      refine wpAnyH_take (i := 10) (oi := o10) rfl hs f_5_10 r_5_10 (fun _ _ _ h => h) (y_5_10 u5 w1 i1) (z5_ u5 w1 i1) ?_
      exact t5_ u5 w1 i1
  exact t_ w.drew i0
end
end Go.Proofs.YtejchncdimcdbaaGreatDoor
namespace Go.Proofs.YtejchncdimcdbaaGreatDoor
open Go.RowKit Go.BigFrame Go.Maps Go.Sort
set_option linter.unusedVariables false
set_option linter.unusedSimpArgs false

theorem OwnX.re {X Y M : List Nat} {w0 wo w : World} {v : Value} {ts : List (Nat × Value × List En)} (h : OwnX X w0 wo v ts) (k : Kept M wo w) (hM : ∀ x ∈ M, x < w0.heap.size ∨ wo.heap.size ≤ x) (hY : ∀ x ∈ Y, x < w0.heap.size ∨ wo.heap.size ≤ x) : OwnX Y w0 w v ts := by
  refine ⟨k.owns h.own (fun b hb hm => ?_), fun t ht => ?_, Nat.le_trans h.sz k.size, fun b hb hm => ?_⟩
  · have h1 := h.own.lt b hb
    rcases hM b hm with h2 | h2 <;> omega
  · obtain ⟨B, C, h1, h2, h3, h4, h5⟩ := h.rd t ht
    refine ⟨B, C, Nat.le_trans h1 k.size, h2, h3, fun b hb => ?_, fun N w2 kN hN => h5 (M ++ N) w2 ((k.mono (M := M ++ N) (fun x hx => by simp [hx])).trans kN (fun x hx => Or.inl (by simp [hx]))) (fun x hx => ?_)⟩
    · rcases hY b hb with h6 | h6
      · exact Or.inl (by omega)
      · exact Or.inr (by omega)
    · rcases List.mem_append.1 hx with hx | hx
      · rcases hM x hx with h6 | h6
        · exact Or.inl (by omega)
        · exact Or.inr (by omega)
      · exact hN x hx
  · have h1 := h.own.lt b hb
    rcases hY b hm with h2 | h2 <;> omega
theorem OwnX.none (X : List Nat) {w0 w : World} (h : w0.heap.size ≤ w.heap.size) : OwnX X w0 w (.slice none 0 0) [] := ⟨World.ownsRow_nil _ _ _ _, by simp, h, by simp [Value.ownBlock]⟩
theorem ops_F (d nb ob bb : Nat) (B : List Nat) (σ : DSt) (w : World) (h : DKf w d B nb ob bb σ) :
    Calls Tryz.prog 29 #[.pointer (some ⟨d, 0, none⟩)] w fun e w' => e = .returned (.int .i64 σ.op) ∧ w' = w := by
  obtain ⟨m, u, fv, fs, h1, rfl, hA⟩ := h.ex
  exact ops_any d σ.sec m nb w u fv σ.cr σ.op σ.off σ.ft fs h1
theorem off_F (d nb ob bb : Nat) (B : List Nat) (σ : DSt) (w : World) (h : DKf w d B nb ob bb σ) :
    Calls Tryz.prog 31 #[.pointer (some ⟨d, 0, none⟩)] w fun e w' => e = .returned (.bool σ.off) ∧ w' = w := by
  obtain ⟨m, u, fv, fs, h1, rfl, hA⟩ := h.ex
  exact off_any d σ.sec m nb w u fv σ.cr σ.op σ.off σ.ft fs h1
/-- What Open promises. -/
structure OpR (w w' : World) (d nb ob bb : Nat) (B B' : List Nat) (A : OpA) (lp bv : Value) (ts : List (Nat × Value × List En)) : Prop where
  dk : DKf w' d B' (nb + 1) (ob + nb + 4) (bb + 48) A.σ
  ev : Ev w w' B B'
  bs : A.bs = ts.map (fun t => (t.1, t.2.2))
  ow : OwnX B' w w' bv ts
  no : A.l = none → lp = .pointer none
  so : ∀ s, A.l = some s → ∃ l, lp = .pointer (some ⟨l, 0, none⟩) ∧ w.heap.size ≤ l ∧ LK w' l d B' (nb + 1) (ob + nb + 4) (bb + 48) A.σ s ∧ OwnX (l :: B') w w' bv ts
theorem OpR.fail {w w' : World} {d nb ob bb : Nat} {B B' : List Nat} {e : Nat} {τ : DSt} (hd : DKf w' d B' (nb + 1) (ob + nb + 4) (bb + 48) τ) (ev : Ev w w' B B') : OpR w w' d nb ob bb B B' ⟨e, τ, none, []⟩ (.pointer none) (.slice none 0 0) [] :=
  ⟨hd, ev, rfl, OwnX.none _ ev.1.size, fun _ => rfl, fun s h => by cases h⟩
def OpP (w : World) (d nb ob bb : Nat) (B : List Nat) (A : OpA) (e : Ending) (w' : World) : Prop := ∃ B' lp bv ts, e = .returned (.tuple #[lp, bv, .int .i64 (A.e : Nat)]) ∧ OpR w w' d nb ob bb B B' A lp bv ts
def opF2 (σ : DSt) (wd lim : Int) : Option FSt → OpA
  | none => ⟨11, σ, none, []⟩
  | some f => opOf σ wd lim f
theorem opD_eq {σ : DSt} {wd lim : Int} (h : argOk wd lim = true) (h2 : σ.off = false) : opD σ wd lim = opF2 σ wd lim (findF σ wd fst0 (nmsOf σ)) := by
  unfold opD
  rw [h, if_neg (by simp), h2, if_neg (by simp)]
  cases findF σ wd fst0 (nmsOf σ) <;> rfl
theorem findF_sg {σ : DSt} {wd : Int} : ∀ {l : List (List UInt8)} {f g : FSt}, findF σ wd f l = some g → g.sg.length ≤ f.sg.length + l.length ∧ ∀ x ∈ g.sg, x ∈ f.sg ∨ x ∈ l
  | [], f, g, h => by unfold findF at h; cases h; exact ⟨by simp, fun x hx => Or.inl hx⟩
  | s :: r, f, g, h => by
    cases hs : stepF σ wd f s with
    | none => have := findF_no h hs; cases this
    | some q =>
      have ih := findF_sg (findF_go h hs)
      have hq : q.sg.length ≤ f.sg.length + 1 ∧ ∀ x ∈ q.sg, x ∈ f.sg ∨ x = s := by
        unfold stepF at hs
        split at hs
        · cases hs; exact ⟨by omega, fun x hx => Or.inl hx⟩
        · split at hs
          · cases hs
          · split at hs
            · cases hs; exact ⟨by show f.sg.length ≤ _; omega, fun x hx => Or.inl hx⟩
            · split at hs
              · cases hs
                exact ⟨by show (f.sg ++ [s]).length ≤ _; simp, fun x hx => by have hx2 : x ∈ f.sg ++ [s] := hx; simpa using hx2⟩
              · cases hs
      refine ⟨by simp only [List.length_cons]; omega, fun x hx => ?_⟩
      rcases ih.2 x hx with h1 | h1
      · rcases hq.2 x h1 with h2 | h2
        · exact Or.inl h2
        · exact Or.inr (by simp [h2])
      · exact Or.inr (by simp [h1])
set_option maxRecDepth 100000 in
set_option maxHeartbeats 2000000 in
theorem wopen_arg (p : Value) (hp : p = .pointer none ∨ ∃ d, p = .pointer (some ⟨d, 0, none⟩)) (wd lim : Int) (w : World) (h : argOk wd lim = false) :
    Calls Tryz.prog 15 #[p, .int .i64 wd, .int .i64 lim] w fun e w' => e = .returned (.tuple #[.pointer none, .slice none 0 0, .int .i64 1]) ∧ w' = w := by
  have h0 : ¬ (1 ≤ wd ∧ wd ≤ 32 ∧ 1 ≤ lim ∧ lim ≤ 1048576) := by simpa [argOk] using h
  by_cases c1 : wd < 1
  · clear h h0
    go_enter Tryz.func15, Tryz.ntmps15
    go_wp2_with fail
    refine bodyPost_ret (v := .tuple #[.pointer none, .slice none 0 0, .int .i64 1]) (by rw [results_tmp3 rfl]; rfl) rfl ⟨rfl, rfl⟩
  · by_cases c2 : 32 < wd
    · clear h h0
      go_enter Tryz.func15, Tryz.ntmps15
      go_wp2_with fail
      refine bodyPost_ret (v := .tuple #[.pointer none, .slice none 0 0, .int .i64 1]) (by rw [results_tmp3 rfl]; rfl) rfl ⟨rfl, rfl⟩
    · by_cases c3 : lim < 1
      · clear h h0
        go_enter Tryz.func15, Tryz.ntmps15
        go_wp2_with fail
        refine bodyPost_ret (v := .tuple #[.pointer none, .slice none 0 0, .int .i64 1]) (by rw [results_tmp3 rfl]; rfl) rfl ⟨rfl, rfl⟩
      · have c4 : 1048576 < lim := by omega
        clear h h0
        go_enter Tryz.func15, Tryz.ntmps15
        go_wp2_with fail
        refine bodyPost_ret (v := .tuple #[.pointer none, .slice none 0 0, .int .i64 1]) (by rw [results_tmp3 rfl]; rfl) rfl ⟨rfl, rfl⟩
set_option maxRecDepth 100000 in
set_option maxHeartbeats 2000000 in
theorem wopen_nil (wd lim : Int) (w : World) (h : argOk wd lim = true) :
    Calls Tryz.prog 15 #[.pointer none, .int .i64 wd, .int .i64 lim] w fun e w' => e = .returned (.tuple #[.pointer none, .slice none 0 0, .int .i64 5]) ∧ w' = w := by
  have h0 : 1 ≤ wd ∧ wd ≤ 32 ∧ 1 ≤ lim ∧ lim ≤ 1048576 := by simpa [argOk] using h
  have c1 : ¬ wd < 1 := by omega
  have c2 : ¬ 32 < wd := by omega
  have c3 : ¬ lim < 1 := by omega
  have c4 : ¬ 1048576 < lim := by omega
  clear h h0
  go_enter Tryz.func15, Tryz.ntmps15
  go_wp2_with fail
  refine bodyPost_ret (v := .tuple #[.pointer none, .slice none 0 0, .int .i64 5]) (by rw [results_tmp3 rfl]; rfl) rfl ⟨rfl, rfl⟩
set_option maxRecDepth 100000 in
set_option maxHeartbeats 8000000 in
theorem wopen_any (d nb ob bb g0 : Nat) (wd lim : Int) (B : List Nat) (σ : DSt) (w : World) (hD : DKf w d B nb ob bb σ) (hv : VarsG g0 w) (hB : ∀ x ∈ B, g0 ≤ x) (hg0 : g0 ≤ w.heap.size) (hn : nb ≤ 400000000) (hob : ob ≤ 400000000) (hb : bb ≤ 90000000000) (hT : rdT σ (nmsOf σ) ≤ 1000000000000) :
    Calls Tryz.prog 15 #[.pointer (some ⟨d, 0, none⟩), .int .i64 wd, .int .i64 lim] w fun e w' => OpP w d nb ob bb B (opD σ wd lim) e w' := by
  by_cases hag : argOk wd lim = true
  · have h0 : 1 ≤ wd ∧ wd ≤ 32 ∧ 1 ≤ lim ∧ lim ≤ 1048576 := by simpa [argOk] using hag
    have HWB := hide (by unfold wideB; simp; omega : wideB wd = true)
    have HLB := hide (⟨h0.2.2.1, h0.2.2.2⟩ : 1 ≤ lim ∧ lim ≤ 1048576)
    have c1 : ¬ wd < 1 := by omega
    have c2 : ¬ 32 < wd := by omega
    have c3 : ¬ lim < 1 := by omega
    have c4 : ¬ 1048576 < lim := by omega
    have hof := off_F d nb ob bb B σ w hD
    by_cases hoff : σ.off = true
    · have hA : opD σ wd lim = ⟨12, σ, none, []⟩ := by unfold opD; rw [hag, if_neg (by simp), if_pos hoff]
      rw [hA]
      rw [hoff] at hof
      have HOF := hide hof
      have HDK := hide (hD.more (nb' := nb + 1) (ob' := ob + nb + 4) (bb' := bb + 48) (by omega) (by omega) (by omega))
      clear hag h0 hof hoff hA hD hv hB
      go_enter Tryz.func15, Tryz.ntmps15
      go_wp2_with fail
      refine Calls.mono (unhide HOF) ?_
      rintro e w' ⟨rfl, rfl⟩
      go_wp2_with fail
      refine bodyPost_ret (v := .tuple #[.pointer none, .slice none 0 0, .int .i64 12]) (by rw [results_tmp3 rfl]; rfl) rfl ⟨B, _, _, [], rfl, OpR.fail (unhide HDK) (Ev.refl _ _)⟩
    · have hoff' : σ.off = false := by simpa using hoff
      have HA := hide (opD_eq hag hoff')
      rw [hoff'] at hof
      have HOF := hide hof
      have HDK := hide hD
      have HVG := hide hv
      have HB := hide hB
      have HFI := hide (wfind_any d nb ob bb g0 wd B σ w hD hv hg0 (by omega) (by omega) (by omega) hT)
      have HSG := hide (fun f (h : findF σ wd fst0 (nmsOf σ) = some f) => by
        have h9 := findF_sg h
        refine ⟨Nat.le_trans h9.1 (by show 0 + _ ≤ _; rw [Nat.zero_add]; exact Nat.le_trans (nms_len σ) hD.len), fun s hs => ?_⟩
        rcases h9.2 s hs with h8 | h8
        · cases h8
        · obtain ⟨q, hq, rfl⟩ := nms_mem h8
          exact Nat.le_trans (Nat.le_of_eq (Array.length_toList)) (isNm_size (hD.nms q hq)).2 : ∀ f, findF σ wd fst0 (nmsOf σ) = some f → f.sg.length ≤ nb ∧ ∀ s ∈ f.sg, s.length ≤ 40)
      obtain ⟨R, hR⟩ : ∃ R, findF σ wd fst0 (nmsOf σ) = R := ⟨_, rfl⟩
      obtain ⟨A, hA⟩ : ∃ A, opD σ wd lim = A := ⟨_, rfl⟩
      rw [hR] at HFI HA
      rw [hA] at HA ⊢
      simp only [hR] at HSG
      clear hag h0 hof hoff hoff' hR hA hD hv hB hT
      go_enter Tryz.func15, Tryz.ntmps15
      go_wp2_with fail
      refine Calls.mono (unhide HOF) ?_
      rintro e w' ⟨rfl, rfl⟩
      go_wp2_with fail
      refine Calls.mono (unhide HFI) ?_
      rintro e w1 ⟨⟨rfl, rfl⟩ | ⟨f, sv, bv, ts, rfl, rfl, ho, hx, heq, hlast, hep, hsz⟩, k1⟩
      · have hz := unhide HA
        simp only [opF2] at hz
        subst hz
        have kN := k1.alloc (.cells zFd 110)
        have HFA := hide (OpR.fail (e := 11) ((unhide HDK).kept kN (by simp) |>.more (nb' := nb + 1) (ob' := ob + nb + 4) (bb' := bb + 48) (by omega) (by omega) (by omega)) (⟨kN.mono (by simp), fun x hx => Or.inl hx⟩ : Ev w' _ B B))
        clear k1 kN HFI HOF HSG
        go_wp2_with fail
        refine bodyPost_ret (v := .tuple #[.pointer none, .slice none 0 0, .int .i64 11]) (by rw [results_tmp3 rfl]; rfl) rfl ⟨B, _, _, [], rfl, unhide HFA⟩
      · have hz := unhide HA
        simp only [opF2] at hz
        obtain ⟨sa, sc, rfl⟩ := owns_formC ho
        obtain ⟨ba, bc, rfl⟩ := hx.shape
        have kN := (Kept.refl [] w1).alloc (.cells #[.int .u64 (f.last : Int), .int .u64 (f.ep : Int), .int .u64 (f.sz : Int), .slice sa f.sg.length sc, .slice ba ts.length bc] 110)
        have hN : (w1.alloc (.cells #[.int .u64 (f.last : Int), .int .u64 (f.ep : Int), .int .u64 (f.sz : Int), .slice sa f.sg.length sc, .slice ba ts.length bc] 110)).heap[w1.heap.size]? = some (.cells (fdC f (.slice sa f.sg.length sc) (.slice ba ts.length bc)) 110 (0, 0)) := heap_alloc_new w1 (.cells #[.int .u64 (f.last : Int), .int .u64 (f.ep : Int), .int .u64 (f.sz : Int), .slice sa f.sg.length sc, .slice ba ts.length bc] 110)
        have HK1 := hide (k1.trans kN (by simp))
        have HZ := hide hz
        have HSZ1 := hide k1.size
        have HHX := hide hx
        have HHQ := hide heq
        have HSF := hide ((unhide HSG) f rfl)
        have HLA := hide hlast
        have HEP := hide hep
        have HSZ := hide hsz
        have HN := hide hN
        have HD2 := hide ((unhide HDK).old (k1.trans kN (by simp)))
        have HRS := hide ((rds_owns ho).kept kN (by simp))
        have HBS := hide (fun x (hx : x ∈ blk (.slice sa f.sg.length sc)) (hm : x ∈ B) => by
          have h9 := (ho.lt x (blk_own ho hx)).1
          have := (unhide HDK).lt x hm
          omega : ∀ x ∈ blk (.slice sa f.sg.length sc), x ∉ B)
        clear hz k1 kN hN hx ho heq hlast hep hsz HFI HOF HSG HA
        unfold fdC
        go_upto_region 8 with fail
        obtain ⟨W2, hW2⟩ : ∃ W, w1.alloc (.cells #[.int .u64 (f.last : Int), .int .u64 (f.ep : Int), .int .u64 (f.sz : Int), .slice sa f.sg.length sc, .slice ba ts.length bc] 110) = W := ⟨_, rfl⟩
        have HS2 := hide (by rw [← hW2]; simp : W2.heap.size = w1.heap.size + 1)
        rw [hW2] at HK1 HN HD2 HRS ⊢
        have HK12 := hide (by rw [← hW2]; exact (Kept.refl [] w1).alloc (.cells #[.int .u64 (f.last : Int), .int .u64 (f.ep : Int), .int .u64 (f.sz : Int), .slice sa f.sg.length sc, .slice ba ts.length bc] 110) : Kept [] w1 W2)
        clear hW2
        have HFL := hide (wfflush_any w1.heap.size d nb ob bb B σ f (.slice sa f.sg.length sc) (.slice ba ts.length bc) W2 (unhide HN) (unhide HRS) (unhide HSF).2 (unhide HD2) (unhide HBS) (by omega) (by have := (unhide HSF).1; omega))
        obtain ⟨⟨E3, τ3⟩, hR3⟩ : ∃ R, stSyncs σ f.sg = R := ⟨_, rfl⟩
        obtain ⟨⟨E5, τ5⟩, hR5⟩ : ∃ R, stBegin τ3 (f.last + 1) (f.ep + 1) f.sz wd = R := ⟨_, rfl⟩
        have HA1 := hide (fun (h0 : E3 ≠ 0) => (by rw [unhide HZ]; unfold opOf; rw [hR3]; dsimp only; rw [if_pos h0] : A = ⟨E3, τ3, none, []⟩))
        have HA2 := hide (fun (h0 : E3 = 0) (h1 : E5 ≠ 0) => (by rw [unhide HZ]; unfold opOf; rw [hR3]; dsimp only; rw [hR5]; dsimp only; rw [if_neg (by simpa using h0), if_pos h1] : A = ⟨E5, τ5, none, []⟩))
        have HA3 := hide (fun (h0 : E3 = 0) (h1 : E5 = 0) => (by rw [unhide HZ]; unfold opOf; rw [hR3]; dsimp only; rw [hR5]; dsimp only; rw [if_neg (by simpa using h0), if_neg (by simpa using h1)] : A = ⟨0, τ5, some ⟨f.last + 1, f.ep + 1, f.sz, wd, 48, 0, lim, f.sz, 0⟩, f.bs⟩))
        rw [hR3] at HFL
        have HR5 := hide hR5
        clear hR3 hR5 HZ
        dsimp only at *
        go_wp2_with fail
        refine Calls.mono (unhide HFL) ?_
        rintro e w3 ⟨B3, rfl, hd3, ev3⟩
        have HD3 := hide hd3
        have HE3 := hide (Ev.pre (unhide HK1) ev3)
        have HN3 := hide (ev3.1.heap (unhide HN) (by intro hm; have := (unhide HDK).lt _ hm; have := unhide HSZ1; omega))
        have HS3 := hide ev3.1.size
        have HKE := hide ev3
        clear hd3 ev3 HFL
        by_cases h3 : E3 = 0
        · subst h3
          obtain ⟨e0, e1, e2, e3, e4⟩ := fdC_cell (unhide HN3)
          have hw1 : IntKind.u64.wrap ((f.last : Int) + 1) = ((f.last + 1 : Nat) : Int) := by rw [IntKind.wrap_u64]; have := unhide HLA; omega
          have hw2 : IntKind.u64.wrap ((f.ep : Int) + 1) = ((f.ep + 1 : Nat) : Int) := by rw [IntKind.wrap_u64]; have := unhide HEP; omega
          have kC := (Kept.refl [] w3).alloc (.cells (curC d (f.last + 1) (f.ep + 1) f.sz wd 0 0) 115)
          have hC := heap_alloc_new w3 (.cells (curC d (f.last + 1) (f.ep + 1) f.sz wd 0 0) 115)
          have HD4 := hide ((unhide HD3).old kC)
          have HN4 := hide (kC.heap (unhide HN3) (by simp))
          have HKC := hide kC
          have HC := hide hC
          clear kC hC
          go_upto_region 14 with fail
          clear e0 e1 e2 e3 e4 hw1 hw2
          obtain ⟨W4, hW4⟩ : ∃ W, w3.alloc (.cells (curC d (f.last + 1) (f.ep + 1) f.sz wd 0 0) 115) = W := ⟨_, rfl⟩
          have HW4' := hide hW4
          have HS4 := hide (by rw [← hW4]; simp : W4.heap.size = w3.heap.size + 1)
          rw [hW4] at HD4 HN4 HKC HC
          have hW5 : w3.alloc (.cells #[.pointer (some ⟨d, 0, none⟩), .int .u64 ((f.last : Int) + 1), .int .u64 ((f.ep : Int) + 1), .int .u64 (f.sz : Int), .int .i64 wd, .int .i64 0, .int .i64 0] 115) = W4 := by rw [← hW4]; unfold curC; push_cast; rfl
          rw [hW5]
          clear hW5
          clear hW4 HW4'
          have HBG := hide (wbegin_any w3.heap.size (f.last + 1) (f.ep + 1) f.sz d nb (ob + f.sg.length) bb g0 wd B3 τ3 W4 (unhide HC) (unhide HWB) (by have := unhide HLA; omega) (((unhide HVG).on (unhide HE3).1 (unhide HB)).old (unhide HKC)) ((unhide HE3).ge (unhide HB) hg0) (by have := (unhide HE3).1.size; have := (unhide HKC).size; omega) (unhide HD4) (fun hm => by have := (unhide HD3).lt _ hm; omega) (by omega) (by have := (unhide HSF).1; omega) (by omega))
          rw [unhide HR5] at HBG
          dsimp only at HBG
          go_wp2_with fail
          refine Calls.mono (unhide HBG) ?_
          rintro e w5 ⟨B5, rfl, hd5, k5, hb5, hr5⟩
          dsimp only at hd5
          have HSB := hide (unhide HSF).1
          have HD5 := hide (hd5.more (Nat.le_refl _) (by have := unhide HSB; omega : ob + f.sg.length + 4 ≤ ob + nb + 4) (Nat.le_refl _))
          have HK5 := hide k5
          have HR5' := hide hr5
          have HB5 := hide hb5
          have HN5 := hide (k5.heap (unhide HN4) (by
              intro hm
              rcases List.mem_cons.1 hm with h9 | h9
              · have := unhide HS3
                have := unhide HS2
                omega
              · have h8 := (unhide HD3).lt _ h9
                rcases (unhide HKE).2 _ h9 with h7 | h7
                · have := (unhide HDK).lt _ h7
                  have := unhide HSZ1
                  omega
                · have := unhide HS2
                  omega))
          have k35 : Kept (w3.heap.size :: B3) w3 w5 := ((unhide HKC).mono (M := w3.heap.size :: B3) (by simp)).trans k5 (fun x hx => Or.inl hx)
          have HE5 := hide (⟨(unhide HE3).1.trans k35 (fun x hx => by
              rcases List.mem_cons.1 hx with rfl | hx
              · exact Or.inr (unhide HE3).1.size
              · exact (unhide HE3).2 x hx), fun x hx => by
              rcases hb5 x hx with h9 | h9
              · exact (unhide HE3).2 x h9
              · exact Or.inr (by have := (unhide HE3).1.size; have := (unhide HKC).size; omega)⟩ : Ev w' w5 B B5)
          have HQ5 := hide (fun x hx => by
              rcases hb5 x hx with h9 | h9
              · rcases (unhide HKE).2 x h9 with h8 | h8
                · exact Or.inl ((unhide HDK).lt x h8)
                · exact Or.inr (by have := unhide HS2; omega)
              · exact Or.inr (by have := unhide HS4; have := unhide HS3; have := unhide HS2; omega) : ∀ x ∈ B5, x < w'.heap.size ∨ w1.heap.size ≤ x)
          have HKX := hide (((unhide HK12).mono (M := w3.heap.size :: (B3 ++ B)) (by simp)).trans (((unhide HKE).1.mono (M := w3.heap.size :: (B3 ++ B)) (fun x hx => by simp [hx])).trans (k35.mono (M := w3.heap.size :: (B3 ++ B)) (fun x hx => by
              rcases List.mem_cons.1 hx with rfl | hx
              · simp
              · simp [hx])) (fun x hx => Or.inl hx)) (fun x hx => Or.inl hx) : Kept (w3.heap.size :: (B3 ++ B)) w1 w5)
          have HMX := hide (fun x hx => by
              rcases List.mem_cons.1 hx with rfl | hx
              · exact Or.inr (by have := unhide HS3; have := unhide HS2; omega)
              · rcases List.mem_append.1 hx with hx | hx
                · rcases (unhide HKE).2 x hx with h8 | h8
                  · exact Or.inl ((unhide HDK).lt x h8)
                  · exact Or.inr (by have := unhide HS2; omega)
                · exact Or.inl ((unhide HDK).lt x hx) : ∀ x ∈ w3.heap.size :: (B3 ++ B), x < w'.heap.size ∨ w1.heap.size ≤ x)
          clear hd5 k5 hb5 hr5 HBG HD4 HN4 HKC HC k35
          by_cases h5 : E5 = 0
          · subst h5
            have hz := unhide HA3 (by simp) (by simp)
            subst hz
            go_upto_region 17 with fail
            obtain ⟨e0, e1, e2, e3, e4⟩ := fdC_cell (unhide HN5)
            obtain ⟨q0, q1, q2, q3, q4, q5, q6⟩ := curC_cell (unhide HR5')
            refine wp_op11 (by kernel_rfl) (by kernel_rfl) (by kernel_rfl) (by kernel_rfl) (by kernel_rfl) (by kernel_rfl) (by kernel_rfl) (by kernel_rfl) (by kernel_rfl) (by kernel_rfl) (by kernel_rfl) (by kernel_rfl) (by kernel_rfl) (by kernel_rfl) (by kernel_rfl) (by kernel_rfl) (by kernel_rfl) (by kernel_rfl) (by kernel_rfl) (by kernel_rfl) (by kernel_rfl) (by kernel_rfl) (by kernel_rfl) (by kernel_rfl) rfl
              (.agg (curC d (f.last + 1) (f.ep + 1) f.sz wd 48 0)) (.int .i64 lim) (.pointer (some ⟨w1.heap.size, 2, none⟩)) (.int .u64 (f.sz : Int)) (.agg (lgC d ⟨f.last + 1, f.ep + 1, f.sz, wd, 48, 0, lim, f.sz, 0⟩)) (.pointer (some ⟨w1.heap.size, 4, none⟩)) (.slice ba ts.length bc) _ _ _ _ _ _ _
              (fun w' => Kept [] w5 w')
              (fun w' => Kept [] w5 w')
              (fun u5 w' => ∃ l, u5 = .pointer (some ⟨l, 0, none⟩) ∧ w5.heap.size ≤ l ∧ w'.heap[l]? = some (.cells (lgC d ⟨f.last + 1, f.ep + 1, f.sz, wd, 48, 0, lim, f.sz, 0⟩) 117 (0, 0)) ∧ Kept [] w5 w')
              (fun u5 => u5) (fun _ => .slice ba ts.length bc) (fun _ => .int .i64 0)
              (by simp only [Act.put, List.setIfInBounds_toArray, List.set_cons_zero, List.set_cons_succ]; rfl) (by exact Or.inl ⟨by rfl, fun W' hW' => by have h0 := hW'.cell q0 (by simp); have h1 := hW'.cell q1 (by simp); have h2 := hW'.cell q2 (by simp); have h3 := hW'.cell q3 (by simp); have h4 := hW'.cell q4 (by simp); have h5 := hW'.cell q5 (by simp); have h6 := hW'.cell q6 (by simp); go_simp; unfold curC; push_cast; rfl⟩)
              (by simp only [Act.put, List.setIfInBounds_toArray, List.set_cons_zero, List.set_cons_succ]; rfl) (by exact Or.inl ⟨by rfl, fun W' hW' => by go_simp⟩)
              (by simp only [Act.put, List.setIfInBounds_toArray, List.set_cons_zero, List.set_cons_succ]; rfl) (by exact Or.inl ⟨by rfl, fun W' hW' => by go_simp⟩)
              (by simp only [Act.put, List.setIfInBounds_toArray, List.set_cons_zero, List.set_cons_succ]; rfl) (by exact Or.inl ⟨by rfl, fun W' hW' => by have h2 := hW'.cell e2 (by simp); go_simp⟩)
              (by simp only [Act.put, List.setIfInBounds_toArray, List.set_cons_zero, List.set_cons_succ]; rfl) (by exact Or.inl ⟨by rfl, fun W' hW' => by unfold curC lgC; go_simp; try (push_cast; rfl)⟩)
              (by simp only [Act.put, List.setIfInBounds_toArray, List.set_cons_zero, List.set_cons_succ]; rfl) (by exact Or.inl ⟨by rfl, fun W' hW' => by go_simp⟩)
              (by simp only [Act.put, List.setIfInBounds_toArray, List.set_cons_zero, List.set_cons_succ]; rfl) (by exact Or.inl ⟨by rfl, fun W' hW' => by have h4 := hW'.cell e4 (by simp); go_simp⟩)
              (Kept.refl [] w5).drew
              ⟨fun w' h => h, fun u5 w' h => h.choose_spec.2.2.2⟩
              (by
                intro w' k K hK
                have hK2 := hK _ _ ⟨w'.heap.size, rfl, k.size, heap_alloc_new w' (.cells (lgC d ⟨f.last + 1, f.ep + 1, f.sz, wd, 48, 0, lim, f.sz, 0⟩) 117), k.alloc _⟩
                clear hK
                simp only [Act.put, List.setIfInBounds_toArray, List.set_cons_zero, List.set_cons_succ] at hK2 ⊢
                unfold Oper.wp execOp
                go_simp
                exact hK2)
              (by rintro u5 w' ⟨l, rfl, _⟩; exact Or.inl ⟨by rfl, fun W' hW' => by go_simp⟩)
              (by rintro u5 w' ⟨l, rfl, _⟩; exact Or.inl ⟨by rfl, fun W' hW' => by go_simp⟩)
              (by rintro u5 w' ⟨l, rfl, _⟩; exact Or.inl ⟨by rfl, fun W' hW' => by go_simp⟩)
              ?_
            rintro u5 w6 ⟨l, rfl, hl, hrl, k6⟩
            simp only [Act.put, List.setIfInBounds_toArray, List.set_cons_zero, List.set_cons_succ]
            clear e0 e1 e2 e3 e4 q0 q1 q2 q3 q4 q5 q6
            have hdk := (unhide HD5).old k6
            have hlB : l ∉ B5 := fun hm => by have := (unhide HD5).lt _ hm; omega
            have HFN := hide (⟨hdk, ⟨(unhide HE5).1.trans k6 (by simp), (unhide HE5).2⟩, (unhide HHQ), (unhide HHX).re ((unhide HKX).trans k6 (by simp)) (unhide HMX) (unhide HQ5), (fun h => (by cases h)), fun s hs => by
                cases hs
                exact ⟨l, rfl, by have := (unhide HE5).1.size; omega, ⟨hrl, hdk, hlB, by have := unhide HLA; show f.last + 1 < _; omega, by have := unhide HEP; show f.ep + 1 < _; omega, unhide HSZ, unhide HWB, by show 0 ≤ _; omega, by show 48 ≤ _; omega, unhide HLB, by show 0 < 100; omega⟩, (unhide HHX).re ((unhide HKX).trans k6 (by simp)) (unhide HMX) (fun x hx => by
                  rcases List.mem_cons.1 hx with rfl | hx
                  · exact Or.inr (by have := (unhide HKX).size; omega)
                  · exact unhide HQ5 x hx)⟩⟩ : OpR w' w6 d nb ob bb B B5 ⟨0, τ5, some ⟨f.last + 1, f.ep + 1, f.sz, wd, 48, 0, lim, f.sz, 0⟩, f.bs⟩ (.pointer (some ⟨l, 0, none⟩)) (.slice ba ts.length bc) ts)
            clear hdk hlB hl hrl k6
            go_wp2_with fail
            refine bodyPost_ret (v := .tuple #[.pointer (some ⟨l, 0, none⟩), .slice ba ts.length bc, .int .i64 0]) (by rw [results_tmp3 rfl]; rfl) rfl ⟨B5, _, _, ts, rfl, unhide HFN⟩
          · have h5' : ((E5 : Int) != 0) = true := by rw [bne_iff_ne]; omega
            have hz := unhide HA2 (by simp) h5
            subst hz
            clear h5
            go_wp2_with fail
            refine bodyPost_ret (v := .tuple #[.pointer none, .slice none 0 0, .int .i64 (E5 : Int)]) (by rw [results_tmp3 rfl]; rfl) rfl ⟨B5, _, _, [], rfl, OpR.fail (unhide HD5) (unhide HE5)⟩
        · have h3' : ((E3 : Int) != 0) = true := by rw [bne_iff_ne]; omega
          have hz := unhide HA1 h3
          subst hz
          have HD9 := hide ((unhide HD3).more (nb' := nb + 1) (ob' := ob + nb + 4) (bb' := bb + 48) (by omega) (by have := (unhide HSF).1; omega) (by omega))
          clear h3
          go_wp2_with fail
          refine bodyPost_ret (v := .tuple #[.pointer none, .slice none 0 0, .int .i64 (E3 : Int)]) (by rw [results_tmp3 rfl]; rfl) rfl ⟨B3, _, _, [], rfl, OpR.fail (unhide HD9) (unhide HE3)⟩
  · have hag' : argOk wd lim = false := by simpa using hag
    have hA : opD σ wd lim = ⟨1, σ, none, []⟩ := by unfold opD; rw [if_pos hag']
    rw [hA]
    refine Calls.mono (wopen_arg _ (Or.inr ⟨d, rfl⟩) wd lim w hag') ?_
    rintro e w' ⟨rfl, rfl⟩
    exact ⟨B, _, _, [], rfl, OpR.fail (hD.more (by omega) (by omega) (by omega)) (Ev.refl _ _)⟩
end Go.Proofs.YtejchncdimcdbaaGreatDoor
namespace Go.Proofs.YtejchncdimcdbaaGreatDoor
open Go.RowKit Go.BigFrame Go.Maps Go.Sort
set_option linter.unusedVariables false
set_option linter.unusedSimpArgs false

theorem nmB_ne {a b : Nat} (ha : a < 18446744073709551616) (hb : b < 18446744073709551616) (h : a ≠ b) : nmB a ≠ nmB b := by
  intro e
  exact h (nmL_inj ha hb (strB_inj (nmL_byte a) (nmL_byte b) e))
theorem awk1 : opD (dH 16 0 []) 4 1 = ⟨0, dH 16 4 [⟨nmB 1, ehB 1 1 0 4, 48, true⟩], some ⟨1, 1, 0, 4, 48, 0, 1, 0, 0⟩, []⟩ := by
  rw [opD_eq (by decide) rfl]
  have h1 : nmsOf (dH 16 0 []) = [] := by simp [nmsOf, srtN, dH]
  rw [h1]
  show opOf (dH 16 0 []) 4 1 fst0 = _
  unfold opOf
  have h2 : stSyncs (dH 16 0 []) fst0.sg = (0, dH 16 0 []) := rfl
  rw [h2]
  dsimp only
  have h3 := begin_h (sec := 16) (op := 0) (A := []) (fst0.last + 1) (fst0.ep + 1) fst0.sz (wd := 4) (by omega) (by decide) (by simp)
  rw [h3]
  rfl
theorem lay_h {sec : Nat} {op : Int} {A : List DF} {s : LSt} (p : List Nat) (h : 0 ≤ op) (hn : (findA A (nmB s.num).data.toList).isSome = true) : lgLay (dH sec op A) s p = (0, dH sec (op + 1) (upA A (nmB s.num) fun f => { f with bs := f.bs ++ p }), { s with byt := s.byt + p.length, bt := s.bt + 1 }) := by
  unfold lgLay
  rw [append_h p h hn]
  rfl
theorem find_one {x : DF} {s : ByteArray} (hx : x.nm = s) : (findA [x] s.data.toList).isSome = true := findA_app (A := []) hx
theorem awk2 : ∃ n p, lgAppend (dH 16 4 [⟨nmB 1, ehB 1 1 0 4, 48, true⟩]) ⟨1, 1, 0, 4, 48, 0, 1, 0, 0⟩ [⟨1, [1], [2]⟩] = (0, dH 16 5 [⟨nmB 1, p, 48, true⟩], ⟨1, 1, 0, 4, 48 + n, 1, 1, 1, 0⟩) := by
  have hc : chkB 0 [⟨1, [1], [2]⟩] = 0 := by decide
  refine ⟨(sbB 0 [⟨1, [1], [2]⟩]).length, ehB 1 1 0 4 ++ sbB 0 [⟨1, [1], [2]⟩], ?_⟩
  have hw : lgWrite (dH 16 4 [⟨nmB 1, ehB 1 1 0 4, 48, true⟩]) ⟨1, 1, 0, 4, 48, 0, 1, 0, 0⟩ (sbB 0 [⟨1, [1], [2]⟩]) = (0, dH 16 5 [⟨nmB 1, ehB 1 1 0 4 ++ sbB 0 [⟨1, [1], [2]⟩], 48, true⟩], ⟨1, 1, 0, 4, 48 + (sbB 0 [⟨1, [1], [2]⟩]).length, 1, 1, 0, 0⟩) := by
    unfold lgWrite
    rw [if_neg (by decide), lay_h _ (by omega) (find_one rfl)]
    have hu := upA_app [] (nmB 1) (fun f => { f with bs := f.bs ++ sbB 0 [⟨1, [1], [2]⟩] }) ⟨nmB 1, ehB 1 1 0 4, 48, true⟩ rfl (by simp)
    rw [List.nil_append, List.nil_append] at hu
    dsimp only
    rw [hu]
    rfl
  unfold lgAppend
  dsimp only
  rw [if_neg (by simp [hc]), if_neg (by decide), hw]
  rfl
theorem awk3 (n : Nat) (p : List Nat) : ∃ A m, lgAppend (dH 16 5 [⟨nmB 1, p, 48, true⟩]) ⟨1, 1, 0, 4, 48 + n, 1, 1, 1, 0⟩ [⟨1, [3], [4]⟩] = (0, dH 16 11 A, ⟨2, 1, 1, 4, m, 1, 1, 2, 0⟩) ∧ (findA A (nmB 2).data.toList).isSome = true := by
  have hc : chkB 1 [⟨1, [3], [4]⟩] = 0 := by decide
  have hs := sync_h (sec := 16) (op := 5) (A := [⟨nmB 1, p, 48, true⟩]) (s := nmB 1) (by omega) (find_one rfl)
  have hu := upA_app [] (nmB 1) (fun f => { f with sy := f.bs.length }) ⟨nmB 1, p, 48, true⟩ rfl (by simp)
  rw [List.nil_append, List.nil_append] at hu
  rw [hu] at hs
  dsimp only at hs
  have hb := begin_h (sec := 16) (op := 5 + 1) (A := [⟨nmB 1, p, p.length, true⟩]) 2 1 1 (wd := 4) (by omega) (by decide) (fun f hf => by
    rw [List.mem_singleton] at hf
    subst hf
    exact nmB_ne (by omega) (by omega) (by omega))
  have hr : lgRot (dH 16 5 [⟨nmB 1, p, 48, true⟩]) ⟨1, 1, 0, 4, 48 + n, 1, 1, 1, 0⟩ = (0, dH 16 10 [⟨nmB 1, p, p.length, true⟩, ⟨nmB 2, ehB 2 1 1 4, 48, true⟩], ⟨2, 1, 1, 4, 48, 0, 1, 1, 0⟩) := by
    unfold lgRot
    dsimp only
    rw [hs]
    dsimp only
    rw [hb]
    rfl
  have hl := lay_h (sec := 16) (op := 10) (A := [⟨nmB 1, p, p.length, true⟩, ⟨nmB 2, ehB 2 1 1 4, 48, true⟩]) (s := ⟨2, 1, 1, 4, 48, 0, 1, 1, 0⟩) (sbB 1 [⟨1, [3], [4]⟩]) (by omega) (findA_app (A := [⟨nmB 1, p, p.length, true⟩]) rfl)
  refine ⟨upA [⟨nmB 1, p, p.length, true⟩, ⟨nmB 2, ehB 2 1 1 4, 48, true⟩] (nmB 2) fun f => { f with bs := f.bs ++ sbB 1 [⟨1, [3], [4]⟩] }, 48 + (sbB 1 [⟨1, [3], [4]⟩]).length, ?_, ?_⟩
  · have hw : lgWrite (dH 16 5 [⟨nmB 1, p, 48, true⟩]) ⟨1, 1, 0, 4, 48 + n, 1, 1, 1, 0⟩ (sbB 1 [⟨1, [3], [4]⟩]) = (0, dH 16 11 (upA [⟨nmB 1, p, p.length, true⟩, ⟨nmB 2, ehB 2 1 1 4, 48, true⟩] (nmB 2) fun f => { f with bs := f.bs ++ sbB 1 [⟨1, [3], [4]⟩] }), ⟨2, 1, 1, 4, 48 + (sbB 1 [⟨1, [3], [4]⟩]).length, 1, 1, 1, 0⟩) := by
      unfold lgWrite
      have hf : lgFull ⟨1, 1, 0, 4, 48 + n, 1, 1, 1, 0⟩ = true := by unfold lgFull; simp; omega
      rw [if_pos hf, hr]
      dsimp only
      rw [if_neg (by simp), hl]
      rfl
    unfold lgAppend
    dsimp only
    rw [if_neg (by simp [hc]), if_neg (by simp [lgFail]), hw]
    rfl
  · unfold findA upA
    rw [List.find?_isSome]
    exact ⟨{ (⟨nmB 2, ehB 2 1 1 4, 48, true⟩ : DF) with bs := ehB 2 1 1 4 ++ sbB 1 [⟨1, [3], [4]⟩] }, by simp, by simp⟩
theorem awk4 (A : List DF) (m : Nat) (h : (findA A (nmB 2).data.toList).isSome = true) : ∃ C, lgSync (dH 16 11 A) ⟨2, 1, 1, 4, m, 1, 1, 2, 0⟩ = (0, dH 16 12 C, ⟨2, 1, 1, 4, m, 1, 1, 2, 0⟩) := by
  unfold lgSync
  rw [if_neg (by simp [lgFail])]
  dsimp only
  rw [sync_h (by omega) h]
  exact ⟨_, rfl⟩
theorem LK.varsG {g0 : Nat} {w w' : World} {l : Nat} {B B' : List Nat} (hv : VarsG g0 w) (ev : EvL w w' l B B') (hB : ∀ x ∈ B, g0 ≤ x) (hl : g0 ≤ l) : VarsG g0 w' := hv.on ev.1 (fun x hx => by
  rcases List.mem_cons.1 hx with rfl | hx
  · exact hl
  · exact hB x hx)
set_option maxRecDepth 100000 in
set_option maxHeartbeats 2000000 in
theorem wput_any (k v : Nat) (w : World) (hk : k < 256) (hv : v < 256) :
    Calls Tryz.prog 37 #[.int .u8 (k : Int), .int .u8 (v : Int)] w fun e w' => ∃ ka kc va vc, e = .returned (.agg #[.int .u8 1, .slice ka 1 kc, .slice va 1 vc]) ∧ OkE w' ⟨1, [k], [v]⟩ (.slice ka 1 kc) (.slice va 1 vc) ∧ Kept [] w w' := by
  have HE := hide (heap_alloc3e w (.cells #[.int .u8 1, .slice (some ⟨w.heap.size + 1, 0, none⟩) 1 1, .slice (some ⟨w.heap.size + 1 + 1, 0, none⟩) 1 1] 89) (.cells #[.int .u8 (k : Int)] 5) (.cells #[.int .u8 (v : Int)] 5))
  have HK := hide ((((Kept.refl [] w).alloc (.cells #[.int .u8 1, .slice (some ⟨w.heap.size + 1, 0, none⟩) 1 1, .slice (some ⟨w.heap.size + 1 + 1, 0, none⟩) 1 1] 89)).alloc (.cells #[.int .u8 (k : Int)] 5)).alloc (.cells #[.int .u8 (v : Int)] 5))
  go_enter Tryz.func37, Tryz.ntmps37
  go_wp2_with fail
  obtain ⟨h1, h2, h3⟩ := unhide HE
  refine bodyPost_ret (v := .agg #[.int .u8 1, .slice (some ⟨w.heap.size + 1, 0, none⟩) 1 1, .slice (some ⟨w.heap.size + 1 + 1, 0, none⟩) 1 1]) ?_ rfl ⟨_, _, _, _, rfl, ⟨by show (1 : Nat) < 256; omega, rd_row [k] h2 rfl (by simpa using hk) 1 rfl (by omega), rd_row [v] h3 rfl (by simpa using hv) 1 rfl (by omega)⟩, unhide HK⟩
  exact results_cellW rfl _ _ w.heap.size _ #[.int .u8 1, .slice (some ⟨w.heap.size + 1, 0, none⟩) 1 1, .slice (some ⟨w.heap.size + 1 + 1, 0, none⟩) 1 1] (0, 0) _ rfl h1 Tryz.underlying89 rfl Tryz.size_entry
set_option maxRecDepth 100000 in
set_option maxHeartbeats 4000000 in
theorem wawake_any (w : World) (hv : VarsS w) : Calls Tryz.prog 9 #[] w fun e w' => e = .returned (.bool true) ∧ Kept [] w w' := by
  have HVG := hide (VarsG.start hv)
  have HN := hide (newM_D 16 w (by omega) (by omega))
  clear hv
  go_enter Tryz.func9, Tryz.ntmps9
  go_wp2_with fail
  refine Calls.mono (unhide HN) ?_
  rintro e w1 ⟨d, B, rfl, hD, k1, hB⟩
  have hF : DKf w1 d B 0 0 0 (dH 16 0 []) := hD.toF (by show (0 : Int) ≤ 0; omega)
  have HOP := hide (wopen_any d 0 0 0 w.heap.size 4 1 B (dH 16 0 []) w1 hF ((unhide HVG).old k1) hB k1.size (by omega) (by omega) (by omega) (Nat.le_trans (rdT_le _ hF.dist) (by show 0 ≤ _; omega)))
  rw [awk1] at HOP
  have HK1 := hide k1
  have HB1 := hide hB
  clear hD hF k1 hB HN
  go_wp2_with fail
  refine Calls.mono (unhide HOP) ?_
  rintro e w2 ⟨B2, lp, bv, ts, rfl, hR⟩
  obtain ⟨l, rfl, hl, hLK, _⟩ := hR.so _ rfl
  have hts : ts = [] := by have h9 := hR.bs; cases ts with | nil => rfl | cons a b => cases h9
  subst hts
  obtain ⟨ba, bc, rfl⟩ := hR.ow.shape
  have HLK2 := hide hLK
  have HK2 := hide ((unhide HK1).trans hR.ev.1 (fun x hx => Or.inr (unhide HB1 x hx)))
  have HB2 := hide (hR.ev.ge (unhide HB1) (unhide HK1).size)
  have HV2 := hide (((unhide HVG).old (unhide HK1)).on hR.ev.1 (unhide HB1))
  have HL := hide (Nat.le_trans (unhide HK1).size hl)
  have HOS := hide (ops_F _ _ _ _ _ _ w2 hLK.dk)
  clear hR hLK hl HOP HK1 HB1
  go_wp2_with fail
  refine Calls.mono (unhide HOS) ?_
  rintro e w3 ⟨rfl, rfl⟩
  have HP1 := hide (wput_any 1 2 w3 (by omega) (by omega))
  clear HOS
  go_wp2_with fail
  refine Calls.mono (unhide HP1) ?_
  rintro e w4 ⟨ka, kc, va, vc, rfl, ok4, k4⟩
  have hN4 := heap_alloc_new w4 (.cells #[.int .u8 1, .slice ka 1 kc, .slice va 1 vc] 89)
  have kA4 := (Kept.refl [] w4).alloc (.cells #[.int .u8 1, .slice ka 1 kc, .slice va 1 vc] 89)
  have hrn := RdN.one (e := ⟨1, [1], [2]⟩) hN4 (ok4.old kA4)
  have HAP := hide (wappend_any l d _ _ _ w.heap.size B2 _ _ _ _ _ (((unhide HLK2).old k4).old kA4) (((unhide HV2).old k4).old kA4) (unhide HB2) (unhide HL) (Nat.le_trans (unhide HK2).size (Nat.le_trans k4.size kA4.size)) hrn (by omega) (by omega) (by omega))
  have HKA := hide (k4.trans kA4 (by simp))
  clear hN4 kA4 hrn ok4 k4 HP1
  obtain ⟨n5, p5, hw5⟩ := awk2
  rw [hw5] at HAP
  clear hw5
  go_wp2_with fail
  refine Calls.mono (unhide HAP) ?_
  rintro e w5 ⟨B5, rfl, hLK5, ev5⟩
  have HLK5 := hide hLK5
  have HK5 := hide (((unhide HK2).trans (unhide HKA) (by simp)).trans ev5.1 (fun x hx => Or.inr (by
    rcases List.mem_cons.1 hx with rfl | hx
    · exact unhide HL
    · exact unhide HB2 x hx)))
  have HB5 := hide (ev5.ge (unhide HB2) (Nat.le_trans (unhide HK2).size (unhide HKA).size))
  have HV5 := hide (LK.varsG ((unhide HV2).old (unhide HKA)) ev5 (unhide HB2) (unhide HL))
  clear hLK5 ev5 HAP HKA HB2 HV2 HLK2 HK2
  have HP1 := hide (wput_any 3 4 w5 (by omega) (by omega))
  go_wp2_with fail
  refine Calls.mono (unhide HP1) ?_
  rintro e w6 ⟨ka, kc, va, vc, rfl, ok4, k4⟩
  have hN4 := heap_alloc_new w6 (.cells #[.int .u8 1, .slice ka 1 kc, .slice va 1 vc] 89)
  have kA4 := (Kept.refl [] w6).alloc (.cells #[.int .u8 1, .slice ka 1 kc, .slice va 1 vc] 89)
  have hrn := RdN.one (e := ⟨1, [3], [4]⟩) hN4 (ok4.old kA4)
  have HAP := hide (wappend_any l d _ _ _ w.heap.size B5 _ _ _ _ _ (((unhide HLK5).old k4).old kA4) (((unhide HV5).old k4).old kA4) (unhide HB5) (unhide HL) (Nat.le_trans (unhide HK5).size (Nat.le_trans k4.size kA4.size)) hrn (by omega) (by omega) (by omega))
  have HKA := hide (k4.trans kA4 (by simp))
  clear hN4 kA4 hrn ok4 k4 HP1
  try dsimp only at HAP
  obtain ⟨A7, m7, hw7, hf7⟩ := awk3 n5 p5
  rw [hw7] at HAP
  clear hw7
  go_wp2_with fail
  refine Calls.mono (unhide HAP) ?_
  rintro e w7 ⟨B7, rfl, hLK7, ev7⟩
  have HLK7 := hide hLK7
  have HK7 := hide (((unhide HK5).trans (unhide HKA) (by simp)).trans ev7.1 (fun x hx => Or.inr (by
    rcases List.mem_cons.1 hx with rfl | hx
    · exact unhide HL
    · exact unhide HB5 x hx)))
  have HB7 := hide (ev7.ge (unhide HB5) (Nat.le_trans (unhide HK5).size (unhide HKA).size))
  have HV7 := hide (LK.varsG ((unhide HV5).old (unhide HKA)) ev7 (unhide HB5) (unhide HL))
  clear hLK7 ev7 HAP HKA HB5 HV5 HLK5 HK5
  have HSY := hide (wsync_any l d _ _ _ w.heap.size B7 _ _ w7 (unhide HLK7) (unhide HV7) (by omega) (by omega))
  try dsimp only at HSY
  obtain ⟨C8, hw8⟩ := awk4 A7 m7 hf7
  rw [hw8] at HSY
  clear hw8 hf7
  go_wp2_with fail
  refine Calls.mono (unhide HSY) ?_
  rintro e w8 ⟨B8, rfl, hLK8, ev8⟩
  have HLK8 := hide hLK8
  have HK8 := hide ((unhide HK7).trans ev8.1 (fun x hx => Or.inr (by
    rcases List.mem_cons.1 hx with rfl | hx
    · exact unhide HL
    · exact unhide HB7 x hx)))
  clear hLK8 ev8 HSY HB7 HV7 HLK7 HK7
  go_wp2_with fail
  refine Calls.mono (wnext_any l d _ w8 (unhide HLK8).row) ?_
  rintro e w9 ⟨rfl, rfl⟩
  go_wp2_with fail
  refine Calls.mono (wepoch_any l d _ w9 (unhide HLK8).row) ?_
  rintro e w10 ⟨rfl, rfl⟩
  go_wp2_with fail
  refine Calls.mono (wsegno_any l d _ w10 (unhide HLK8).row) ?_
  rintro e w11 ⟨rfl, rfl⟩
  go_wp2_with fail
  refine Calls.mono (wstate_any l d _ w11 (unhide HLK8).row) ?_
  rintro e w12 ⟨rfl, rfl⟩
  go_wp2_with fail
  refine Calls.mono (ops_F _ _ _ _ _ _ w12 (unhide HLK8).dk) ?_
  rintro e w13 ⟨rfl, rfl⟩
  go_wp2_with fail
  go_ret
  exact ⟨rfl, unhide HK8⟩
end Go.Proofs.YtejchncdimcdbaaGreatDoor
namespace Go.Proofs.YtejchncdimcdbaaGreatDoor
open Go.RowKit Go.BigFrame
set_option linter.unusedVariables false
set_option linter.unusedSimpArgs false

end Go.Proofs.YtejchncdimcdbaaGreatDoor
/-
  Laws for drawn regions, by genreg.py. No program.
-/
namespace Go.Proofs.YtejchncdimcdbaaGreatDoor
open Go Go.RowKit Go.BigFrame
set_option linter.unusedVariables false
set_option linter.unusedSimpArgs false
section
variable {P : Program} {Q : Exit → Act → World → Prop}
end
end Go.Proofs.YtejchncdimcdbaaGreatDoor
namespace Go.Proofs.YtejchncdimcdbaaGreatDoor
open Go.RowKit Go.BigFrame
set_option linter.unusedVariables false
set_option linter.unusedSimpArgs false

set_option maxRecDepth 100000 in
theorem wide5_any (z : Int) (w : World) : Calls Tryz.prog 49 #[.int .i64 z] w fun e w' => e = .returned (.bool (wideB z)) ∧ w' = w := by
  by_cases h1 : 1 ≤ z
  · by_cases h2 : z ≤ 32
    · rw [show wideB z = true by simp [wideB, h1, h2]]
      go_enter Tryz.func49, Tryz.ntmps49
      go_wp2
      go_ret
      simp
    · rw [show wideB z = false by simp [wideB, h2]]
      go_enter Tryz.func49, Tryz.ntmps49
      go_wp2
      go_ret
      simp
  · rw [show wideB z = false by simp [wideB, h1]]
    go_enter Tryz.func49, Tryz.ntmps49
    go_wp2
    go_ret
    simp
end Go.Proofs.YtejchncdimcdbaaGreatDoor
namespace Go.Proofs.YtejchncdimcdbaaGreatDoor
open Go.RowKit Go.BigFrame Go.Maps Go.Sort
set_option linter.unusedVariables false
set_option linter.unusedSimpArgs false

set_option maxRecDepth 100000 in
set_option maxHeartbeats 2000000 in
theorem rdopen_arg (p : Value) (hp : p = .pointer none ∨ ∃ d, p = .pointer (some ⟨d, 0, none⟩)) (wd lim : Int) (w : World) (h : argOk wd lim = false) :
    Calls Tryz.prog 16 #[p, .int .i64 wd, .int .i64 lim] w fun e w' => e = .returned (.tuple #[.pointer none, .slice none 0 0, .int .i64 1]) ∧ w' = w := by
  have h0 : ¬ (1 ≤ wd ∧ wd ≤ 32 ∧ 1 ≤ lim ∧ lim ≤ 1048576) := by simpa [argOk] using h
  have HW := hide (wide5_any wd w)
  by_cases c1 : wideB wd = true
  · have c2 : 1 ≤ wd ∧ wd ≤ 32 := by unfold wideB at c1; simpa using c1
    rw [c1] at HW
    by_cases c3 : lim < 1
    · clear h h0 c1 c2
      go_enter Tryz.func16, Tryz.ntmps16
      go_wp2_with fail
      refine Calls.mono (unhide HW) ?_
      rintro e w' ⟨rfl, rfl⟩
      go_wp2_with fail
      refine bodyPost_ret (v := .tuple #[.pointer none, .slice none 0 0, .int .i64 1]) (by rw [results_tmp3 rfl]; rfl) rfl ⟨rfl, rfl⟩
    · have c4 : 1048576 < lim := by omega
      clear h h0 c1 c2
      go_enter Tryz.func16, Tryz.ntmps16
      go_wp2_with fail
      refine Calls.mono (unhide HW) ?_
      rintro e w' ⟨rfl, rfl⟩
      go_wp2_with fail
      refine bodyPost_ret (v := .tuple #[.pointer none, .slice none 0 0, .int .i64 1]) (by rw [results_tmp3 rfl]; rfl) rfl ⟨rfl, rfl⟩
  · rw [show wideB wd = false by simpa using c1] at HW
    clear h h0 c1
    go_enter Tryz.func16, Tryz.ntmps16
    go_wp2_with fail
    refine Calls.mono (unhide HW) ?_
    rintro e w' ⟨rfl, rfl⟩
    go_wp2_with fail
    refine bodyPost_ret (v := .tuple #[.pointer none, .slice none 0 0, .int .i64 1]) (by rw [results_tmp3 rfl]; rfl) rfl ⟨rfl, rfl⟩
set_option maxRecDepth 100000 in
set_option maxHeartbeats 2000000 in
theorem rdopen_nil (wd lim : Int) (w : World) (h : argOk wd lim = true) :
    Calls Tryz.prog 16 #[.pointer none, .int .i64 wd, .int .i64 lim] w fun e w' => e = .returned (.tuple #[.pointer none, .slice none 0 0, .int .i64 5]) ∧ w' = w := by
  have h0 : 1 ≤ wd ∧ wd ≤ 32 ∧ 1 ≤ lim ∧ lim ≤ 1048576 := by simpa [argOk] using h
  have HW := hide (wide5_any wd w)
  rw [show wideB wd = true by unfold wideB; simp; omega] at HW
  have c3 : ¬ lim < 1 := by omega
  have c4 : ¬ 1048576 < lim := by omega
  clear h h0
  go_enter Tryz.func16, Tryz.ntmps16
  go_wp2_with fail
  refine Calls.mono (unhide HW) ?_
  rintro e w' ⟨rfl, rfl⟩
  go_wp2_with fail
  refine bodyPost_ret (v := .tuple #[.pointer none, .slice none 0 0, .int .i64 5]) (by rw [results_tmp3 rfl]; rfl) rfl ⟨rfl, rfl⟩
set_option maxRecDepth 100000 in
set_option maxHeartbeats 2000000 in
theorem rdappend_nil (v : Value) (w : World) : Calls Tryz.prog 20 #[.pointer none, v] w fun e w' => e = .returned (.int .i64 5) ∧ w' = w := by
  go_enter Tryz.func20, Tryz.ntmps20
  go_wp2_with fail
  go_ret
  exact ⟨rfl, rfl⟩
set_option maxRecDepth 100000 in
set_option maxHeartbeats 4000000 in
theorem walNil_walk (wd lim : Int) (v0 : Value) (W : World) (h1 : -9223372036854775808 ≤ wd ∧ wd ≤ 9223372036854775807) (h2 : -9223372036854775808 ≤ lim ∧ lim ≤ 9223372036854775807) (hv : VarsS W) :
    Calls Tryz.prog 5 #[.int .i64 wd, .int .i64 lim, v0] W fun r w' => r = .returned (.bool true) ∧ Below W.heap.size W w' := by
  have HAW := hide (wawake_any W hv)
  obtain ⟨E, HO, HR⟩ : ∃ E : Int, Hid (Calls Tryz.prog 15 #[.pointer none, .int .i64 wd, .int .i64 lim] W fun e w' => e = .returned (.tuple #[.pointer none, .slice none 0 0, .int .i64 E]) ∧ w' = W) ∧ Hid (Calls Tryz.prog 16 #[.pointer none, .int .i64 wd, .int .i64 lim] W fun e w' => e = .returned (.tuple #[.pointer none, .slice none 0 0, .int .i64 E]) ∧ w' = W) := by
    by_cases h : argOk wd lim = true
    · exact ⟨5, hide (wopen_nil wd lim W h), hide (rdopen_nil wd lim W h)⟩
    · exact ⟨1, hide (wopen_arg _ (Or.inl rfl) wd lim W (by simpa using h)), hide (rdopen_arg _ (Or.inl rfl) wd lim W (by simpa using h))⟩
  have he : (E != E) = false := by simp
  clear hv
  go_enter Tryz.func5, Tryz.ntmps5
  go_wp2_with fail
  refine Calls.mono (unhide HO) ?_
  rintro e w1 ⟨rfl, rfl⟩
  go_wp2_with fail
  refine Calls.mono (unhide HR) ?_
  rintro e w2 ⟨rfl, rfl⟩
  go_wp2_with fail
  refine Calls.mono (unhide HAW) ?_
  rintro e w3 ⟨rfl, k3⟩
  have HK := hide k3
  clear k3
  go_wp2_with fail
  refine Calls.mono (wappend_nil _ w3) ?_
  rintro e w4 ⟨rfl, rfl⟩
  go_wp2_with fail
  refine Calls.mono (rdappend_nil _ w4) ?_
  rintro e w5 ⟨rfl, rfl⟩
  go_wp2_with fail
  refine Calls.mono (wsync_nil w5) ?_
  rintro e w6 ⟨rfl, rfl⟩
  go_wp2_with fail
  refine Calls.mono (wnext_nil w6) ?_
  rintro e w7 ⟨rfl, rfl⟩
  go_wp2_with fail
  refine Calls.mono (wepoch_nil w7) ?_
  rintro e w8 ⟨rfl, rfl⟩
  go_wp2_with fail
  refine Calls.mono (wsegno_nil w8) ?_
  rintro e w9 ⟨rfl, rfl⟩
  go_wp2_with fail
  refine Calls.mono (wstate_nil w9) ?_
  rintro e w10 ⟨rfl, rfl⟩
  go_wp2_with fail
  go_ret
  exact ⟨rfl, (unhide HK).below (Nat.le_refl _) (by simp)⟩
end Go.Proofs.YtejchncdimcdbaaGreatDoor
namespace Go.Proofs.YtejchncdimcdbaaGreatDoor
open Go.ChangeShapes Go.WideShapes Go.ChangeAt Go.RowKit Go.Deep
set_option linter.unusedVariables false
set_option linter.unusedSimpArgs false

theorem own : ownKnob Tryz.prog.godebug = none := by kernel_rfl
theorem laidOut : laidOutB Tryz.prog = true := by kernel_rfl
theorem int_of_wf {x : Int} (h : (Lit.int .i64 x).wf = true) : -9223372036854775808 ≤ x ∧ x ≤ 9223372036854775807 := by
  simp [Lit.wf, IntKind.min, IntKind.max, IntKind.signed, IntKind.bits] at h
  exact ⟨by omega, by omega⟩
section
variable {H : Type} {enc : TypeId × Value → H} {W : World}

end
end Go.Proofs.YtejchncdimcdbaaGreatDoor
