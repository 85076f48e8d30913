import Derived.Test.YthampopakcdgnaaEDec
namespace Go.Proofs.Ythampopakcdgnaa
open Go.RowKit Go.BigFrame
set_option linter.unusedVariables false
set_option linter.unusedSimpArgs false

theorem results_cell_cell {P : Program} {fn : Func} {p q : Tmp} {ty ty2 : TypeId} (h : fn.results = #[.cell p ty, .cell q ty2]) (tmps : Array Value) (w : World) (g g2 : Nat) (t t2 : TypeId) (cs : Array Value) (fr fr2 : Nat × Nat) (d : TypeDesc) (k : IntKind) (x : Value)
    (hp : tmps.getD p undef = .pointer (some ⟨g, 0, none⟩)) (hg : w.heap[g]? = some (.cells cs t fr)) (hq : tmps.getD q undef = .pointer (some ⟨g2, 0, none⟩)) (hg2 : w.heap[g2]? = some (.cells #[x] t2 fr2))
    (hu : P.underlying ty = some d) (hd : (match d with | .struct _ | .array _ _ => true | _ => false) = true) (hi : (P.info? ty).map (·.size) = some cs.size) (hu2 : P.underlying ty2 = some (.int k)) :
    (results fn tmps).run P w = .ok (.tuple #[.agg cs, x]) w := by
  have hp' : tmps[p]?.getD undef = .pointer (some ⟨g, 0, none⟩) := by simpa using hp
  have hq' : tmps[q]?.getD undef = .pointer (some ⟨g2, 0, none⟩) := by simpa using hq
  have hc : w.cell? ⟨g2, 0, none⟩ = some x := by rw [cell_of_row _ _ _ _ _ _ hg2]; rfl
  have h2 : (isAgg ty2).run P w = .ok false w := by
    unfold isAgg
    rw [Sem.run_bind, run_underlying hu2 w]; simp
  have h3 : (loadVar ty2 ⟨g2, 0, none⟩).run P w = .ok x w := by
    unfold loadVar
    simp only [Sem.run_bind, h2, Result.andThen_ok]
    simp [go_sem, hc]
  simp [results, h, hp', hq', asAddr, run_loadVar_row w g t ty cs fr d hg hu hd hi, h3]

theorem enC_size (e : En) (kv vv : Value) : (enC e kv vv).size = 3 := rfl
theorem enC_one (e : En) {kv vv : Value} (h1 : kv.oneCell' = true) (h2 : vv.oneCell' = true) : (enC e kv vv).all (·.oneCell') = true := row3_one rfl h1 h2

def decE (p : List Nat) : En × Nat :=
  if (takeE p 0).2.2 ≠ 0 then (⟨0, [], []⟩, (takeE p 0).2.2) else if doneE p (takeE p 0).2.1 0 ≠ 0 then (⟨0, [], []⟩, doneE p (takeE p 0).2.1 0) else ((takeE p 0).1, 0)

set_option maxRecDepth 100000 in
set_option maxHeartbeats 2000000 in
theorem decode_any (v : Value) (p : List Nat) (w : World) (h : Rd w v p) :
    Calls Try.prog 8 #[v] w fun r w' => ∃ kv vv, r = .returned (.tuple #[.agg (enC (decE p).1 kv vv), .int .i64 (decE p).2]) ∧ OkE w' (decE p).1 kv vv ∧ Kept [] w w' ∧ ∀ y, y ∈ blk kv ∨ y ∈ blk vv → w.heap.size ≤ y := by
  have H := hide h
  clear h
  obtain ⟨D, hD⟩ : ∃ D, decE p = D := ⟨_, rfl⟩
  rw [hD]
  have HD := hide hD
  unfold decE at HD
  clear hD
  have hmf : ∀ (fn : Fn) (first cap : Array Value) (w : World), (Instr.makeFunc fn first cap).run Try.prog w = .ok (.func fn first cap) w := fun _ _ _ _ => rfl
  have HE := hide (((Kept.refl [] (w.alloc (.cells #[.int .u8 0, .slice none 0 0, .slice none 0 0] 25))).alloc (.cells #[.int .i64 0] 27)).heap (heap_alloc_new w (.cells #[.int .u8 0, .slice none 0 0, .slice none 0 0] 25)) (by simp))
  have HF := hide (alloc_at w (.cells #[.int .u8 0, .slice none 0 0, .slice none 0 0] 25) (.cells #[.int .i64 0] 27))
  have HK0 := hide (((Kept.refl [] w).alloc (.cells #[.int .u8 0, .slice none 0 0, .slice none 0 0] 25)).alloc (.cells #[.int .i64 0] 27))
  have HS0 := hide (show ((w.alloc (.cells #[.int .u8 0, .slice none 0 0, .slice none 0 0] 25)).alloc (.cells #[.int .i64 0] 27)).heap.size = w.heap.size + 2 by simp)
  go_enter_defers Try.func8, Try.ntmps8
  go_wp2_with fail
  refine Calls.mono (newReader_any v p _ ((unhide H).old (unhide HK0) (by simp))) ?_
  rintro r w1 ⟨b, gv, rfl, hb, r1, g1, k1⟩
  rw [unhide HS0] at hb
  have HG1 := hide (fun x hx => by have h9 := g1 x hx; rw [unhide HS0] at h9; exact h9 : ∀ x ∈ blk gv, w.heap.size + 2 ≤ x ∧ x < w1.heap.size)
  have HE1 := hide (k1.heap (unhide HE) (by simp))
  have HF1 := hide (k1.heap (unhide HF) (by simp))
  have HK1 := hide ((unhide HK0).trans k1 (by simp))
  have HR1 := hide r1
  clear r1 g1 k1
  go_wp2_with fail
  refine Calls.mono (takeEntry_any b gv p 0 w1 (unhide HR1) (fun x hx => (unhide HG1 x hx).2)) ?_
  rintro r w2 ht
  obtain ⟨T, hT⟩ : ∃ T, takeE p 0 = T := ⟨_, rfl⟩
  rw [hT] at HD ht
  clear hT
  obtain ⟨en, i2, f2⟩ := T
  simp only at HD
  obtain ⟨t1, t2, t3⟩ := ht
  simp only at t1 t2
  have HE2 := hide (t3.heap (unhide HE1) (by simp; omega))
  have HF2 := hide (t3.heap (unhide HF1) (by simp; omega))
  have HK2 := hide ((unhide HK1).trans t3 (by simp; omega))
  clear t3
  by_cases hf2 : f2 ≠ 0
  · have hr := t2 hf2
    subst hr
    have HD2 := hide (by rw [← unhide HD, if_pos hf2] : D = (⟨0, [], []⟩, f2))
    clear t1 t2 HD
    go_wp2
    refine leaves_cons (f := 26) (args := #[.pointer (some ⟨w.heap.size, 0, none⟩), .pointer (some ⟨w.heap.size + 1, 0, none⟩)]) (by simp) (by simp [go_sem]) ?_
    refine (catchE_gave f2 w.heap.size (w.heap.size + 1) w2 _ _ _ _ (unhide HE2) (unhide HF2) (by omega)).mono ?_
    rintro e u' w3 ⟨rfl, rfl, h1, h2, k3⟩
    have HE3 := hide h1
    have HF3 := hide h2
    clear h1 h2
    show Leaves _ _ _ _ [] .returning w3
    refine ⟨.tuple #[.agg #[.int .u8 0, .slice none 0 0, .slice none 0 0], .int .i64 (f2 : Int)], ?_, ?_⟩
    · exact results_cell_cell rfl _ _ w.heap.size (w.heap.size + 1) _ _ _ _ _ _ .i64 _ rfl (unhide HE3) rfl (unhide HF3) Try.underlying25 rfl Try.size_entry Try.underlying27
    · refine ⟨.slice none 0 0, .slice none 0 0, by rw [unhide HD2]; rfl, by rw [unhide HD2]; exact ⟨by show (0 : Nat) < 256; omega, Rd.nil _, Rd.nil _⟩, (unhide HK2).trans k3 (by simp), by simp [blk]⟩
  replace hf2 : f2 = 0 := Decidable.not_not.1 hf2
  obtain ⟨kv, vv, hr, ok2, re2, nw2⟩ := t1 hf2
  subst hr
  have HD1 := hide (by have h9 := unhide HD; rw [if_neg (by simpa using hf2)] at h9; exact h9)
  clear t1 t2 HD hf2
  obtain ⟨a3, m3, c3, hu3, _⟩ := id ok2.key
  subst hu3
  obtain ⟨a4, m4, c4, hu4, _⟩ := id ok2.val
  subst hu4
  have HN2 := hide (fun y hy => Nat.le_trans (by have := (unhide HK1).size; have h9 := lt_of_block (unhide HF1); omega : w.heap.size + 2 ≤ w1.heap.size) (nw2 y hy) : ∀ y, y ∈ blk (.slice a3 m3 c3) ∨ y ∈ blk (.slice a4 m4 c4) → w.heap.size + 2 ≤ y)
  have HO2 := hide ok2
  have HR2 := hide re2
  clear ok2 re2 nw2
  have HSZ := hide (by unfold enC; kernel_rfl : (Try.prog.info? 25).map (·.size) = some (enC en (.slice a3 m3 c3) (.slice a4 m4 c4)).size)
  have HS3 := hide (enC_size en (.slice a3 m3 c3) (.slice a4 m4 c4))
  have HON := hide (enC_one en (kv := .slice a3 m3 c3) (vv := .slice a4 m4 c4) rfl rfl)
  generalize hA : enC en (.slice a3 m3 c3) (.slice a4 m4 c4) = A at *
  have HA := hide hA
  clear hA
  have kst := (Kept.refl [w.heap.size] w2).setRowE (g := w.heap.size) (Or.inl (by simp)) A
  have HE3 := hide (setRow_heap w2 w.heap.size _ A 25 (0, 0) (unhide HE2))
  have HF3 := hide (kst.heap (unhide HF2) (by simp))
  have HK3 := hide ((unhide HK2).setRowE (g := w.heap.size) (Or.inr (Nat.le_refl _)) A)
  have HR3 := hide ((unhide HR2).kept kst (by simp; omega) (fun x hx => by simp; have h9 := unhide HG1 x hx; omega))
  have HO3 := hide (⟨(unhide HO2).k, (unhide HO2).key.kept kst (fun x hx => by simp; have h9 := unhide HN2 x (Or.inl hx); omega), (unhide HO2).val.kept kst (fun x hx => by simp; have h9 := unhide HN2 x (Or.inr hx); omega)⟩ : OkE (w2.setRow w.heap.size A) en (.slice a3 m3 c3) (.slice a4 m4 c4))
  clear kst
  go_wp2_with (refine wpList_store_row rfl 25 _ _ rfl w.heap.size A rfl rfl _ _ (unhide HE2) (unhide HSZ) (unhide HS3).symm (unhide HON) ?_)
  obtain ⟨W3, hW3⟩ : ∃ W, w2.setRow w.heap.size A = W := ⟨_, rfl⟩
  rw [hW3] at HE3 HF3 HK3 HR3 HO3 ⊢
  clear hW3
  refine Calls.mono (rdone_any b gv p i2 0 W3 (unhide HR3)) ?_
  rintro r w4 ⟨rfl, n4, rfl⟩
  obtain ⟨d, hd⟩ : ∃ d, doneE p i2 0 = d := ⟨_, rfl⟩
  rw [hd] at HD1 ⊢
  clear hd
  have k4 := (Kept.refl [] W3).drewN n4
  have HE4 := hide (k4.heap (unhide HE3) (by simp))
  have HF4 := hide (k4.heap (unhide HF3) (by simp))
  have HK4 := hide ((unhide HK3).trans k4 (by simp))
  have HO4 := hide ((unhide HO3).old k4)
  clear k4
  by_cases hd0 : d ≠ 0
  · have HD2 := hide (by rw [← unhide HD1, if_pos hd0] : D = (⟨0, [], []⟩, d))
    clear HD1
    go_wp2_with fail
    refine Calls.mono (demand_bad d _ hd0) ?_
    rintro r w5 ⟨rfl, rfl⟩
    clear hd0
    have HA3 := hide (by rw [← unhide HA]; rfl : A = #[.int .u8 (en.k : Int), .slice a3 m3 c3, .slice a4 m4 c4])
    refine leaves_cons (f := 26) (args := #[.pointer (some ⟨w.heap.size, 0, none⟩), .pointer (some ⟨w.heap.size + 1, 0, none⟩)]) (by simp) (by simp [go_sem]) ?_
    refine (catchE_gave d w.heap.size (w.heap.size + 1) _ _ _ _ _ (by have h9 := unhide HE4; rw [unhide HA3] at h9; exact h9) (unhide HF4) (by omega)).mono ?_
    rintro e u' w6 ⟨rfl, rfl, h1, h2, k3⟩
    show Leaves _ _ _ _ [] .returning w6
    refine ⟨.tuple #[.agg #[.int .u8 0, .slice none 0 0, .slice none 0 0], .int .i64 (d : Int)], ?_, ?_⟩
    · exact results_cell_cell rfl _ _ w.heap.size (w.heap.size + 1) _ _ _ _ _ _ .i64 _ rfl h1 rfl h2 Try.underlying25 rfl Try.size_entry Try.underlying27
    · refine ⟨.slice none 0 0, .slice none 0 0, by rw [unhide HD2]; rfl, by rw [unhide HD2]; exact ⟨by show (0 : Nat) < 256; omega, Rd.nil _, Rd.nil _⟩, (unhide HK4).trans k3 (by simp), by simp [blk]⟩
  replace hd0 : d = 0 := Decidable.not_not.1 hd0
  have HD2 := hide (by rw [← unhide HD1, if_neg (by simpa using hd0)] : D = (en, 0))
  clear HD1
  subst hd0
  go_wp2_with fail
  refine Calls.mono (demand_ok _) ?_
  rintro r w5 ⟨rfl, rfl⟩
  obtain ⟨W4, hW4⟩ : ∃ W, W3.drewN n4 = W := ⟨_, rfl⟩
  rw [hW4] at HE4 HF4 HK4 HO4 ⊢
  clear hW4
  have kst := (Kept.refl [w.heap.size] W4).setRowE (g := w.heap.size) (Or.inl (by simp)) A
  have HE5 := hide (setRow_heap W4 w.heap.size _ A 25 (0, 0) (unhide HE4))
  have HF5 := hide (kst.heap (unhide HF4) (by simp))
  have HK5 := hide ((unhide HK4).setRowE (g := w.heap.size) (Or.inr (Nat.le_refl _)) A)
  have HO5 := hide (⟨(unhide HO4).k, (unhide HO4).key.kept kst (fun x hx => by simp; have h9 := unhide HN2 x (Or.inl hx); omega), (unhide HO4).val.kept kst (fun x hx => by simp; have h9 := unhide HN2 x (Or.inr hx); omega)⟩ : OkE (W4.setRow w.heap.size A) en (.slice a3 m3 c3) (.slice a4 m4 c4))
  clear kst
  have z0 := cell_of_row _ _ 0 _ _ _ (unhide HF5)
  have zf := frozen_of_row _ _ 0 _ _ (unhide HF5)
  go_wp2_with (first
    | (refine wpList_load_row rfl 25 _ rfl w.heap.size rfl _ A (0, 0) _ (unhide HE4) Try.underlying25 rfl (unhide HSZ) ?_)
    | (refine wpList_store_row rfl 25 _ _ rfl w.heap.size A rfl rfl _ _ (unhide HE4) (unhide HSZ) rfl (unhide HON) ?_))
  have kc := (Kept.refl [w.heap.size + 1] (W4.setRow w.heap.size A)).setCell (p := ⟨w.heap.size + 1, 0, none⟩) (Or.inl (by simp)) (.int .i64 0)
  refine leaves_cons (f := 26) (args := #[.pointer (some ⟨w.heap.size, 0, none⟩), .pointer (some ⟨w.heap.size + 1, 0, none⟩)]) (by simp) (by simp [go_sem]) ?_
  refine (catchE_idle w.heap.size (w.heap.size + 1) _).mono ?_
  rintro e u' w6 ⟨rfl, rfl, rfl⟩
  refine ⟨.tuple #[.agg A, .int .i64 0], ?_, ?_⟩
  · exact results_cell_cell rfl _ _ w.heap.size (w.heap.size + 1) _ _ _ _ _ _ .i64 _ rfl (kc.heap (unhide HE5) (by simp)) rfl (heap_setCell_same _ (w.heap.size + 1) 0 _ 27 (.int .i64 0) (unhide HF5)) Try.underlying25 rfl (unhide HSZ) Try.underlying27
  · refine ⟨.slice a3 m3 c3, .slice a4 m4 c4, by rw [unhide HD2, unhide HA]; rfl, ?_, (unhide HK5).setCell (p := ⟨w.heap.size + 1, 0, none⟩) (Or.inr (by show w.heap.size ≤ w.heap.size + 1; omega)) _, fun y hy => by have h9 := unhide HN2 y hy; omega⟩
    rw [unhide HD2]
    exact ⟨(unhide HO5).k, (unhide HO5).key.kept kc (fun x hx => by simp; have h9 := unhide HN2 x (Or.inl hx); omega), (unhide HO5).val.kept kc (fun x hx => by simp; have h9 := unhide HN2 x (Or.inr hx); omega)⟩
end Go.Proofs.Ythampopakcdgnaa
