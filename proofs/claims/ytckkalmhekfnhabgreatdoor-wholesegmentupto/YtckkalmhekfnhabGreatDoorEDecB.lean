import Derived.Test.YtckkalmhekfnhabGreatDoorETB
namespace Go.Proofs.YtckkalmhekfnhabGreatDoor
open Go.RowKit Go.BigFrame
set_option linter.unusedVariables false
set_option linter.unusedSimpArgs false

theorem eput2_heap {w : World} {g : Nat} {a b : Value} {t : TypeId} (h : w.heap[g]? = some (.cells #[a, b] t (0, 0))) (x y : Value) : ((w.setCell ⟨g, 0, none⟩ x).setCell ⟨g, 1, none⟩ y).heap[g]? = some (.cells #[x, y] t (0, 0)) := by
  rw [heap_setCell_same _ g 1 _ t _ (heap_setCell_same w g 0 _ t _ h)]; rfl
theorem eput2_kept {L : List Nat} {w0 w : World} (k : Kept L w0 w) (g : Nat) (hg : g ∈ L ∨ w0.heap.size ≤ g) (x y : Value) : Kept L w0 ((w.setCell ⟨g, 0, none⟩ x).setCell ⟨g, 1, none⟩ y) := (k.setCell hg x).setCell hg y

set_option maxRecDepth 100000 in
theorem catchB_idle (ge gf : Nat) (w : World) :
    CallsD Tryz.prog 112 #[.pointer (some ⟨ge, 0, none⟩), .pointer (some ⟨gf, 0, none⟩)] .returning w fun e u' w' => e = .returned (.tuple #[]) ∧ u' = .returning ∧ w' = w := by
  refine callsD_of_wpS Tryz.func112 rfl fun c₀ cs hu => ?_
  apply wpS_seq
  apply wpS_region
  simp [wpOpsS, go_sem, recoverD, hu, Tryz.ntmps112, Exit.thenS]
  refine wpS_of_wp ?_
  go_wp2
  cases c₀
  simp_all [bodyPostS, results, Tryz.results112]

set_option maxRecDepth 100000 in
theorem catchB_gave (f ge gf : Nat) (w : World) (a b x : Value) (he : w.heap[ge]? = some (.cells #[a, b] 37 (0, 0))) (hf : w.heap[gf]? = some (.cells #[x] 26 (0, 0))) (hne : ge ≠ gf) :
    CallsD Tryz.prog 112 #[.pointer (some ⟨ge, 0, none⟩), .pointer (some ⟨gf, 0, none⟩)] (.panicking (gave f)) w fun e u' w' => e = .returned (.tuple #[]) ∧ u' = .panicking [{ v := .iface 199 (.agg #[.int .i64 (f : Int)]), recovered := true }] ∧
      (w'.heap[ge]? = some (.cells #[.int .u64 0, .slice none 0 0] 37 (0, 0)) ∧ w'.heap[gf]? = some (.cells #[.int .i64 (f : Int)] 26 (0, 0)) ∧ Kept [ge, gf] w w') := by
  have HE := hide he
  have HF := hide hf
  clear he hf
  unfold gave
  refine callsD_of_wpS Tryz.func112 rfl fun c₀ cs hu => ?_
  apply wpS_seq
  apply wpS_region
  simp [wpOpsS, go_sem, recoverD, hu, Tryz.ntmps112, Exit.thenS]
  refine wpS_of_wp ?_
  go_wp2_with fail
  refine Calls.mono (reason_any f w) ?_
  rintro r w1 ⟨rfl, k1⟩
  have HE1 := hide (k1.heap (unhide HE) (by simp))
  have HF1 := hide (k1.heap (unhide HF) (by simp))
  have HK1 := hide k1
  clear k1
  have s0 := cell_of_row _ _ 0 _ _ _ (unhide HE1)
  have s1 := cell_of_row _ _ 1 _ _ _ (unhide HE1)
  have t0 := cell_of_row _ _ 0 _ _ _ (unhide HF1)
  have f0 := frozen_of_row _ _ 0 _ _ (unhide HE1)
  have f1 := frozen_of_row _ _ 1 _ _ (unhide HE1)
  have g0 := frozen_of_row _ _ 0 _ _ (unhide HF1)
  have hne' : gf ≠ ge := fun h => hne h.symm
  have HG1 := hide (eput2_heap (unhide HE1) (.int .u64 0) (.slice none 0 0))
  have kp := eput2_kept (Kept.refl [ge] w1) ge (Or.inl (by simp)) (.int .u64 0) (.slice none 0 0)
  have HG2 := hide (heap_setCell_same _ gf 0 _ 26 (.int .i64 (f : Int)) (kp.heap (unhide HF1) (by simpa using hne')))
  have HG3 := hide (((Kept.refl [gf] _).setCell (p := ⟨gf, 0, none⟩) (Or.inl (by simp)) (.int .i64 (f : Int))).heap (unhide HG1) (by simpa using hne))
  have HK2 := hide ((eput2_kept ((unhide HK1).mono (M := [ge, gf]) (by simp)) ge (Or.inl (by simp)) (.int .u64 0) (.slice none 0 0)).setCell (p := ⟨gf, 0, none⟩) (Or.inl (by simp)) (.int .i64 (f : Int)))
  clear kp
  go_wp2
  cases c₀
  simp_all [bodyPostS, results, Tryz.results112]
  exact ⟨unhide HG3, unhide HG2, unhide HK2⟩
def decB (p : List Nat) : Nat × List En × Nat :=
  if (takeB p 0).2.2.2 ≠ 0 then (0, [], (takeB p 0).2.2.2) else if doneE p (takeB p 0).2.2.1 0 ≠ 0 then (0, [], doneE p (takeB p 0).2.2.1 0) else ((takeB p 0).1, (takeB p 0).2.1, 0)

set_option maxRecDepth 100000 in
set_option maxHeartbeats 2000000 in
theorem decodeBatch_any (v : Value) (p : List Nat) (w : World) (h : Rd w v p) :
    Calls Tryz.prog 72 #[v] w fun r w' => ∃ bv, r = .returned (.tuple #[.agg #[.int .u64 ((decB p).1 : Int), bv], .int .i64 (decB p).2.2]) ∧ NewN w.heap.size w' bv (decB p).2.1 ∧ Kept [] w w' := by
  have H := hide h
  clear h
  obtain ⟨D, hD⟩ : ∃ D, decB p = D := ⟨_, rfl⟩
  rw [hD]
  have HD := hide hD
  unfold decB at HD
  clear hD
  have hmf : ∀ (fn : Fn) (first cap : Array Value) (w : World), (Instr.makeFunc fn first cap).run Tryz.prog w = .ok (.func fn first cap) w := fun _ _ _ _ => rfl
  have HE := hide (((Kept.refl [] (w.alloc (.cells #[.int .u64 0, .slice none 0 0] 37))).alloc (.cells #[.int .i64 0] 26)).heap (heap_alloc_new w (.cells #[.int .u64 0, .slice none 0 0] 37)) (by simp))
  have HF := hide (alloc_at w (.cells #[.int .u64 0, .slice none 0 0] 37) (.cells #[.int .i64 0] 26))
  have HK0 := hide (((Kept.refl [] w).alloc (.cells #[.int .u64 0, .slice none 0 0] 37)).alloc (.cells #[.int .i64 0] 26))
  have HS0 := hide (show ((w.alloc (.cells #[.int .u64 0, .slice none 0 0] 37)).alloc (.cells #[.int .i64 0] 26)).heap.size = w.heap.size + 2 by simp)
  go_enter_defers Tryz.func72, Tryz.ntmps72
  go_wp2_with fail
  refine Calls.mono (newReader_any v p _ ((unhide H).old (unhide HK0) (by simp))) ?_
  rintro r w1 ⟨b, gv, rfl, hb, r1, g1, k1⟩
  rw [unhide HS0] at hb
  have HG1 := hide (fun x hx => by have h9 := g1 x hx; rw [unhide HS0] at h9; exact h9 : ∀ x ∈ blk gv, w.heap.size + 2 ≤ x ∧ x < w1.heap.size)
  have HE1 := hide (k1.heap (unhide HE) (by simp))
  have HF1 := hide (k1.heap (unhide HF) (by simp))
  have HK1 := hide ((unhide HK0).trans k1 (by simp))
  have HR1 := hide r1
  clear r1 g1 k1
  go_wp2_with fail
  refine Calls.mono (takeBatch_any b gv p 0 w1 (unhide HR1) (fun x hx => (unhide HG1 x hx).2)) ?_
  rintro r w2 ht
  obtain ⟨T, hT⟩ : ∃ T, takeB p 0 = T := ⟨_, rfl⟩
  rw [hT] at HD ht
  clear hT
  obtain ⟨ff, es, i2, f2⟩ := T
  simp only at HD
  obtain ⟨t1, t2, t3⟩ := ht
  simp only at t1 t2
  have HE2 := hide (t3.heap (unhide HE1) (by simp; omega))
  have HF2 := hide (t3.heap (unhide HF1) (by simp; omega))
  have HK2 := hide ((unhide HK1).trans t3 (by simp; omega))
  clear t3
  by_cases hf2 : f2 ≠ 0
  · have hr := t2 hf2
    subst hr
    have HD2 := hide (by rw [← unhide HD, if_pos hf2] : D = (0, [], f2))
    clear t1 t2 HD
    go_wp2
    refine leaves_cons (f := 112) (args := #[.pointer (some ⟨w.heap.size, 0, none⟩), .pointer (some ⟨w.heap.size + 1, 0, none⟩)]) (by simp) (by simp [go_sem]) ?_
    refine (catchB_gave f2 w.heap.size (w.heap.size + 1) w2 _ _ _ (unhide HE2) (unhide HF2) (by omega)).mono ?_
    rintro e u' w3 ⟨rfl, rfl, h1, h2, k3⟩
    have HE3 := hide h1
    have HF3 := hide h2
    clear h1 h2
    show Leaves _ _ _ _ [] .returning w3
    refine ⟨.tuple #[.agg #[.int .u64 0, .slice none 0 0], .int .i64 (f2 : Int)], ?_, ?_⟩
    · exact results_cell_cell rfl _ _ w.heap.size (w.heap.size + 1) _ _ _ _ _ _ .i64 _ rfl (unhide HE3) rfl (unhide HF3) Tryz.underlying37 rfl Tryz.size_batch Tryz.underlying26
    · refine ⟨.slice none 0 0, by rw [unhide HD2]; rfl, by rw [unhide HD2]; exact NewN.nil _ _ ((unhide HK2).trans k3 (by simp)).size, (unhide HK2).trans k3 (by simp)⟩
  replace hf2 : f2 = 0 := Decidable.not_not.1 hf2
  obtain ⟨bv, hr, ok2, re2⟩ := t1 hf2
  subst hr
  have HD1 := hide (by have h9 := unhide HD; rw [if_neg (by simpa using hf2)] at h9; exact h9)
  clear t1 t2 HD hf2
  obtain ⟨a3, m3, c3, kf, vf, hu3, _⟩ := id ok2.rdN
  subst hu3
  have HO2 := hide ok2
  have HR2 := hide re2
  clear ok2 re2
  have hw1 : w.heap.size + 2 ≤ w1.heap.size := by have h9 := lt_of_block (unhide HF1); omega
  have kst := (Kept.refl [w.heap.size] w2).setRowE (g := w.heap.size) (Or.inl (by simp)) #[.int .u64 (ff : Int), .slice a3 m3 c3]
  have HE3 := hide (setRow_heap w2 w.heap.size _ #[.int .u64 (ff : Int), .slice a3 m3 c3] 37 (0, 0) (unhide HE2))
  have HF3 := hide (kst.heap (unhide HF2) (by simp))
  have HK3 := hide ((unhide HK2).setRowE (g := w.heap.size) (Or.inr (Nat.le_refl _)) #[.int .u64 (ff : Int), .slice a3 m3 c3])
  have HR3 := hide ((unhide HR2).kept kst (by simp; omega) (fun x hx => by simp; have h9 := unhide HG1 x hx; omega))
  have HO3 := hide ((unhide HO2).kept kst (by simp; omega))
  clear kst
  obtain ⟨A, hA⟩ : ∃ A : Array Value, #[.int .u64 (ff : Int), .slice a3 m3 c3] = A := ⟨_, rfl⟩
  have HA := hide hA
  have HSZ := hide (by rw [← hA]; exact Tryz.size_batch : (Tryz.prog.info? 37).map (·.size) = some A.size)
  have HS3 := hide (by rw [← hA]; rfl : A.size = 2)
  have HON := hide (by rw [← hA]; simp [Value.oneCell'] : A.all (·.oneCell') = true)
  rw [hA] at HE3 HF3 HK3 HR3 HO3 ⊢
  clear hA
  go_wp2_with (refine wpList_store_row rfl 37 _ _ rfl w.heap.size A rfl rfl _ _ (unhide HE2) (unhide HSZ) (unhide HS3).symm (unhide HON) ?_)
  obtain ⟨W3, hW3⟩ : ∃ W, w2.setRow w.heap.size A = W := ⟨_, rfl⟩
  rw [hW3] at HE3 HF3 HK3 HR3 HO3 ⊢
  clear hW3
  refine Calls.mono (rdone_any b gv p i2 0 W3 (unhide HR3)) ?_
  rintro r w4 ⟨rfl, n4, rfl⟩
  obtain ⟨d, hd⟩ : ∃ d, doneE p i2 0 = d := ⟨_, rfl⟩
  rw [hd] at HD1 ⊢
  clear hd
  have k4 := (Kept.refl [] W3).drewN n4
  have HE4 := hide (k4.heap (unhide HE3) (by simp))
  have HF4 := hide (k4.heap (unhide HF3) (by simp))
  have HK4 := hide ((unhide HK3).trans k4 (by simp))
  have HO4 := hide ((unhide HO3).kept k4 (by simp))
  clear k4
  by_cases hd0 : d ≠ 0
  · have HD2 := hide (by rw [← unhide HD1, if_pos hd0] : D = (0, [], d))
    clear HD1
    go_wp2_with fail
    refine Calls.mono (demand_bad d _ hd0) ?_
    rintro r w5 ⟨rfl, rfl⟩
    clear hd0
    refine leaves_cons (f := 112) (args := #[.pointer (some ⟨w.heap.size, 0, none⟩), .pointer (some ⟨w.heap.size + 1, 0, none⟩)]) (by simp) (by simp [go_sem]) ?_
    refine (catchB_gave d w.heap.size (w.heap.size + 1) _ _ _ _ (by have h9 := unhide HE4; rw [← unhide HA] at h9; exact h9) (unhide HF4) (by omega)).mono ?_
    rintro e u' w6 ⟨rfl, rfl, h1, h2, k3⟩
    show Leaves _ _ _ _ [] .returning w6
    refine ⟨.tuple #[.agg #[.int .u64 0, .slice none 0 0], .int .i64 (d : Int)], ?_, ?_⟩
    · exact results_cell_cell rfl _ _ w.heap.size (w.heap.size + 1) _ _ _ _ _ _ .i64 _ rfl h1 rfl h2 Tryz.underlying37 rfl Tryz.size_batch Tryz.underlying26
    · refine ⟨.slice none 0 0, by rw [unhide HD2]; rfl, by rw [unhide HD2]; exact NewN.nil _ _ ((unhide HK4).trans k3 (by simp)).size, (unhide HK4).trans k3 (by simp)⟩
  replace hd0 : d = 0 := Decidable.not_not.1 hd0
  have HD2 := hide (by rw [← unhide HD1, if_neg (by simpa using hd0)] : D = (ff, es, 0))
  clear HD1
  subst hd0
  go_wp2_with fail
  refine Calls.mono (demand_ok _) ?_
  rintro r w5 ⟨rfl, rfl⟩
  obtain ⟨W4, hW4⟩ : ∃ W, W3.drewN n4 = W := ⟨_, rfl⟩
  rw [hW4] at HE4 HF4 HK4 HO4 ⊢
  clear hW4
  have kst := (Kept.refl [w.heap.size] W4).setRowE (g := w.heap.size) (Or.inl (by simp)) A
  have HE5 := hide (setRow_heap W4 w.heap.size _ A 37 (0, 0) (unhide HE4))
  have HF5 := hide (kst.heap (unhide HF4) (by simp))
  have HK5 := hide ((unhide HK4).setRowE (g := w.heap.size) (Or.inr (Nat.le_refl _)) A)
  have HO5 := hide ((unhide HO4).kept kst (by simp; omega))
  clear kst
  have z0 := cell_of_row _ _ 0 _ _ _ (unhide HF5)
  have zf := frozen_of_row _ _ 0 _ _ (unhide HF5)
  go_wp2_with (first
    | (refine wpList_load_row rfl 37 _ rfl w.heap.size rfl _ A (0, 0) _ (unhide HE4) Tryz.underlying37 rfl (unhide HSZ) ?_)
    | (refine wpList_store_row rfl 37 _ _ rfl w.heap.size A rfl rfl _ _ (unhide HE4) (unhide HSZ) rfl (unhide HON) ?_))
  have kc := (Kept.refl [w.heap.size + 1] (W4.setRow w.heap.size A)).setCell (p := ⟨w.heap.size + 1, 0, none⟩) (Or.inl (by simp)) (.int .i64 0)
  refine leaves_cons (f := 112) (args := #[.pointer (some ⟨w.heap.size, 0, none⟩), .pointer (some ⟨w.heap.size + 1, 0, none⟩)]) (by simp) (by simp [go_sem]) ?_
  refine (catchB_idle w.heap.size (w.heap.size + 1) _).mono ?_
  rintro e u' w6 ⟨rfl, rfl, rfl⟩
  refine ⟨.tuple #[.agg A, .int .i64 0], ?_, ?_⟩
  · exact results_cell_cell rfl _ _ w.heap.size (w.heap.size + 1) _ _ _ _ _ _ .i64 _ rfl (kc.heap (unhide HE5) (by simp)) rfl (heap_setCell_same _ (w.heap.size + 1) 0 _ 26 (.int .i64 0) (unhide HF5)) Tryz.underlying37 rfl (unhide HSZ) Tryz.underlying26
  · refine ⟨.slice a3 m3 c3, by rw [unhide HD2, ← unhide HA]; rfl, ?_, (unhide HK5).setCell (p := ⟨w.heap.size + 1, 0, none⟩) (Or.inr (by show w.heap.size ≤ w.heap.size + 1; omega)) _⟩
    rw [unhide HD2]
    exact ((unhide HO5).kept kc (by simp; omega)).weak (by omega)
end Go.Proofs.YtckkalmhekfnhabGreatDoor
