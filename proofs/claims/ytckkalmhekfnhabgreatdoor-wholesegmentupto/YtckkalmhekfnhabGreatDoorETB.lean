import Derived.Test.YtckkalmhekfnhabGreatDoorEOwn
import Derived.Deep.RegionLaw
namespace Go.Proofs.YtckkalmhekfnhabGreatDoor
open Go.RowKit Go.BigFrame
set_option linter.unusedVariables false
set_option linter.unusedSimpArgs false

theorem rUvar_lt (p : List Nat) (i e : Nat) : (rUvar p i e).1 < 18446744073709551616 := by
  unfold rUvar
  split
  · show (0 : Nat) < _; omega
  · split
    · show (0 : Nat) < _; omega
    · exact fuv_lt _ 0 0 (by decide) (by decide)
theorem step_pushN {ops : Array Oper} {o : Oper} {a : Act} {K : Act → World → Prop} {Q : Exit → Act → World → Prop} {F : Prop} (hgd : o.guard = none) (s x : Operand)
    (ho : o.op = .call { callee := .builtin .append, args := #[s, x], argTypes := #[35, 35] }) (hty : o.type = 35)
    (w : World) (base : Nat) (v : Value) (ts : List (En × Value × Value)) (e : En) (y z : Value) (H : Nat) (h : w.ownsRow base 44 3 v ts.length (cellsN ts)) (hnew : w.heap[H]? = some (.cells #[.int .u8 (e.k : Int), y, z] 44 (0, 0))) (hy : y.oneCell' = true) (hz : z.oneCell' = true) (hl : ts.length + 1 ≤ 1000000000) (hb : base ≤ w.heap.size)
    (hs : a.eval s = v) (hx : a.eval x = .slice (some ⟨H, 0, none⟩) 1 1)
    (hK : ∀ g cap w1, Hid (w1.ownsRow base 44 3 (.slice (some ⟨g, 0, none⟩) (ts.length + 1) cap) (ts.length + 1) (cellsN ts ++ [.int .u8 (e.k : Int), y, z])) → Hid (w.grownBy w1 v.ownBlock) → Hid (v.ownBlock = some g ∨ g = w.heap.size) →
      K (a.put o.dst (.slice (some ⟨g, 0, none⟩) (ts.length + 1) cap)) w1) :
    if Region.wanted o (yielded ops a.tmps) = true then Oper.wp Tryz.prog o a w K Q else F := by
  obtain ⟨g, cap, w1, hrun, h2, h3, h4⟩ := pushN w base v ts e y z H h hnew hy hz hl hb
  have hw : Region.wanted o (yielded ops a.tmps) = true := by simp [Region.wanted, hgd]
  rw [if_pos hw]
  unfold Oper.wp execOp
  simp only [ho, hty, resolve, invoke, builtin, Sem.run_bind, Sem.run_pure, Result.andThen_ok, List.map_toArray, List.map_cons, List.map_nil, hs, hx, hrun]
  exact hK g cap w1 h2 h3 h4
def TookB (w w' : World) (b : Nat) (gv : Value) (p : List Nat) (x : Nat × List En × Nat × Nat) (r : Ending) : Prop :=
  (x.2.2.2 = 0 → ∃ v, r = .returned (.agg #[.int .u64 (x.1 : Int), v]) ∧ NewN w.heap.size w' v x.2.1 ∧ ReAt w' b gv p x.2.2.1 0) ∧ (x.2.2.2 ≠ 0 → r = .panicked (gave x.2.2.2)) ∧ Kept [b] w w'
theorem Tryz.size_batch : (Tryz.prog.info? 37).map (·.size) = some 2 := by kernel_rfl

set_option maxRecDepth 100000 in
set_option maxHeartbeats 2000000 in
theorem takeBatch_any (b : Nat) (gv : Value) (p : List Nat) (i : Nat) (w : World) (h : ReAt w b gv p i 0) (hgv : ∀ x ∈ blk gv, x < w.heap.size) :
    Calls Tryz.prog 115 #[.pointer (some ⟨b, 0, none⟩)] w fun r w' => TookB w w' b gv p (takeB p i) r := by
  have H := hide h
  have hblt := h.lt
  obtain ⟨T, hT⟩ : ∃ T, takeB p i = T := ⟨_, rfl⟩
  rw [hT]
  have HT := hide hT
  unfold takeB at HT
  clear hT h
  have HZ := hide (heap_alloc_new w (.cells #[.int .u64 0, .slice none 0 0] 37))
  have HK0 := hide ((Kept.refl [b] w).alloc (.cells #[.int .u64 0, .slice none 0 0] 37))
  have HR0 := hide ((unhide H).kept ((Kept.refl [] w).alloc (.cells #[.int .u64 0, .slice none 0 0] 37)) (by simp) (by simp))
  have hfl := rUvar_lt p i 0
  go_enter Tryz.func115, Tryz.ntmps115
  go_wp2_with fail
  refine Calls.mono (ruvar_any b gv p i 0 _ (unhide HR0)) ?_
  rintro r w1 ⟨rfl, r1, k1⟩
  have hne0 : w.heap.size ≠ b := by omega
  have HZ1 := hide (k1.heap (unhide HZ) (by simpa using hne0))
  have HK1 := hide ((unhide HK0).trans k1 (by simp))
  obtain ⟨x, hx⟩ : ∃ x, rUvar p i 0 = x := ⟨_, rfl⟩
  rw [hx] at HT r1 hfl ⊢
  clear hx
  obtain ⟨f, i1, e1⟩ := x
  simp only at HT r1 hfl ⊢
  have HR1 := hide r1
  clear r1 k1
  have hs1' : w.heap.size < w1.heap.size := lt_of_block (unhide HZ1)
  have hcl := rUvar_lt p i1 e1
  have HKA := hide ((unhide HK1).alloc (.cells #[.int .u64 (f : Int), .slice none 0 0] 37))
  have HRA := hide ((unhide HR1).kept ((Kept.refl [] w1).alloc (.cells #[.int .u64 (f : Int), .slice none 0 0] 37)) (by simp) (by simp))
  have HGA := hide (heap_alloc_new w1 (.cells #[.int .u64 (f : Int), .slice none 0 0] 37))
  have HZA := hide (((Kept.refl [] w1).alloc (.cells #[.int .u64 (f : Int), .slice none 0 0] 37)).heap (unhide HZ1) (by simp))
  have HSA := hide (show (w1.alloc (.cells #[.int .u64 (f : Int), .slice none 0 0] 37)).heap.size = w1.heap.size + 1 by simp)
  go_wp2_with fail
  obtain ⟨WA, hWA⟩ : ∃ W, w1.alloc (.cells #[.int .u64 (f : Int), .slice none 0 0] 37) = W := ⟨_, rfl⟩
  rw [hWA] at HKA HRA HGA HZA HSA ⊢
  clear hWA
  have hneg : w1.heap.size ≠ b := by omega
  refine Calls.mono (ruvar_any b gv p i1 e1 WA (unhide HRA)) ?_
  rintro r w2 ⟨rfl, r2, k2⟩
  obtain ⟨x, hx⟩ : ∃ x, rUvar p i1 e1 = x := ⟨_, rfl⟩
  rw [hx] at HT r2 hcl ⊢
  clear hx
  obtain ⟨n, i2, e2⟩ := x
  simp only at HT r2 hcl ⊢
  have HR2 := hide r2
  have HG2 := hide (k2.heap (unhide HGA) (by simpa using hneg))
  have HZ2 := hide (k2.heap (unhide HZA) (by simpa using hne0))
  have HK2 := hide ((unhide HKA).trans k2 (by simp))
  have HKW2 := hide k2
  clear r2 k2
  go_wp2_with fail
  refine Calls.mono (rerr_any b gv p i2 e2 w2 (unhide HR2)) ?_
  rintro r w3 ⟨rfl, rfl⟩
  by_cases hE : e2 ≠ 0
  · have HT2 := hide (by rw [← unhide HT, if_pos hE] : T = (0, [], 0, e2))
    go_wp2_with fail
    refine Calls.mono (demand_bad e2 _ hE) ?_
    rintro r w6 ⟨rfl, rfl⟩
    exact ⟨rfl, fun h => absurd h (by rw [unhide HT2]; exact hE), fun _ => by rw [unhide HT2], unhide HK2⟩
  have HT1 := hide (by have h9 := unhide HT; rw [if_neg hE] at h9; exact h9)
  replace hE : e2 = 0 := Decidable.not_not.1 hE
  subst hE
  clear HT
  go_wp2_with fail
  refine Calls.mono (demand_ok _) ?_
  rintro r w4 ⟨rfl, rfl⟩
  have q0 := cell_of_row _ _ 0 _ _ _ (unhide HG2)
  go_wp2_with fail
  refine Calls.mono (checkCount_any f n _ hfl hcl) ?_
  rintro r w5 ⟨rfl, rfl⟩
  by_cases hE : cntE f n ≠ 0
  · have HT2 := hide (by rw [← unhide HT1, if_pos hE] : T = (0, [], 0, cntE f n))
    go_wp2_with fail
    refine Calls.mono (demand_bad (cntE f n) _ hE) ?_
    rintro r w6 ⟨rfl, rfl⟩
    exact ⟨rfl, fun h => absurd h (by rw [unhide HT2]; exact hE), fun _ => by rw [unhide HT2], unhide HK2⟩
  have HT2 := hide (by have h9 := unhide HT1; rw [if_neg hE] at h9; exact h9.symm)
  replace hE : cntE f n = 0 := Decidable.not_not.1 hE
  have hn64 : n ≤ 64 := by
    unfold cntE at hE
    split at hE
    · omega
    · omega
  rw [hE]
  clear HT1 hE
  go_wp2_with fail
  refine Calls.mono (demand_ok _) ?_
  rintro r w6 ⟨rfl, rfl⟩
  go_wp2_with fail
  have HW6 := hide (Kept.refl [b, w1.heap.size] w6)
  have hgb6 : w1.heap.size < w6.heap.size := lt_of_block (unhide HG2)
  have hb6 : b < w6.heap.size := by omega
  go_loopw [19] (fun t19 wr => ∃ (j ij : Nat) (vE : Value) (ts : List (En × Value × Value)), j ≤ n ∧ t19 = .int .u64 j ∧ Hid (ts.length = j) ∧ Hid (takeN p i2 n = (ts.map (·.1) ++ (takeN p ij (n - j)).1, (takeN p ij (n - j)).2)) ∧ Hid (ReAt wr b gv p ij 0) ∧ Hid (wr.heap[w1.heap.size]? = some (.cells #[.int .u64 (f : Int), vE] 37 (0, 0))) ∧
    Hid (wr.heap[w.heap.size]? = some (.cells #[.int .u64 0, .slice none 0 0] 37 (0, 0))) ∧ Hid (OwnN [b, w1.heap.size] w6 wr vE ts)) (fun t _ => n - (intOf t).toNat)
  case atStart => exact ⟨0, i2, .slice none 0 0, [], Nat.zero_le _, rfl, hide rfl, hide (by simp), HR2, HG2, HZ2, hide (OwnN.start (unhide HW6))⟩
  case round =>
    obtain ⟨j, ij, vE, ts, hj, rfl, HJ, HTN, HR, HG, HZR, HO⟩ := hrel
    by_cases hlt : j < n
    · have hlt' : (j : Int) < n := by omega
      obtain ⟨m, hm⟩ : ∃ m, n - j = m + 1 := ⟨n - j - 1, by omega⟩
      have hmm : n - (j + 1) = m := by omega
      rw [hm] at HTN
      have HHS := hide (by have h9 := lt_of_block (unhide HZR); have h8 := (unhide HO).kept.size; omega : w6.heap.size ≤ wr.heap.size)
      have HRD := hide ((unhide HR).kept (Kept.refl [] wr).drew (by simp) (by simp))
      have HGV := hide (fun x hx => by have h9 := hgv x hx; have h8 := unhide HHS; show x < wr.heap.size; omega : ∀ x ∈ blk gv, x < wr.drew.heap.size)
      have HCT := hide (takeEntry_any b gv p ij wr.drew (unhide HRD) (unhide HGV))
      have HTU := hide (show takeN p ij (m + 1) = if (takeE p ij).2.2 ≠ 0 then ([], 0, (takeE p ij).2.2) else ((takeE p ij).1 :: (takeN p (takeE p ij).2.1 m).1, (takeN p (takeE p ij).2.1 m).2) from rfl)
      obtain ⟨X, hX⟩ : ∃ X, takeE p ij = X := ⟨_, rfl⟩
      rw [hX] at HCT HTU
      clear hX
      obtain ⟨en, i3, e3⟩ := X
      simp only at HTU
      have c1 : wr.cell? ⟨w1.heap.size, 1, none⟩ = some vE := by rw [cell_of_row _ _ _ _ _ _ (unhide HG)]; rfl
      have HC1 := hide c1
      have HTB := hide (fun he : e3 ≠ 0 => by rw [unhide HT2]; show (takeN p i2 n).2.2 = e3; rw [unhide HTN, unhide HTU, if_pos he] : e3 ≠ 0 → T.2.2.2 = e3)
      have HKR := hide ((unhide HK2).trans (unhide HO).kept (by intro x hx; simp at hx; rcases hx with rfl | rfl; left; simp; right; omega))
      go_wp2_with fail
      go_region_law (first
        | (refine step_pushN rfl _ _ rfl rfl _ w6.heap.size vE ts en (.slice a8 m8 c8) (.slice a9 m9 c9) w3.heap.size (by exact (unhide HO3).own) (by exact heap_alloc_new w3 _) rfl rfl (by have := unhide HJ; omega) (by exact unhide HB3) rfl rfl ?_; intro g cap w5 HO5 HG5 HA5; have hrow5 := (unhide HK45 w5 HG5).heap (unhide HGR4) (unhide HNG4); have s5 := cell_of_row _ _ 1 _ _ _ hrow5; have z5 := frozen_of_row _ _ 1 _ _ hrow5; have HGR5 := hide hrow5; clear hrow5)
        | (go_simp; go_at_call 142; refine (unhide HCT).mono ?_; rintro r w3 ⟨t1, t2, t3⟩; by_cases he3 : e3 ≠ 0; exact (by have hr := t2 he3; subst hr; exact ⟨rfl, fun h => absurd ((unhide HTB he3).symm.trans h) he3, fun _ => by rw [unhide HTB he3], (unhide HKR).trans ((Kept.refl [b] wr).drew.trans t3 (by simp)) (by simp)⟩); replace he3 : e3 = 0 := Decidable.not_not.1 he3; subst he3; obtain ⟨kv, vv, hr, ok3, re3, nw3⟩ := t1 rfl; subst hr; obtain ⟨a8, m8, c8, hu8, _⟩ := id ok3.key; subst hu8; obtain ⟨a9, m9, c9, hu9, _⟩ := id ok3.val; subst hu9; have HT3 := hide t3; have HOK3 := hide ok3; have HRE3 := hide re3; have HNW3 := hide nw3; have HO3 := hide (((unhide HO).old ((Kept.refl [b] wr).drew.trans t3 (by simp) : Kept [b] wr w3) (by intro x hx; rw [List.mem_singleton] at hx; subst hx; exact ⟨by simp, hb6⟩)).pass (M := []) ((Kept.refl [] w3).alloc (.cells #[.int .u8 (en.k : Int), .slice a8 m8 c8, .slice a9 m9 c9] 44)) (by simp) (by simp) (by simp)); have HB3 := hide (unhide HO3).kept.size; have HGR4 := hide (((Kept.refl [] w3).alloc (.cells #[.int .u8 (en.k : Int), .slice a8 m8 c8, .slice a9 m9 c9] 44)).heap (t3.heap (show wr.drew.heap[w1.heap.size]? = _ from unhide HG) (by simpa using hneg)) (by simp)); have HNG4 := hide (by intro hm9; have h9 := (unhide HO3).own.lt w1.heap.size (by simpa using hm9); omega : w1.heap.size ∉ vE.ownBlock.toList); have HK45 := hide (fun w5 (hg : Hid ((w3.alloc (.cells #[.int .u8 (en.k : Int), .slice a8 m8 c8, .slice a9 m9 c9] 44)).grownBy w5 vE.ownBlock)) => (Kept.refl vE.ownBlock.toList _).grown (unhide hg) (by intro k hk; left; simp [hk])); have d1 := t3.cell (unhide HC1) (by simpa using hneg); have d2 : ∀ ob, (w3.alloc ob).cell? ⟨w1.heap.size, 1, none⟩ = some vE := fun ob => ((Kept.refl [] w3).alloc ob).cell d1 (by simp); clear t1 t2 t3 ok3 re3 nw3; simp only [enC]))
      all_goals
        go_wp2
        refine ⟨⟨j + 1, i3, .slice (some ⟨g, 0, none⟩) (ts.length + 1) cap, ts ++ [(en, .slice a8 m8 c8, .slice a9 m9 c9)], by omega, by go_num, hide (by rw [List.length_append, unhide HJ]; rfl), hide ?_, hide ?_, hide ?_, hide ?_, hide ?_⟩, ?_⟩
        · rw [hmm, unhide HTN, unhide HTU, if_neg (by simp)]; simp
        · have k1 := ((Kept.refl [] w3).alloc (.cells #[.int .u8 (en.k : Int), .slice a8 m8 c8, .slice a9 m9 c9] 44))
          have k2 := unhide HK45 w5 HG5
          have r1 := (unhide HRE3).kept k1 (by simp) (by simp)
          have r2 := r1.kept k2 (fun hm9 => by have h9 := (unhide HO3).own.lt b (by simpa using hm9); omega) (fun x hx hm9 => by have h9 := (unhide HO3).own.lt x (by simpa using hm9); have h8 := hgv x hx; omega)
          exact r2.kept ((Kept.refl [w1.heap.size] w5).setCell (p := ⟨w1.heap.size, 1, none⟩) (Or.inl (by simp)) _) (by simp; omega) (fun x hx => by simp; have h8 := hgv x hx; omega)
        · exact heap_setCell_same w5 w1.heap.size 1 _ 37 _ (unhide HGR5)
        · have k1 := ((Kept.refl [] w3).alloc (.cells #[.int .u8 (en.k : Int), .slice a8 m8 c8, .slice a9 m9 c9] 44))
          have z1 := (unhide HT3).heap (show wr.drew.heap[w.heap.size]? = _ from unhide HZR) (by simpa using hne0)
          have z2 := k1.heap z1 (by simp)
          have z3 := (unhide HK45 w5 HG5).heap z2 (fun hm9 => by have h9 := (unhide HO3).own.lt w.heap.size (by simpa using hm9); omega)
          exact ((Kept.refl [w1.heap.size] w5).setCell (p := ⟨w1.heap.size, 1, none⟩) (Or.inl (by simp)) _).heap z3 (by simp; omega)
        · have o5 := (unhide HO3).push ((unhide HOK3).old ((Kept.refl [] w3).alloc _)) (fun b' hb' => by
            have h9 : wr.heap.size ≤ b' := by
              rcases hb' with hb' | hb'
              · exact unhide HNW3 b' (Or.inl (mem_nblk hb').1)
              · exact unhide HNW3 b' (Or.inr (mem_nblk hb').1)
            have h8 := unhide HHS
            exact ⟨fun e => by have h7 := ((unhide HO).own.lt b' e).2; omega, by omega⟩) (unhide HO5) (unhide HG5) (unhide HA5)
          refine o5.pass ((Kept.refl [w1.heap.size] w5).setCell (p := ⟨w1.heap.size, 1, none⟩) (Or.inl (by simp)) _) (by simp) (fun x hx e => ?_) (fun x hx t ht => ⟨fun hb' => ?_, fun hb' => ?_⟩)
          · have h9 := (o5.own.lt x e).1; rw [List.mem_singleton] at hx; omega
          · have h9 := (o5.apart t ht x (Or.inl hb')).2; rw [List.mem_singleton] at hx; omega
          · have h9 := (o5.apart t ht x (Or.inr hb')).2; rw [List.mem_singleton] at hx; omega
        · simp [intOf]; omega
    · have hlt' : ¬ (j : Int) < n := by omega
      have hjn : j = n := by omega
      subst hjn
      rw [Nat.sub_self] at HTN
      have HT3 := hide (by rw [unhide HT2, unhide HTN]; simp [takeN] : T = (f, ts.map (·.1), ij, 0))
      have HK9 := hide ((unhide HK2).trans (unhide HO).kept (by intro x hx; simp at hx; rcases hx with rfl | rfl; left; simp; right; omega))
      obtain ⟨aE, mE, cE, hvE⟩ : ∃ aE mE cE, vE = .slice aE mE cE := by
        rcases (unhide HO).own.2 with ⟨rfl, _⟩ | ⟨g, cap, cur, rfl, _⟩
        · exact ⟨_, _, _, rfl⟩
        · exact ⟨_, _, _, rfl⟩
      subst hvE
      have krow := (Kept.refl [w.heap.size] wr).setRowE (g := w.heap.size) (Or.inl (by simp)) #[.int .u64 (f : Int), .slice aE mE cE]
      have HOR := hide (((unhide HO).mono (M := [b, w1.heap.size, w.heap.size]) (by intro x hx; simp at hx; rcases hx with rfl | rfl <;> simp)).pass krow (by simp) (fun x hx e => by have h9 := ((unhide HO).own.lt x e).1; rw [List.mem_singleton] at hx; omega) (fun x hx t ht => ⟨fun hb' => by have h9 := ((unhide HO).apart t ht x (Or.inl hb')).2; rw [List.mem_singleton] at hx; omega, fun hb' => by have h9 := ((unhide HO).apart t ht x (Or.inr hb')).2; rw [List.mem_singleton] at hx; omega⟩))
      have HRR := hide ((unhide HR).kept krow (by simp; omega) (fun x hx => by simp; have h9 := hgv x hx; omega))
      clear krow
      go_wp2_with (first
        | (refine wpList_load_row rfl 37 _ rfl w1.heap.size rfl _ #[.int .u64 (f : Int), .slice aE mE cE] (0, 0) _ (unhide HG) Tryz.underlying37 rfl Tryz.size_batch ?_)
        | (refine wpList_store_row rfl 37 _ _ rfl w.heap.size #[.int .u64 (f : Int), .slice aE mE cE] rfl rfl _ #[.int .u64 0, .slice none 0 0] (unhide HZR) Tryz.size_batch rfl (by simp [Value.oneCell']) ?_))
      refine bodyPost_ret (v := .agg #[.int .u64 (f : Int), .slice aE mE cE]) ?_ rfl ⟨fun _ => ⟨.slice aE mE cE, by rw [unhide HT3], ?_, ?_⟩, fun h => absurd (by rw [unhide HT3]) h, (unhide HK9).setRowE (Or.inr (Nat.le_refl _)) _⟩
      · exact results_cell_row rfl _ _ w.heap.size _ #[.int .u64 (f : Int), .slice aE mE cE] (0, 0) _ rfl (setRow_heap _ _ _ _ _ _ (unhide HZR)) Tryz.underlying37 rfl Tryz.size_batch
      · rw [unhide HT3]; exact ⟨_, w6, ts, rfl, unhide HOR, by omega⟩
      · rw [unhide HT3]; exact unhide HRR
end Go.Proofs.YtckkalmhekfnhabGreatDoor
