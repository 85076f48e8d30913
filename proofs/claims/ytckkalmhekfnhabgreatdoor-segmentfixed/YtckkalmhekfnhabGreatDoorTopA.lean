import Derived.Test.YtckkalmhekfnhabGreatDoorEOwn
import Derived.Deep.RegionLaw
import Derived.StillTail
import Derived.Deep.QuietTactic
import Derived.BigQuiet
import Derived.Laws.Rows
import Derived.Test.YtckkalmhekfnhabGreatDoorBase
import Derived.Laws.StructEq
import Derived.BigFrame
import Derived.Deep.MidRow
import Derived.Lib.SlBytesConst
import Derived.Test.YtckkalmhekfnhabGreatDoorSNum
import Derived.Test.YtckkalmhekfnhabGreatDoorFEnc
import Derived.Test.YtckkalmhekfnhabGreatDoorAApp
import Derived.Laws.ShiftsVarLaws
namespace Go.Proofs.YtckkalmhekfnhabGreatDoor
open Go.RowKit Go.BigFrame
set_option linter.unusedVariables false
set_option linter.unusedSimpArgs false

theorem rUvar_lt (p : List Nat) (i e : Nat) : (rUvar p i e).1 < 18446744073709551616 := by
  unfold rUvar
  split
  · show (0 : Nat) < _; omega
  · split
    · show (0 : Nat) < _; omega
    · exact fuv_lt _ 0 0 (by decide) (by decide)
theorem step_pushN {ops : Array Oper} {o : Oper} {a : Act} {K : Act → World → Prop} {Q : Exit → Act → World → Prop} {F : Prop} (hgd : o.guard = none) (s x : Operand)
    (ho : o.op = .call { callee := .builtin .append, args := #[s, x], argTypes := #[35, 35] }) (hty : o.type = 35)
    (w : World) (base : Nat) (v : Value) (ts : List (En × Value × Value)) (e : En) (y z : Value) (H : Nat) (h : w.ownsRow base 44 3 v ts.length (cellsN ts)) (hnew : w.heap[H]? = some (.cells #[.int .u8 (e.k : Int), y, z] 44 (0, 0))) (hy : y.oneCell' = true) (hz : z.oneCell' = true) (hl : ts.length + 1 ≤ 1000000000) (hb : base ≤ w.heap.size)
    (hs : a.eval s = v) (hx : a.eval x = .slice (some ⟨H, 0, none⟩) 1 1)
    (hK : ∀ g cap w1, Hid (w1.ownsRow base 44 3 (.slice (some ⟨g, 0, none⟩) (ts.length + 1) cap) (ts.length + 1) (cellsN ts ++ [.int .u8 (e.k : Int), y, z])) → Hid (w.grownBy w1 v.ownBlock) → Hid (v.ownBlock = some g ∨ g = w.heap.size) →
      K (a.put o.dst (.slice (some ⟨g, 0, none⟩) (ts.length + 1) cap)) w1) :
    if Region.wanted o (yielded ops a.tmps) = true then Oper.wp Tryz.prog o a w K Q else F := by
  obtain ⟨g, cap, w1, hrun, h2, h3, h4⟩ := pushN w base v ts e y z H h hnew hy hz hl hb
  have hw : Region.wanted o (yielded ops a.tmps) = true := by simp [Region.wanted, hgd]
  rw [if_pos hw]
  unfold Oper.wp execOp
  simp only [ho, hty, resolve, invoke, builtin, Sem.run_bind, Sem.run_pure, Result.andThen_ok, List.map_toArray, List.map_cons, List.map_nil, hs, hx, hrun]
  exact hK g cap w1 h2 h3 h4
def TookB (w w' : World) (b : Nat) (gv : Value) (p : List Nat) (x : Nat × List En × Nat × Nat) (r : Ending) : Prop :=
  (x.2.2.2 = 0 → ∃ v, r = .returned (.agg #[.int .u64 (x.1 : Int), v]) ∧ NewN w.heap.size w' v x.2.1 ∧ ReAt w' b gv p x.2.2.1 0) ∧ (x.2.2.2 ≠ 0 → r = .panicked (gave x.2.2.2)) ∧ Kept [b] w w'
theorem Tryz.size_batch : (Tryz.prog.info? 37).map (·.size) = some 2 := by kernel_rfl

set_option maxRecDepth 100000 in
set_option maxHeartbeats 2000000 in
theorem takeBatch_any (b : Nat) (gv : Value) (p : List Nat) (i : Nat) (w : World) (h : ReAt w b gv p i 0) (hgv : ∀ x ∈ blk gv, x < w.heap.size) :
    Calls Tryz.prog 115 #[.pointer (some ⟨b, 0, none⟩)] w fun r w' => TookB w w' b gv p (takeB p i) r := by
  have H := hide h
  have hblt := h.lt
  obtain ⟨T, hT⟩ : ∃ T, takeB p i = T := ⟨_, rfl⟩
  rw [hT]
  have HT := hide hT
  unfold takeB at HT
  clear hT h
  have HZ := hide (heap_alloc_new w (.cells #[.int .u64 0, .slice none 0 0] 37))
  have HK0 := hide ((Kept.refl [b] w).alloc (.cells #[.int .u64 0, .slice none 0 0] 37))
  have HR0 := hide ((unhide H).kept ((Kept.refl [] w).alloc (.cells #[.int .u64 0, .slice none 0 0] 37)) (by simp) (by simp))
  have hfl := rUvar_lt p i 0
  go_enter Tryz.func115, Tryz.ntmps115
  go_wp2_with fail
  refine Calls.mono (ruvar_any b gv p i 0 _ (unhide HR0)) ?_
  rintro r w1 ⟨rfl, r1, k1⟩
  have hne0 : w.heap.size ≠ b := by omega
  have HZ1 := hide (k1.heap (unhide HZ) (by simpa using hne0))
  have HK1 := hide ((unhide HK0).trans k1 (by simp))
  obtain ⟨x, hx⟩ : ∃ x, rUvar p i 0 = x := ⟨_, rfl⟩
  rw [hx] at HT r1 hfl ⊢
  clear hx
  obtain ⟨f, i1, e1⟩ := x
  simp only at HT r1 hfl ⊢
  have HR1 := hide r1
  clear r1 k1
  have hs1' : w.heap.size < w1.heap.size := lt_of_block (unhide HZ1)
  have hcl := rUvar_lt p i1 e1
  have HKA := hide ((unhide HK1).alloc (.cells #[.int .u64 (f : Int), .slice none 0 0] 37))
  have HRA := hide ((unhide HR1).kept ((Kept.refl [] w1).alloc (.cells #[.int .u64 (f : Int), .slice none 0 0] 37)) (by simp) (by simp))
  have HGA := hide (heap_alloc_new w1 (.cells #[.int .u64 (f : Int), .slice none 0 0] 37))
  have HZA := hide (((Kept.refl [] w1).alloc (.cells #[.int .u64 (f : Int), .slice none 0 0] 37)).heap (unhide HZ1) (by simp))
  have HSA := hide (show (w1.alloc (.cells #[.int .u64 (f : Int), .slice none 0 0] 37)).heap.size = w1.heap.size + 1 by simp)
  go_wp2_with fail
  obtain ⟨WA, hWA⟩ : ∃ W, w1.alloc (.cells #[.int .u64 (f : Int), .slice none 0 0] 37) = W := ⟨_, rfl⟩
  rw [hWA] at HKA HRA HGA HZA HSA ⊢
  clear hWA
  have hneg : w1.heap.size ≠ b := by omega
  refine Calls.mono (ruvar_any b gv p i1 e1 WA (unhide HRA)) ?_
  rintro r w2 ⟨rfl, r2, k2⟩
  obtain ⟨x, hx⟩ : ∃ x, rUvar p i1 e1 = x := ⟨_, rfl⟩
  rw [hx] at HT r2 hcl ⊢
  clear hx
  obtain ⟨n, i2, e2⟩ := x
  simp only at HT r2 hcl ⊢
  have HR2 := hide r2
  have HG2 := hide (k2.heap (unhide HGA) (by simpa using hneg))
  have HZ2 := hide (k2.heap (unhide HZA) (by simpa using hne0))
  have HK2 := hide ((unhide HKA).trans k2 (by simp))
  have HKW2 := hide k2
  clear r2 k2
  go_wp2_with fail
  refine Calls.mono (rerr_any b gv p i2 e2 w2 (unhide HR2)) ?_
  rintro r w3 ⟨rfl, rfl⟩
  by_cases hE : e2 ≠ 0
  · have HT2 := hide (by rw [← unhide HT, if_pos hE] : T = (0, [], 0, e2))
    go_wp2_with fail
    refine Calls.mono (demand_bad e2 _ hE) ?_
    rintro r w6 ⟨rfl, rfl⟩
    exact ⟨rfl, fun h => absurd h (by rw [unhide HT2]; exact hE), fun _ => by rw [unhide HT2], unhide HK2⟩
  have HT1 := hide (by have h9 := unhide HT; rw [if_neg hE] at h9; exact h9)
  replace hE : e2 = 0 := Decidable.not_not.1 hE
  subst hE
  clear HT
  go_wp2_with fail
  refine Calls.mono (demand_ok _) ?_
  rintro r w4 ⟨rfl, rfl⟩
  have q0 := cell_of_row _ _ 0 _ _ _ (unhide HG2)
  go_wp2_with fail
  refine Calls.mono (checkCount_any f n _ hfl hcl) ?_
  rintro r w5 ⟨rfl, rfl⟩
  by_cases hE : cntE f n ≠ 0
  · have HT2 := hide (by rw [← unhide HT1, if_pos hE] : T = (0, [], 0, cntE f n))
    go_wp2_with fail
    refine Calls.mono (demand_bad (cntE f n) _ hE) ?_
    rintro r w6 ⟨rfl, rfl⟩
    exact ⟨rfl, fun h => absurd h (by rw [unhide HT2]; exact hE), fun _ => by rw [unhide HT2], unhide HK2⟩
  have HT2 := hide (by have h9 := unhide HT1; rw [if_neg hE] at h9; exact h9.symm)
  replace hE : cntE f n = 0 := Decidable.not_not.1 hE
  have hn64 : n ≤ 64 := by
    unfold cntE at hE
    split at hE
    · omega
    · omega
  rw [hE]
  clear HT1 hE
  go_wp2_with fail
  refine Calls.mono (demand_ok _) ?_
  rintro r w6 ⟨rfl, rfl⟩
  go_wp2_with fail
  have HW6 := hide (Kept.refl [b, w1.heap.size] w6)
  have hgb6 : w1.heap.size < w6.heap.size := lt_of_block (unhide HG2)
  have hb6 : b < w6.heap.size := by omega
  go_loopw [19] (fun t19 wr => ∃ (j ij : Nat) (vE : Value) (ts : List (En × Value × Value)), j ≤ n ∧ t19 = .int .u64 j ∧ Hid (ts.length = j) ∧ Hid (takeN p i2 n = (ts.map (·.1) ++ (takeN p ij (n - j)).1, (takeN p ij (n - j)).2)) ∧ Hid (ReAt wr b gv p ij 0) ∧ Hid (wr.heap[w1.heap.size]? = some (.cells #[.int .u64 (f : Int), vE] 37 (0, 0))) ∧
    Hid (wr.heap[w.heap.size]? = some (.cells #[.int .u64 0, .slice none 0 0] 37 (0, 0))) ∧ Hid (OwnN [b, w1.heap.size] w6 wr vE ts)) (fun t _ => n - (intOf t).toNat)
  case atStart => exact ⟨0, i2, .slice none 0 0, [], Nat.zero_le _, rfl, hide rfl, hide (by simp), HR2, HG2, HZ2, hide (OwnN.start (unhide HW6))⟩
  case round =>
    obtain ⟨j, ij, vE, ts, hj, rfl, HJ, HTN, HR, HG, HZR, HO⟩ := hrel
    by_cases hlt : j < n
    · have hlt' : (j : Int) < n := by omega
      obtain ⟨m, hm⟩ : ∃ m, n - j = m + 1 := ⟨n - j - 1, by omega⟩
      have hmm : n - (j + 1) = m := by omega
      rw [hm] at HTN
      have HHS := hide (by have h9 := lt_of_block (unhide HZR); have h8 := (unhide HO).kept.size; omega : w6.heap.size ≤ wr.heap.size)
      have HRD := hide ((unhide HR).kept (Kept.refl [] wr).drew (by simp) (by simp))
      have HGV := hide (fun x hx => by have h9 := hgv x hx; have h8 := unhide HHS; show x < wr.heap.size; omega : ∀ x ∈ blk gv, x < wr.drew.heap.size)
      have HCT := hide (takeEntry_any b gv p ij wr.drew (unhide HRD) (unhide HGV))
      have HTU := hide (show takeN p ij (m + 1) = if (takeE p ij).2.2 ≠ 0 then ([], 0, (takeE p ij).2.2) else ((takeE p ij).1 :: (takeN p (takeE p ij).2.1 m).1, (takeN p (takeE p ij).2.1 m).2) from rfl)
      obtain ⟨X, hX⟩ : ∃ X, takeE p ij = X := ⟨_, rfl⟩
      rw [hX] at HCT HTU
      clear hX
      obtain ⟨en, i3, e3⟩ := X
      simp only at HTU
      have c1 : wr.cell? ⟨w1.heap.size, 1, none⟩ = some vE := by rw [cell_of_row _ _ _ _ _ _ (unhide HG)]; rfl
      have HC1 := hide c1
      have HTB := hide (fun he : e3 ≠ 0 => by rw [unhide HT2]; show (takeN p i2 n).2.2 = e3; rw [unhide HTN, unhide HTU, if_pos he] : e3 ≠ 0 → T.2.2.2 = e3)
      have HKR := hide ((unhide HK2).trans (unhide HO).kept (by intro x hx; simp at hx; rcases hx with rfl | rfl; left; simp; right; omega))
      go_wp2_with fail
      go_region_law (first
        | (refine step_pushN rfl _ _ rfl rfl _ w6.heap.size vE ts en (.slice a8 m8 c8) (.slice a9 m9 c9) w3.heap.size (by exact (unhide HO3).own) (by exact heap_alloc_new w3 _) rfl rfl (by have := unhide HJ; omega) (by exact unhide HB3) rfl rfl ?_; intro g cap w5 HO5 HG5 HA5; have hrow5 := (unhide HK45 w5 HG5).heap (unhide HGR4) (unhide HNG4); have s5 := cell_of_row _ _ 1 _ _ _ hrow5; have z5 := frozen_of_row _ _ 1 _ _ hrow5; have HGR5 := hide hrow5; clear hrow5)
        | (go_simp; go_at_call 142; refine (unhide HCT).mono ?_; rintro r w3 ⟨t1, t2, t3⟩; by_cases he3 : e3 ≠ 0; exact (by have hr := t2 he3; subst hr; exact ⟨rfl, fun h => absurd ((unhide HTB he3).symm.trans h) he3, fun _ => by rw [unhide HTB he3], (unhide HKR).trans ((Kept.refl [b] wr).drew.trans t3 (by simp)) (by simp)⟩); replace he3 : e3 = 0 := Decidable.not_not.1 he3; subst he3; obtain ⟨kv, vv, hr, ok3, re3, nw3⟩ := t1 rfl; subst hr; obtain ⟨a8, m8, c8, hu8, _⟩ := id ok3.key; subst hu8; obtain ⟨a9, m9, c9, hu9, _⟩ := id ok3.val; subst hu9; have HT3 := hide t3; have HOK3 := hide ok3; have HRE3 := hide re3; have HNW3 := hide nw3; have HO3 := hide (((unhide HO).old ((Kept.refl [b] wr).drew.trans t3 (by simp) : Kept [b] wr w3) (by intro x hx; rw [List.mem_singleton] at hx; subst hx; exact ⟨by simp, hb6⟩)).pass (M := []) ((Kept.refl [] w3).alloc (.cells #[.int .u8 (en.k : Int), .slice a8 m8 c8, .slice a9 m9 c9] 44)) (by simp) (by simp) (by simp)); have HB3 := hide (unhide HO3).kept.size; have HGR4 := hide (((Kept.refl [] w3).alloc (.cells #[.int .u8 (en.k : Int), .slice a8 m8 c8, .slice a9 m9 c9] 44)).heap (t3.heap (show wr.drew.heap[w1.heap.size]? = _ from unhide HG) (by simpa using hneg)) (by simp)); have HNG4 := hide (by intro hm9; have h9 := (unhide HO3).own.lt w1.heap.size (by simpa using hm9); omega : w1.heap.size ∉ vE.ownBlock.toList); have HK45 := hide (fun w5 (hg : Hid ((w3.alloc (.cells #[.int .u8 (en.k : Int), .slice a8 m8 c8, .slice a9 m9 c9] 44)).grownBy w5 vE.ownBlock)) => (Kept.refl vE.ownBlock.toList _).grown (unhide hg) (by intro k hk; left; simp [hk])); have d1 := t3.cell (unhide HC1) (by simpa using hneg); have d2 : ∀ ob, (w3.alloc ob).cell? ⟨w1.heap.size, 1, none⟩ = some vE := fun ob => ((Kept.refl [] w3).alloc ob).cell d1 (by simp); clear t1 t2 t3 ok3 re3 nw3; simp only [enC]))
      all_goals
        go_wp2
        refine ⟨⟨j + 1, i3, .slice (some ⟨g, 0, none⟩) (ts.length + 1) cap, ts ++ [(en, .slice a8 m8 c8, .slice a9 m9 c9)], by omega, by go_num, hide (by rw [List.length_append, unhide HJ]; rfl), hide ?_, hide ?_, hide ?_, hide ?_, hide ?_⟩, ?_⟩
        · rw [hmm, unhide HTN, unhide HTU, if_neg (by simp)]; simp
        · have k1 := ((Kept.refl [] w3).alloc (.cells #[.int .u8 (en.k : Int), .slice a8 m8 c8, .slice a9 m9 c9] 44))
          have k2 := unhide HK45 w5 HG5
          have r1 := (unhide HRE3).kept k1 (by simp) (by simp)
          have r2 := r1.kept k2 (fun hm9 => by have h9 := (unhide HO3).own.lt b (by simpa using hm9); omega) (fun x hx hm9 => by have h9 := (unhide HO3).own.lt x (by simpa using hm9); have h8 := hgv x hx; omega)
          exact r2.kept ((Kept.refl [w1.heap.size] w5).setCell (p := ⟨w1.heap.size, 1, none⟩) (Or.inl (by simp)) _) (by simp; omega) (fun x hx => by simp; have h8 := hgv x hx; omega)
        · exact heap_setCell_same w5 w1.heap.size 1 _ 37 _ (unhide HGR5)
        · have k1 := ((Kept.refl [] w3).alloc (.cells #[.int .u8 (en.k : Int), .slice a8 m8 c8, .slice a9 m9 c9] 44))
          have z1 := (unhide HT3).heap (show wr.drew.heap[w.heap.size]? = _ from unhide HZR) (by simpa using hne0)
          have z2 := k1.heap z1 (by simp)
          have z3 := (unhide HK45 w5 HG5).heap z2 (fun hm9 => by have h9 := (unhide HO3).own.lt w.heap.size (by simpa using hm9); omega)
          exact ((Kept.refl [w1.heap.size] w5).setCell (p := ⟨w1.heap.size, 1, none⟩) (Or.inl (by simp)) _).heap z3 (by simp; omega)
        · have o5 := (unhide HO3).push ((unhide HOK3).old ((Kept.refl [] w3).alloc _)) (fun b' hb' => by
            have h9 : wr.heap.size ≤ b' := by
              rcases hb' with hb' | hb'
              · exact unhide HNW3 b' (Or.inl (mem_nblk hb').1)
              · exact unhide HNW3 b' (Or.inr (mem_nblk hb').1)
            have h8 := unhide HHS
            exact ⟨fun e => by have h7 := ((unhide HO).own.lt b' e).2; omega, by omega⟩) (unhide HO5) (unhide HG5) (unhide HA5)
          refine o5.pass ((Kept.refl [w1.heap.size] w5).setCell (p := ⟨w1.heap.size, 1, none⟩) (Or.inl (by simp)) _) (by simp) (fun x hx e => ?_) (fun x hx t ht => ⟨fun hb' => ?_, fun hb' => ?_⟩)
          · have h9 := (o5.own.lt x e).1; rw [List.mem_singleton] at hx; omega
          · have h9 := (o5.apart t ht x (Or.inl hb')).2; rw [List.mem_singleton] at hx; omega
          · have h9 := (o5.apart t ht x (Or.inr hb')).2; rw [List.mem_singleton] at hx; omega
        · simp [intOf]; omega
    · have hlt' : ¬ (j : Int) < n := by omega
      have hjn : j = n := by omega
      subst hjn
      rw [Nat.sub_self] at HTN
      have HT3 := hide (by rw [unhide HT2, unhide HTN]; simp [takeN] : T = (f, ts.map (·.1), ij, 0))
      have HK9 := hide ((unhide HK2).trans (unhide HO).kept (by intro x hx; simp at hx; rcases hx with rfl | rfl; left; simp; right; omega))
      obtain ⟨aE, mE, cE, hvE⟩ : ∃ aE mE cE, vE = .slice aE mE cE := by
        rcases (unhide HO).own.2 with ⟨rfl, _⟩ | ⟨g, cap, cur, rfl, _⟩
        · exact ⟨_, _, _, rfl⟩
        · exact ⟨_, _, _, rfl⟩
      subst hvE
      have krow := (Kept.refl [w.heap.size] wr).setRowE (g := w.heap.size) (Or.inl (by simp)) #[.int .u64 (f : Int), .slice aE mE cE]
      have HOR := hide (((unhide HO).mono (M := [b, w1.heap.size, w.heap.size]) (by intro x hx; simp at hx; rcases hx with rfl | rfl <;> simp)).pass krow (by simp) (fun x hx e => by have h9 := ((unhide HO).own.lt x e).1; rw [List.mem_singleton] at hx; omega) (fun x hx t ht => ⟨fun hb' => by have h9 := ((unhide HO).apart t ht x (Or.inl hb')).2; rw [List.mem_singleton] at hx; omega, fun hb' => by have h9 := ((unhide HO).apart t ht x (Or.inr hb')).2; rw [List.mem_singleton] at hx; omega⟩))
      have HRR := hide ((unhide HR).kept krow (by simp; omega) (fun x hx => by simp; have h9 := hgv x hx; omega))
      clear krow
      go_wp2_with (first
        | (refine wpList_load_row rfl 37 _ rfl w1.heap.size rfl _ #[.int .u64 (f : Int), .slice aE mE cE] (0, 0) _ (unhide HG) Tryz.underlying37 rfl Tryz.size_batch ?_)
        | (refine wpList_store_row rfl 37 _ _ rfl w.heap.size #[.int .u64 (f : Int), .slice aE mE cE] rfl rfl _ #[.int .u64 0, .slice none 0 0] (unhide HZR) Tryz.size_batch rfl (by simp [Value.oneCell']) ?_))
      refine bodyPost_ret (v := .agg #[.int .u64 (f : Int), .slice aE mE cE]) ?_ rfl ⟨fun _ => ⟨.slice aE mE cE, by rw [unhide HT3], ?_, ?_⟩, fun h => absurd (by rw [unhide HT3]) h, (unhide HK9).setRowE (Or.inr (Nat.le_refl _)) _⟩
      · exact results_cell_row rfl _ _ w.heap.size _ #[.int .u64 (f : Int), .slice aE mE cE] (0, 0) _ rfl (setRow_heap _ _ _ _ _ _ (unhide HZR)) Tryz.underlying37 rfl Tryz.size_batch
      · rw [unhide HT3]; exact ⟨_, w6, ts, rfl, unhide HOR, by omega⟩
      · rw [unhide HT3]; exact unhide HRR
end Go.Proofs.YtckkalmhekfnhabGreatDoor
namespace Go.Proofs.YtckkalmhekfnhabGreatDoor
open Go.RowKit Go.BigFrame
set_option linter.unusedVariables false
set_option linter.unusedSimpArgs false

theorem eput2_heap {w : World} {g : Nat} {a b : Value} {t : TypeId} (h : w.heap[g]? = some (.cells #[a, b] t (0, 0))) (x y : Value) : ((w.setCell ⟨g, 0, none⟩ x).setCell ⟨g, 1, none⟩ y).heap[g]? = some (.cells #[x, y] t (0, 0)) := by
  rw [heap_setCell_same _ g 1 _ t _ (heap_setCell_same w g 0 _ t _ h)]; rfl
theorem eput2_kept {L : List Nat} {w0 w : World} (k : Kept L w0 w) (g : Nat) (hg : g ∈ L ∨ w0.heap.size ≤ g) (x y : Value) : Kept L w0 ((w.setCell ⟨g, 0, none⟩ x).setCell ⟨g, 1, none⟩ y) := (k.setCell hg x).setCell hg y

set_option maxRecDepth 100000 in
theorem catchB_idle (ge gf : Nat) (w : World) :
    CallsD Tryz.prog 112 #[.pointer (some ⟨ge, 0, none⟩), .pointer (some ⟨gf, 0, none⟩)] .returning w fun e u' w' => e = .returned (.tuple #[]) ∧ u' = .returning ∧ w' = w := by
  refine callsD_of_wpS Tryz.func112 rfl fun c₀ cs hu => ?_
  apply wpS_seq
  apply wpS_region
  simp [wpOpsS, go_sem, recoverD, hu, Tryz.ntmps112, Exit.thenS]
  refine wpS_of_wp ?_
  go_wp2
  cases c₀
  simp_all [bodyPostS, results, Tryz.results112]

set_option maxRecDepth 100000 in
theorem catchB_gave (f ge gf : Nat) (w : World) (a b x : Value) (he : w.heap[ge]? = some (.cells #[a, b] 37 (0, 0))) (hf : w.heap[gf]? = some (.cells #[x] 26 (0, 0))) (hne : ge ≠ gf) :
    CallsD Tryz.prog 112 #[.pointer (some ⟨ge, 0, none⟩), .pointer (some ⟨gf, 0, none⟩)] (.panicking (gave f)) w fun e u' w' => e = .returned (.tuple #[]) ∧ u' = .panicking [{ v := .iface 199 (.agg #[.int .i64 (f : Int)]), recovered := true }] ∧
      (w'.heap[ge]? = some (.cells #[.int .u64 0, .slice none 0 0] 37 (0, 0)) ∧ w'.heap[gf]? = some (.cells #[.int .i64 (f : Int)] 26 (0, 0)) ∧ Kept [ge, gf] w w') := by
  have HE := hide he
  have HF := hide hf
  clear he hf
  unfold gave
  refine callsD_of_wpS Tryz.func112 rfl fun c₀ cs hu => ?_
  apply wpS_seq
  apply wpS_region
  simp [wpOpsS, go_sem, recoverD, hu, Tryz.ntmps112, Exit.thenS]
  refine wpS_of_wp ?_
  go_wp2_with fail
  refine Calls.mono (reason_any f w) ?_
  rintro r w1 ⟨rfl, k1⟩
  have HE1 := hide (k1.heap (unhide HE) (by simp))
  have HF1 := hide (k1.heap (unhide HF) (by simp))
  have HK1 := hide k1
  clear k1
  have s0 := cell_of_row _ _ 0 _ _ _ (unhide HE1)
  have s1 := cell_of_row _ _ 1 _ _ _ (unhide HE1)
  have t0 := cell_of_row _ _ 0 _ _ _ (unhide HF1)
  have f0 := frozen_of_row _ _ 0 _ _ (unhide HE1)
  have f1 := frozen_of_row _ _ 1 _ _ (unhide HE1)
  have g0 := frozen_of_row _ _ 0 _ _ (unhide HF1)
  have hne' : gf ≠ ge := fun h => hne h.symm
  have HG1 := hide (eput2_heap (unhide HE1) (.int .u64 0) (.slice none 0 0))
  have kp := eput2_kept (Kept.refl [ge] w1) ge (Or.inl (by simp)) (.int .u64 0) (.slice none 0 0)
  have HG2 := hide (heap_setCell_same _ gf 0 _ 26 (.int .i64 (f : Int)) (kp.heap (unhide HF1) (by simpa using hne')))
  have HG3 := hide (((Kept.refl [gf] _).setCell (p := ⟨gf, 0, none⟩) (Or.inl (by simp)) (.int .i64 (f : Int))).heap (unhide HG1) (by simpa using hne))
  have HK2 := hide ((eput2_kept ((unhide HK1).mono (M := [ge, gf]) (by simp)) ge (Or.inl (by simp)) (.int .u64 0) (.slice none 0 0)).setCell (p := ⟨gf, 0, none⟩) (Or.inl (by simp)) (.int .i64 (f : Int)))
  clear kp
  go_wp2
  cases c₀
  simp_all [bodyPostS, results, Tryz.results112]
  exact ⟨unhide HG3, unhide HG2, unhide HK2⟩
def decB (p : List Nat) : Nat × List En × Nat :=
  if (takeB p 0).2.2.2 ≠ 0 then (0, [], (takeB p 0).2.2.2) else if doneE p (takeB p 0).2.2.1 0 ≠ 0 then (0, [], doneE p (takeB p 0).2.2.1 0) else ((takeB p 0).1, (takeB p 0).2.1, 0)

set_option maxRecDepth 100000 in
set_option maxHeartbeats 2000000 in
theorem decodeBatch_any (v : Value) (p : List Nat) (w : World) (h : Rd w v p) :
    Calls Tryz.prog 72 #[v] w fun r w' => ∃ bv, r = .returned (.tuple #[.agg #[.int .u64 ((decB p).1 : Int), bv], .int .i64 (decB p).2.2]) ∧ NewN w.heap.size w' bv (decB p).2.1 ∧ Kept [] w w' := by
  have H := hide h
  clear h
  obtain ⟨D, hD⟩ : ∃ D, decB p = D := ⟨_, rfl⟩
  rw [hD]
  have HD := hide hD
  unfold decB at HD
  clear hD
  have hmf : ∀ (fn : Fn) (first cap : Array Value) (w : World), (Instr.makeFunc fn first cap).run Tryz.prog w = .ok (.func fn first cap) w := fun _ _ _ _ => rfl
  have HE := hide (((Kept.refl [] (w.alloc (.cells #[.int .u64 0, .slice none 0 0] 37))).alloc (.cells #[.int .i64 0] 26)).heap (heap_alloc_new w (.cells #[.int .u64 0, .slice none 0 0] 37)) (by simp))
  have HF := hide (alloc_at w (.cells #[.int .u64 0, .slice none 0 0] 37) (.cells #[.int .i64 0] 26))
  have HK0 := hide (((Kept.refl [] w).alloc (.cells #[.int .u64 0, .slice none 0 0] 37)).alloc (.cells #[.int .i64 0] 26))
  have HS0 := hide (show ((w.alloc (.cells #[.int .u64 0, .slice none 0 0] 37)).alloc (.cells #[.int .i64 0] 26)).heap.size = w.heap.size + 2 by simp)
  go_enter_defers Tryz.func72, Tryz.ntmps72
  go_wp2_with fail
  refine Calls.mono (newReader_any v p _ ((unhide H).old (unhide HK0) (by simp))) ?_
  rintro r w1 ⟨b, gv, rfl, hb, r1, g1, k1⟩
  rw [unhide HS0] at hb
  have HG1 := hide (fun x hx => by have h9 := g1 x hx; rw [unhide HS0] at h9; exact h9 : ∀ x ∈ blk gv, w.heap.size + 2 ≤ x ∧ x < w1.heap.size)
  have HE1 := hide (k1.heap (unhide HE) (by simp))
  have HF1 := hide (k1.heap (unhide HF) (by simp))
  have HK1 := hide ((unhide HK0).trans k1 (by simp))
  have HR1 := hide r1
  clear r1 g1 k1
  go_wp2_with fail
  refine Calls.mono (takeBatch_any b gv p 0 w1 (unhide HR1) (fun x hx => (unhide HG1 x hx).2)) ?_
  rintro r w2 ht
  obtain ⟨T, hT⟩ : ∃ T, takeB p 0 = T := ⟨_, rfl⟩
  rw [hT] at HD ht
  clear hT
  obtain ⟨ff, es, i2, f2⟩ := T
  simp only at HD
  obtain ⟨t1, t2, t3⟩ := ht
  simp only at t1 t2
  have HE2 := hide (t3.heap (unhide HE1) (by simp; omega))
  have HF2 := hide (t3.heap (unhide HF1) (by simp; omega))
  have HK2 := hide ((unhide HK1).trans t3 (by simp; omega))
  clear t3
  by_cases hf2 : f2 ≠ 0
  · have hr := t2 hf2
    subst hr
    have HD2 := hide (by rw [← unhide HD, if_pos hf2] : D = (0, [], f2))
    clear t1 t2 HD
    go_wp2
    refine leaves_cons (f := 112) (args := #[.pointer (some ⟨w.heap.size, 0, none⟩), .pointer (some ⟨w.heap.size + 1, 0, none⟩)]) (by simp) (by simp [go_sem]) ?_
    refine (catchB_gave f2 w.heap.size (w.heap.size + 1) w2 _ _ _ (unhide HE2) (unhide HF2) (by omega)).mono ?_
    rintro e u' w3 ⟨rfl, rfl, h1, h2, k3⟩
    have HE3 := hide h1
    have HF3 := hide h2
    clear h1 h2
    show Leaves _ _ _ _ [] .returning w3
    refine ⟨.tuple #[.agg #[.int .u64 0, .slice none 0 0], .int .i64 (f2 : Int)], ?_, ?_⟩
    · exact results_cell_cell rfl _ _ w.heap.size (w.heap.size + 1) _ _ _ _ _ _ .i64 _ rfl (unhide HE3) rfl (unhide HF3) Tryz.underlying37 rfl Tryz.size_batch Tryz.underlying26
    · refine ⟨.slice none 0 0, by rw [unhide HD2]; rfl, by rw [unhide HD2]; exact NewN.nil _ _ ((unhide HK2).trans k3 (by simp)).size, (unhide HK2).trans k3 (by simp)⟩
  replace hf2 : f2 = 0 := Decidable.not_not.1 hf2
  obtain ⟨bv, hr, ok2, re2⟩ := t1 hf2
  subst hr
  have HD1 := hide (by have h9 := unhide HD; rw [if_neg (by simpa using hf2)] at h9; exact h9)
  clear t1 t2 HD hf2
  obtain ⟨a3, m3, c3, kf, vf, hu3, _⟩ := id ok2.rdN
  subst hu3
  have HO2 := hide ok2
  have HR2 := hide re2
  clear ok2 re2
  have hw1 : w.heap.size + 2 ≤ w1.heap.size := by have h9 := lt_of_block (unhide HF1); omega
  have kst := (Kept.refl [w.heap.size] w2).setRowE (g := w.heap.size) (Or.inl (by simp)) #[.int .u64 (ff : Int), .slice a3 m3 c3]
  have HE3 := hide (setRow_heap w2 w.heap.size _ #[.int .u64 (ff : Int), .slice a3 m3 c3] 37 (0, 0) (unhide HE2))
  have HF3 := hide (kst.heap (unhide HF2) (by simp))
  have HK3 := hide ((unhide HK2).setRowE (g := w.heap.size) (Or.inr (Nat.le_refl _)) #[.int .u64 (ff : Int), .slice a3 m3 c3])
  have HR3 := hide ((unhide HR2).kept kst (by simp; omega) (fun x hx => by simp; have h9 := unhide HG1 x hx; omega))
  have HO3 := hide ((unhide HO2).kept kst (by simp; omega))
  clear kst
  obtain ⟨A, hA⟩ : ∃ A : Array Value, #[.int .u64 (ff : Int), .slice a3 m3 c3] = A := ⟨_, rfl⟩
  have HA := hide hA
  have HSZ := hide (by rw [← hA]; exact Tryz.size_batch : (Tryz.prog.info? 37).map (·.size) = some A.size)
  have HS3 := hide (by rw [← hA]; rfl : A.size = 2)
  have HON := hide (by rw [← hA]; simp [Value.oneCell'] : A.all (·.oneCell') = true)
  rw [hA] at HE3 HF3 HK3 HR3 HO3 ⊢
  clear hA
  go_wp2_with (refine wpList_store_row rfl 37 _ _ rfl w.heap.size A rfl rfl _ _ (unhide HE2) (unhide HSZ) (unhide HS3).symm (unhide HON) ?_)
  obtain ⟨W3, hW3⟩ : ∃ W, w2.setRow w.heap.size A = W := ⟨_, rfl⟩
  rw [hW3] at HE3 HF3 HK3 HR3 HO3 ⊢
  clear hW3
  refine Calls.mono (rdone_any b gv p i2 0 W3 (unhide HR3)) ?_
  rintro r w4 ⟨rfl, n4, rfl⟩
  obtain ⟨d, hd⟩ : ∃ d, doneE p i2 0 = d := ⟨_, rfl⟩
  rw [hd] at HD1 ⊢
  clear hd
  have k4 := (Kept.refl [] W3).drewN n4
  have HE4 := hide (k4.heap (unhide HE3) (by simp))
  have HF4 := hide (k4.heap (unhide HF3) (by simp))
  have HK4 := hide ((unhide HK3).trans k4 (by simp))
  have HO4 := hide ((unhide HO3).kept k4 (by simp))
  clear k4
  by_cases hd0 : d ≠ 0
  · have HD2 := hide (by rw [← unhide HD1, if_pos hd0] : D = (0, [], d))
    clear HD1
    go_wp2_with fail
    refine Calls.mono (demand_bad d _ hd0) ?_
    rintro r w5 ⟨rfl, rfl⟩
    clear hd0
    refine leaves_cons (f := 112) (args := #[.pointer (some ⟨w.heap.size, 0, none⟩), .pointer (some ⟨w.heap.size + 1, 0, none⟩)]) (by simp) (by simp [go_sem]) ?_
    refine (catchB_gave d w.heap.size (w.heap.size + 1) _ _ _ _ (by have h9 := unhide HE4; rw [← unhide HA] at h9; exact h9) (unhide HF4) (by omega)).mono ?_
    rintro e u' w6 ⟨rfl, rfl, h1, h2, k3⟩
    show Leaves _ _ _ _ [] .returning w6
    refine ⟨.tuple #[.agg #[.int .u64 0, .slice none 0 0], .int .i64 (d : Int)], ?_, ?_⟩
    · exact results_cell_cell rfl _ _ w.heap.size (w.heap.size + 1) _ _ _ _ _ _ .i64 _ rfl h1 rfl h2 Tryz.underlying37 rfl Tryz.size_batch Tryz.underlying26
    · refine ⟨.slice none 0 0, by rw [unhide HD2]; rfl, by rw [unhide HD2]; exact NewN.nil _ _ ((unhide HK4).trans k3 (by simp)).size, (unhide HK4).trans k3 (by simp)⟩
  replace hd0 : d = 0 := Decidable.not_not.1 hd0
  have HD2 := hide (by rw [← unhide HD1, if_neg (by simpa using hd0)] : D = (ff, es, 0))
  clear HD1
  subst hd0
  go_wp2_with fail
  refine Calls.mono (demand_ok _) ?_
  rintro r w5 ⟨rfl, rfl⟩
  obtain ⟨W4, hW4⟩ : ∃ W, W3.drewN n4 = W := ⟨_, rfl⟩
  rw [hW4] at HE4 HF4 HK4 HO4 ⊢
  clear hW4
  have kst := (Kept.refl [w.heap.size] W4).setRowE (g := w.heap.size) (Or.inl (by simp)) A
  have HE5 := hide (setRow_heap W4 w.heap.size _ A 37 (0, 0) (unhide HE4))
  have HF5 := hide (kst.heap (unhide HF4) (by simp))
  have HK5 := hide ((unhide HK4).setRowE (g := w.heap.size) (Or.inr (Nat.le_refl _)) A)
  have HO5 := hide ((unhide HO4).kept kst (by simp; omega))
  clear kst
  have z0 := cell_of_row _ _ 0 _ _ _ (unhide HF5)
  have zf := frozen_of_row _ _ 0 _ _ (unhide HF5)
  go_wp2_with (first
    | (refine wpList_load_row rfl 37 _ rfl w.heap.size rfl _ A (0, 0) _ (unhide HE4) Tryz.underlying37 rfl (unhide HSZ) ?_)
    | (refine wpList_store_row rfl 37 _ _ rfl w.heap.size A rfl rfl _ _ (unhide HE4) (unhide HSZ) rfl (unhide HON) ?_))
  have kc := (Kept.refl [w.heap.size + 1] (W4.setRow w.heap.size A)).setCell (p := ⟨w.heap.size + 1, 0, none⟩) (Or.inl (by simp)) (.int .i64 0)
  refine leaves_cons (f := 112) (args := #[.pointer (some ⟨w.heap.size, 0, none⟩), .pointer (some ⟨w.heap.size + 1, 0, none⟩)]) (by simp) (by simp [go_sem]) ?_
  refine (catchB_idle w.heap.size (w.heap.size + 1) _).mono ?_
  rintro e u' w6 ⟨rfl, rfl, rfl⟩
  refine ⟨.tuple #[.agg A, .int .i64 0], ?_, ?_⟩
  · exact results_cell_cell rfl _ _ w.heap.size (w.heap.size + 1) _ _ _ _ _ _ .i64 _ rfl (kc.heap (unhide HE5) (by simp)) rfl (heap_setCell_same _ (w.heap.size + 1) 0 _ 26 (.int .i64 0) (unhide HF5)) Tryz.underlying37 rfl (unhide HSZ) Tryz.underlying26
  · refine ⟨.slice a3 m3 c3, by rw [unhide HD2, ← unhide HA]; rfl, ?_, (unhide HK5).setCell (p := ⟨w.heap.size + 1, 0, none⟩) (Or.inr (by show w.heap.size ≤ w.heap.size + 1; omega)) _⟩
    rw [unhide HD2]
    exact ((unhide HO5).kept kc (by simp; omega)).weak (by omega)
end Go.Proofs.YtckkalmhekfnhabGreatDoor
/-
  A drawn region whose first n operations only read (calls that only read among them) and whose others stand in one row behind them: one walk in the text's order.
-/
namespace Go.Proofs.YtckkalmhekfnhabGreatDoor
open Go

section
variable {P : Program} {ops : Array Oper} {md : Region.Mode} {C : World → Prop}

/-- Whatever head operation comes up next, it is quiet; behind f of them stands L. -/
def AnyHead (P : Program) (md : Region.Mode) (ops : Array Oper) (C : World → Prop) (n : Nat) (L : Array Bool → Act → Prop) : Nat → Array Bool → Act → Prop
  | 0, d, a => L d a
  | f + 1, d, a => Region.ready md ops d ≠ [] ∧ ∀ i ∈ Region.ready md ops d, i < n ∧ qOp P ops C i (AnyHead P md ops C n L f (d.setIfInBounds i true)) a

theorem AnyHead.any {n g : Nat} {L : Array Bool → Act → Prop} {Q : Exit → Act → World → Prop} (hL : ∀ d a w, C w → L d a → wpAny P md ops Q g d a w) :
    ∀ (f : Nat) (d : Array Bool) (a : Act) (w : World), C w → AnyHead P md ops C n L f d a → wpAny P md ops Q (f + g) d a w := by
  intro f
  induction f with
  | zero => intro d a w hw h; rw [Nat.zero_add]; exact hL d a w hw h
  | succ f ih =>
    intro d a w hw h
    rw [Nat.add_right_comm]
    exact ⟨fun h0 => absurd h0 h.1, fun i hi => wpOp_of_qOp hw (fun a' w' hw' h' => ih _ a' w' hw' h') (h.2 i hi).2⟩

/-- A quiet head operation that is ready may be taken first. -/
theorem AnyHead.first {n i : Nat} {oi : Oper} {v : Value} {L : Array Bool → Act → Prop} (hi : ops[i]? = some oi) (hsel : ∀ (j : Nat) (o : Oper) cs b, ops[j]? = some o → o.op ≠ .select cs b)
    (hs : Region.sinkB md ops n = true) (hc : Region.chainB md ops n = true) (hn : n < ops.size) (hin : i < n) (hdone : ∀ d a, L d a → ∀ j ∈ Region.ready md ops d, n ≤ j) (f : Nat) :
    ∀ (d : Array Bool) (a : Act), HeadInv md ops n d →
      (∀ j oj, ops[j]? = some oj → j ≠ i → d.getD j true = false → (∀ e ∈ oj.after, Region.binds md e = true → e.on ≠ i) → oi.apart ops oj = true) →
      i ∈ Region.ready md ops d → YieldsIn P ops C oi v a → AnyHead P md ops C n L f (d.setIfInBounds i true) (a.put oi.dst v) → AnyHead P md ops C n L (f + 1) d a := by
  induction f with
  | zero =>
    intro d a inv _ hr hy H
    refine ⟨List.ne_nil_of_mem hr, fun j hj => ?_⟩
    have hjn : j < n := Nat.lt_of_not_le fun h => tail_waits hs hc hn inv _ i rfl hin (mem_ready.1 hr).1 j h hj
    refine ⟨hjn, ?_⟩
    by_cases e : j = i
    · rw [e]; exact hy.qOp hi H
    · exact absurd (hdone _ _ H j (ready_mono hj e)) (by omega)
  | succ f ih =>
    intro d a inv hfree hr hy H
    refine ⟨List.ne_nil_of_mem hr, fun j hj => ?_⟩
    have hun := (mem_ready.1 hr).1
    have hjn : j < n := Nat.lt_of_not_le fun h => tail_waits hs hc hn inv _ i rfl hin hun j h hj
    refine ⟨hjn, ?_⟩
    by_cases e : j = i
    · rw [e]; exact hy.qOp hi H
    · obtain ⟨hjun, oj, hoj, hall⟩ := mem_ready.1 hj
      have hap : oi.apart ops oj = true := hfree j oj hoj e hjun fun x hx hb heq => by
        have h1 := hall x hx hb
        rw [heq, getD_both hun] at h1
        cases h1
      refine qOp_mono (fun a' h3 => ih (d.setIfInBounds j true) a' (inv.set hj hjn) (fun k ok hk hki hu hno => hfree k ok hk hki ?_ hno) (ready_mono hr (Ne.symm e)) h3.1 ?_)
        (qOp_put hoj hap (fun cs b => hsel i oi cs b hi) (fun cs b => hsel j oj cs b hoj) hy (H.2 j (ready_mono hj e)).2)
      · by_cases hjk : j = k
        · rw [← hjk]; exact hjun
        · rwa [getD_set_ne true hjk] at hu
      · rw [Array.setIfInBounds_comm _ _ e]
        exact h3.2

theorem AnyHead.lex {n g : Nat} {Lq : Act → Prop} (hsel : Region.noSelect ops = true) (hs : Region.sinkB md ops n = true) (hc : Region.chainB md ops n = true) (hn : n < ops.size) (l : List Oper) :
    ∀ (k : Nat) (d : Array Bool) (a : Act), (∀ j, j < l.length → l[j]? = ops[k + j]?) → k + l.length = n → HeadInv md ops n d → Region.lexHead md ops g l.length k d = true → wpQuiet P ops C Lq l a →
    AnyHead P md ops C n (fun d' a' => Region.seqB md ops g n d' = true ∧ Lq a') l.length d a := by
  induction l with
  | nil =>
    intro k d a _ hk _ hB h
    obtain rfl : k = n := by simpa using hk
    exact ⟨by simpa [Region.lexHead] using hB, h⟩
  | cons o l ih =>
    intro k d a hl hk inv hB h
    have h0 : ops[k]? = some o := by have := hl 0 (by simp); simpa using this.symm
    simp only [List.length_cons, Region.lexHead, Bool.and_eq_true] at hB hk
    obtain ⟨⟨hr, hf⟩, hB'⟩ := hB
    have hr' : k ∈ Region.ready md ops d := by simpa using hr
    obtain ⟨v, hy, hK⟩ := yieldsIn_of_qOp h0 (show qOp P ops C k (wpQuiet P ops C Lq l) a by unfold qOp; simp only [h0]; exact h)
    refine AnyHead.first h0 (Region.noSelect_spec hsel) hs hc hn (by omega) (fun d' a' hL => seqB_ready hL.1) l.length d a inv (Region.free_spec h0 hf) hr' hy
      (ih (k + 1) _ _ (fun j hj => ?_) (by omega) (inv.set hr' (by omega)) hB' hK)
    have := hl (j + 1) (by simp; omega)
    rw [List.getElem?_cons_succ] at this
    rw [this]; congr 1; omega

/-- THE REGION: its first n operations by a quiet walk, the others one behind the other. -/
theorem wp_quiet_tail {id : Nat} {Q : Exit → Act → World → Prop} {a : Act} {w : World} {l : List Oper} (n : Nat) (hm : P.follows .mixedOrders = true) (hB : Region.lexTailB .any l.toArray n = true)
    (h : wpQuiet P l.toArray (fun w' => ∃ m, w' = w.drewN m) (fun a' => ∀ w', (∃ m, w' = w.drewN m) → wpList P l.toArray Q (l.drop n) a' w') (l.take n) a) : (Code.region id l.toArray true).wp P Q a w := by
  simp only [Region.lexTailB, Bool.and_eq_true, decide_eq_true_eq] at hB
  obtain ⟨⟨⟨⟨hsel, hn⟩, hs⟩, hc⟩, hlex⟩ := hB
  have hn' : n < l.length := by simpa using hn
  have htl : (l.take n).length = n := by simp; omega
  have hdl : (l.drop n).length = l.toArray.size - n := by simp
  have inv : HeadInv .any l.toArray n (Array.replicate l.toArray.size false) :=
    ⟨by simp, fun j oj _ hl => absurd hl (by rw [getD_replicate_false]; decide), fun t _ ht => getD_in (by simpa using ht) (getD_replicate_false _ _)⟩
  have H := AnyHead.lex (md := .any) (g := l.toArray.size - n) hsel hs hc hn (l.take n) 0 _ a (fun j hj => by
    rw [htl] at hj
    simp [hj]) (by omega) inv (by rw [htl]; exact hlex) h
  refine wp_region_any hm ?_
  have K := AnyHead.any (Q := Q) (g := l.toArray.size - n) (fun d a' w' hw' hL => by
    have := wpAny_of_seq (md := .any) (Q' := Q) (l.drop n) n d a' w' (fun j => by simp [List.getElem?_drop]) (by rw [hdl]; exact hL.1) (hL.2 w' hw')
    rwa [hdl] at this) _ _ _ (w.drewN 1) ⟨1, rfl⟩ H
  rw [htl, show n + (l.toArray.size - n) = l.toArray.size by omega] at K
  exact K
end
end Go.Proofs.YtckkalmhekfnhabGreatDoor
/-
  A whole row by value, read within a quiet walk.
-/
namespace Go.Proofs.YtckkalmhekfnhabGreatDoor
open Go Go.RowKit Go.BigFrame

theorem wpQuiet_load_row {P : Program} {ops : Array Oper} {C : World → Prop} {Q : Act → Prop} {a : Act} {o : Oper} {rest : List Oper} (hgd : o.guard = none) (ty : TypeId) (x : Operand) (ho : o.op = .load ty x)
    (g : Nat) (hx : a.eval x = .pointer (some ⟨g, 0, none⟩)) (t : TypeId) (cs : Array Value) (fr : Nat × Nat) (d : TypeDesc) (hg : ∀ w, C w → w.heap[g]? = some (.cells cs t fr))
    (hu : P.underlying ty = some d) (hd : (match d with | .struct _ | .array _ _ => true | _ => false) = true) (hi : (P.info? ty).map (·.size) = some cs.size)
    (h : wpQuiet P ops C Q rest (a.put o.dst (.agg cs))) : wpQuiet P ops C Q (o :: rest) a := by
  refine wpQuiet_want (by simp [Region.wanted, hgd]) fun K hK => ⟨.agg cs, fun w hw => ?_, hK _ h⟩
  unfold Oper.quietAt execOp
  simp only [ho]
  have := run_loadVar_row (P := P) w g t ty cs fr d (hg w hw) hu hd hi
  simp only [hx, Instr.loadAt, Instr.sureAddr, Sem.run_bind, Sem.run_pure, Result.andThen_ok, this, Oper.quietUpon, and_self]
end Go.Proofs.YtckkalmhekfnhabGreatDoor
/-
  A drawn region whose operations read and whose callees leave all that was there as it was: one walk in the text's order, over the class of the worlds that keep W.
-/
namespace Go.Proofs.YtckkalmhekfnhabGreatDoor
open Go Go.RowKit Go.BigFrame
set_option linter.unusedSimpArgs false

theorem wp_region_keep {P : Program} {id : Nat} {Q : Exit → Act → World → Prop} {a : Act} {W : World} {l : List Oper} (hm : P.follows .mixedOrders = true) (hB : Region.lexB .any l.toArray = true)
    (h : wpQuiet P l.toArray (fun w' => Kept [] W w') (fun a' => ∀ w', Kept [] W w' → Q .normal a' w') l a) : (Code.region id l.toArray true).wp P Q a W :=
  wp_region_quiet (C := fun w' => Kept [] W w') hm hB ((Kept.refl [] W).drew) (by simpa using h)

theorem wpQuiet_row {P : Program} {ops : Array Oper} {C : World → Prop} {Q : Act → Prop} {a : Act} {o : Oper} {rest : List Oper} (hw : Region.wanted o (yielded ops a.tmps) = true) (ty : TypeId) (x : Operand) (ho : o.op = .load ty x)
    (g : Nat) (hx : a.eval x = .pointer (some ⟨g, 0, none⟩)) (t : TypeId) (cs : Array Value) (fr : Nat × Nat) (d : TypeDesc) (hg : ∀ w, C w → w.heap[g]? = some (.cells cs t fr))
    (hu : P.underlying ty = some d) (hd : (match d with | .struct _ | .array _ _ => true | _ => false) = true) (hi : (P.info? ty).map (·.size) = some cs.size)
    (h : wpQuiet P ops C Q rest (a.put o.dst (.agg cs))) : wpQuiet P ops C Q (o :: rest) a := by
  refine wpQuiet_want hw fun K hK => ⟨.agg cs, fun w hw => ?_, hK _ h⟩
  unfold Oper.quietAt execOp
  simp only [ho]
  have := run_loadVar_row (P := P) w g t ty cs fr d (hg w hw) hu hd hi
  simp only [hx, Instr.loadAt, Instr.sureAddr, Sem.run_bind, Sem.run_pure, Result.andThen_ok, this, Oper.quietUpon, and_self]

theorem wpQuiet_val {P : Program} {ops : Array Oper} {C : World → Prop} {Q : Act → Prop} {a : Act} {o : Oper} {rest : List Oper} (hw : Region.wanted o (yielded ops a.tmps) = true) (v : Value)
    (hr : ∀ w, C w → (execOp a.eval o).run P w = .ok (.value v) w) (h : wpQuiet P ops C Q rest (a.put o.dst v)) : wpQuiet P ops C Q (o :: rest) a := by
  refine wpQuiet_want hw fun K hK => ⟨v, fun w hw => ?_, hK _ h⟩
  unfold Oper.quietAt
  rw [hr w hw]
  exact ⟨rfl, rfl⟩

theorem run_load1 {P : Program} {o : Oper} {a : Act} (ty : TypeId) (x : Operand) (ho : o.op = .load ty x) (ad : Addr) (hx : a.eval x = .pointer (some ad)) (w : World) (v : Value) (k : IntKind) (hu : P.underlying ty = some (.int k)) (hc : w.cell? ad = some v) :
    (execOp a.eval o).run P w = .ok (.value v) w := by
  have h2 : (isAgg ty).run P w = .ok false w := by
    unfold isAgg
    rw [Sem.run_bind, run_underlying hu w]; simp
  unfold execOp
  simp only [ho, hx, Instr.loadAt, Instr.sureAddr, Sem.run_bind, Sem.run_pure, Result.andThen_ok, loadVar, h2]
  simp [go_sem, hc]
theorem run_eql {P : Program} {o : Oper} {a : Act} (ty : TypeId) (x y : Operand) (r : TypeId) (ho : o.op = .binOp .eql ty x y r) (xs ys : Array Value) (hx : a.eval x = .agg xs) (hy : a.eval y = .agg ys) (w : World) (b : Bool)
    (hm : P.eqGuardType P.depth ty = false) (h : (Op.equalIn 10000 ty (.agg xs) (.agg ys)).run P w = .ok b w) : (execOp a.eval o).run P w = .ok (.value (.bool b)) w := by
  unfold execOp
  simp only [ho, hx, hy, binOp, Op.equal, Sem.run_bind, run_eqGuard_agg (P := P) w _ _ _ _ _ _ hm, Result.andThen_ok]
  rw [show Op.maxDepth = 10000 from rfl, h]; rfl
theorem run_neq {P : Program} {o : Oper} {a : Act} (ty : TypeId) (x y : Operand) (r : TypeId) (ho : o.op = .binOp .neq ty x y r) (xs ys : Array Value) (hx : a.eval x = .agg xs) (hy : a.eval y = .agg ys) (w : World) (b : Bool)
    (hm : P.eqGuardType P.depth ty = false) (h : (Op.equalIn 10000 ty (.agg xs) (.agg ys)).run P w = .ok b w) : (execOp a.eval o).run P w = .ok (.value (.bool (!b))) w := by
  unfold execOp
  simp only [ho, hx, hy, binOp, Op.equal, Sem.run_bind, run_eqGuard_agg (P := P) w _ _ _ _ _ _ hm, Result.andThen_ok]
  rw [show Op.maxDepth = 10000 from rfl, h]; rfl

/-- A whole row by value behind '&&' or '||': the guard is met. -/
theorem wpList_load_rowG {P : Program} {ops : Array Oper} {rest : List Oper} {o : Oper} {a : Act} {w : World} {Q : Exit → Act → World → Prop} (hw : Region.wanted o (yielded ops a.tmps) = true) (ty : TypeId) (x : Operand) (ho : o.op = .load ty x)
    (g : Nat) (hx : a.eval x = .pointer (some ⟨g, 0, none⟩)) (t : TypeId) (cs : Array Value) (fr : Nat × Nat) (d : TypeDesc) (hg : w.heap[g]? = some (.cells cs t fr))
    (hu : P.underlying ty = some d) (hd : (match d with | .struct _ | .array _ _ => true | _ => false) = true) (hi : (P.info? ty).map (·.size) = some cs.size)
    (h : wpList P ops Q rest (a.put o.dst (.agg cs)) w) : wpList P ops Q (o :: rest) a w :=
  wpList_want hw fun _ hK => wp_load_row ty x ho g hx t cs fr d hg hu hd hi (hK _ _ h)
end Go.Proofs.YtckkalmhekfnhabGreatDoor
/-
  A row in the midst of a block, read within a quiet walk.
-/
namespace Go.Proofs.YtckkalmhekfnhabGreatDoor
open Go Go.RowKit Go.BigFrame

theorem wpQuiet_mid {P : Program} {ops : Array Oper} {C : World → Prop} {Q : Act → Prop} {a : Act} {o : Oper} {rest : List Oper} (hw : Region.wanted o (yielded ops a.tmps) = true) (ty : TypeId) (x : Operand) (ho : o.op = .load ty x)
    (b off : Nat) (hx : a.eval x = .pointer (some ⟨b, off, none⟩)) (cs : List Value) (d : TypeDesc) (hg : ∀ w, C w → w.rangeAt b off cs)
    (hu : P.underlying ty = some d) (hd : d.isRow = true) (hi : (P.info? ty).map (·.size) = some cs.length)
    (h : wpQuiet P ops C Q rest (a.put o.dst (.agg cs.toArray))) : wpQuiet P ops C Q (o :: rest) a := by
  refine wpQuiet_want hw fun K hK => ⟨.agg cs.toArray, fun w hw => ?_, hK _ h⟩
  unfold Oper.quietAt execOp
  simp only [ho]
  have := run_loadVar_mid (P := P) w b off ty cs d (hg w hw) hu hd hi
  simp only [hx, Instr.loadAt, Instr.sureAddr, Sem.run_bind, Sem.run_pure, Result.andThen_ok, this, Oper.quietUpon, and_self]
end Go.Proofs.YtckkalmhekfnhabGreatDoor
namespace Go.Proofs.YtckkalmhekfnhabGreatDoor
open Go.RowKit Go.BigFrame
set_option linter.unusedVariables false
set_option linter.unusedSimpArgs false

theorem take_same {α : Type} (a b : List α) (i : Nat) (ha : i < a.length) (hb : i < b.length) (h : a.take i = b.take i) (x : a[i] = b[i]) : a.take (i + 1) = b.take (i + 1) := by
  rw [List.take_succ_eq_append_getElem ha, List.take_succ_eq_append_getElem hb, h, x]

set_option maxRecDepth 100000 in
set_option maxHeartbeats 1000000 in
theorem sameEntries_any (u v : Value) (es fs : List En) (w : World) (hu : RdN w u es) (hv : RdN w v fs) :
    Calls Tryz.prog 44 #[u, v] w fun r w' => r = .returned (.bool (decide (es = fs))) ∧ Kept [] w w' := by
  obtain ⟨ao, len, cap, kv, vv, rfl, h1, h2, h3, h4, h5⟩ := hu
  obtain ⟨ao', len', cap', kv', vv', rfl, g1, g2, g3, g4, g5⟩ := hv
  have H4 := hide h4
  have H5 := hide h5
  have G4 := hide g4
  have G5 := hide g5
  clear h4 h5 g4 g5
  subst h1
  subst g1
  go_enter Tryz.func44, Tryz.ntmps44
  by_cases hl : es.length = fs.length
  · have hb : ((es.length : Int) != (fs.length : Int)) = false := by rw [hl]; simp
    have HL := hide hl
    clear hl
    go_wp2_with fail
    go_loopw [5] (fun t12 wr => ∃ (i : Nat), i ≤ es.length ∧ t12 = .int .i64 i ∧ Hid (es.take i = fs.take i) ∧ Hid (Kept [] w wr)) (fun t _ => es.length - (intOf t).toNat)
    case atStart => exact ⟨0, Nat.zero_le _, rfl, hide (by simp), hide (Kept.refl _ _)⟩
    case round =>
      obtain ⟨i, hi, rfl, HA, HK⟩ := hrel
      by_cases hlt : i < es.length
      · have hlt' : (i : Int) < es.length := by omega
        have hle : i < fs.length := by rw [← unhide HL]; exact hlt
        have hle' : (i : Int) < fs.length := by omega
        obtain ⟨b, o, rfl, hcell⟩ := unhide H5 (by omega)
        obtain ⟨b', o', rfl, gcell⟩ := unhide G5 (by omega)
        have HRG := hide (rangeE_kept (hcell i hlt) (unhide HK) (by simp))
        have GRG := hide (rangeE_kept (gcell i hle) (unhide HK) (by simp))
        have HO := hide ((unhide H4 i hlt).old (unhide HK))
        have GO := hide ((unhide G4 i hle).old (unhide HK))
        have HN := hide (fun (h : es[i] = fs[i]) => take_same es fs i hlt hle (unhide HA) h)
        have HM := hide (fun (h : ¬ es[i] = fs[i]) => decide_eq_false (fun e => h (by simp [e]) : ¬ es = fs))
        clear hcell gcell
        generalize kv i = k1 at HRG HO
        generalize vv i = v1 at HRG HO
        generalize kv' i = k2 at GRG GO
        generalize vv' i = v2 at GRG GO
        generalize es[i] = x at HRG HO HN HM
        generalize fs[i] = y at GRG GO HN HM
        have HS1 := hide (by rw [Array.length_toList, enC_size]; exact Tryz.size_entry : (Tryz.prog.info? 44).map (·.size) = some (enC x k1 v1).toList.length)
        have HS2 := hide (by rw [Array.length_toList, enC_size]; exact Tryz.size_entry : (Tryz.prog.info? 44).map (·.size) = some (enC y k2 v2).toList.length)
        have HC1 := hide (fun w' (hw' : Kept [] wr w') => (sameEntry_any x y k1 v1 k2 v2 w' ((unhide HO).old hw') ((unhide GO).old hw')).mono (fun e w2 (h2 : _ ∧ _) => (⟨h2.1, hw'.trans h2.2 (by simp)⟩ : _ ∧ Kept [] wr w2)))
        by_cases hdd : x = y
        · rw [decide_eq_true hdd] at HC1
          have HDD := hide hdd
          clear hdd
          have hne : ∀ p : Prop, (∀ w', Kept [] wr w' → p) = p := fun p => propext ⟨fun h => h wr (Kept.refl [] wr), fun h _ _ => h⟩
          go_wp2_with fail
          refine wp_region_keep (by kernel_rfl) (by kernel_rfl) ?_
          iterate 3 (go_big_quiet_step (fail))
          refine wpQuiet_mid rfl 44 _ rfl b (o + i * 3) rfl (enC x k1 v1).toList _ (fun w' hw' => rangeE_kept (unhide HRG) hw' (by simp)) Tryz.underlying44 rfl (unhide HS1) ?_
          simp only [Act.put, List.setIfInBounds_toArray, List.set_cons_succ, List.set_cons_zero]
          iterate 3 (go_big_quiet_step (fail))
          refine wpQuiet_mid rfl 44 _ rfl b' (o' + i * 3) rfl (enC y k2 v2).toList _ (fun w' hw' => rangeE_kept (unhide GRG) hw' (by simp)) Tryz.underlying44 rfl (unhide HS2) ?_
          simp only [Act.put, List.setIfInBounds_toArray, List.set_cons_succ, List.set_cons_zero]
          go_big_quiet_want
          go_big_quiet_op
          apply Exists.intro
          refine ⟨fun w' hw' => ?_, ?_⟩
          · exact unhide HC1 w' hw'
          go_big_quiet_on
          repeat (go_big_quiet_step (fail))
          refine wpQuiet_nil ?_
          intro w6 hw6
          have HK6 := hide ((unhide HK).trans hw6 (by simp))
          clear hw6 hne
          go_wp2
          refine ⟨⟨i + 1, by omega, by go_num, hide (unhide HN (unhide HDD)), HK6⟩, ?_⟩
          simp [intOf]; omega
        · rw [decide_eq_false hdd] at HC1
          have HDD := hide hdd
          clear hdd
          have hne : ∀ p : Prop, (∀ w', Kept [] wr w' → p) = p := fun p => propext ⟨fun h => h wr (Kept.refl [] wr), fun h _ _ => h⟩
          go_wp2_with fail
          refine wp_region_keep (by kernel_rfl) (by kernel_rfl) ?_
          iterate 3 (go_big_quiet_step (fail))
          refine wpQuiet_mid rfl 44 _ rfl b (o + i * 3) rfl (enC x k1 v1).toList _ (fun w' hw' => rangeE_kept (unhide HRG) hw' (by simp)) Tryz.underlying44 rfl (unhide HS1) ?_
          simp only [Act.put, List.setIfInBounds_toArray, List.set_cons_succ, List.set_cons_zero]
          iterate 3 (go_big_quiet_step (fail))
          refine wpQuiet_mid rfl 44 _ rfl b' (o' + i * 3) rfl (enC y k2 v2).toList _ (fun w' hw' => rangeE_kept (unhide GRG) hw' (by simp)) Tryz.underlying44 rfl (unhide HS2) ?_
          simp only [Act.put, List.setIfInBounds_toArray, List.set_cons_succ, List.set_cons_zero]
          go_big_quiet_want
          go_big_quiet_op
          apply Exists.intro
          refine ⟨fun w' hw' => ?_, ?_⟩
          · exact unhide HC1 w' hw'
          go_big_quiet_on
          repeat (go_big_quiet_step (fail))
          refine wpQuiet_nil ?_
          intro w6 hw6
          have HK6 := hide ((unhide HK).trans hw6 (by simp))
          clear hw6 hne
          go_wp2
          go_ret
          exact ⟨by rw [unhide HM (unhide HDD)]; rfl, unhide HK6⟩
      · have hlt' : ¬ (i : Int) < es.length := by omega
        have hie : i = es.length := by omega
        subst hie
        have HE := hide (decide_eq_true (by have h9 := unhide HA; rw [List.take_length, unhide HL, List.take_length] at h9; exact h9 : es = fs))
        go_wp2
        go_ret
        exact ⟨by rw [unhide HE]; rfl, unhide HK⟩
  · have hb : ((es.length : Int) != (fs.length : Int)) = true := by rw [bne_iff_ne]; omega
    have HE := hide (decide_eq_false (fun e => hl (by rw [e]) : ¬ es = fs))
    clear hl
    go_wp2
    go_ret
    exact ⟨by rw [unhide HE]; rfl, Kept.refl _ _⟩

set_option maxRecDepth 100000 in
set_option maxHeartbeats 1000000 in
theorem sameBatch_any (f g : Nat) (u v : Value) (es fs : List En) (w : World) (hu : RdN w u es) (hv : RdN w v fs) :
    Calls Tryz.prog 18 #[.agg #[.int .u64 f, u], .agg #[.int .u64 g, v]] w fun r w' => r = .returned (.bool (decide (f = g) && decide (es = fs))) ∧ Kept [] w w' := by
  have HU := hide hu
  have HV := hide hv
  obtain ⟨X, hX⟩ : ∃ X, decide (es = fs) = X := ⟨_, rfl⟩
  rw [hX]
  have HX := hide hX
  clear hX
  obtain ⟨a1, m1, c1, _, _, rfl, _⟩ := hu
  obtain ⟨a2, m2, c2, _, _, rfl, _⟩ := hv
  have HK0 := hide (((Kept.refl [] w).alloc (.cells #[.int .u64 (f : Int), .slice a1 m1 c1] 37)).alloc (.cells #[.int .u64 (g : Int), .slice a2 m2 c2] 37))
  go_enter Tryz.func18, Tryz.ntmps18
  by_cases hk : f = g
  · have e1 : ((f : Int) == (g : Int)) = true := by rw [hk]; simp
    rw [decide_eq_true hk]
    have HKE := hide hk
    clear hk
    go_wp2_with fail
    refine Calls.mono (sameEntries_any _ _ es fs _ ((unhide HU).old (unhide HK0)) ((unhide HV).old (unhide HK0))) ?_
    rintro r w1 ⟨rfl, k1⟩
    rw [unhide HX]
    have HK1 := hide ((unhide HK0).trans k1 (by simp))
    clear k1
    go_wp2
    go_ret
    exact ⟨by simp, unhide HK1⟩
  · have e1 : ((f : Int) == (g : Int)) = false := by rw [beq_eq_false_iff_ne]; omega
    rw [decide_eq_false hk]
    clear hk
    go_wp2
    go_ret
    exact ⟨by simp, unhide HK0⟩
end Go.Proofs.YtckkalmhekfnhabGreatDoor
namespace Go.Proofs.YtckkalmhekfnhabGreatDoor
open Go.RowKit Go.BigFrame
set_option linter.unusedVariables false
set_option linter.unusedSimpArgs false

end Go.Proofs.YtckkalmhekfnhabGreatDoor
namespace Go.Proofs.YtckkalmhekfnhabGreatDoor
open Go.RowKit Go.BigFrame
set_option linter.unusedVariables false
set_option linter.unusedSimpArgs false

theorem rd_row {w : World} {g : Nat} (bs : List Nat) {cs : Array Value} {fr : Nat × Nat} (h : w.heap[g]? = some (.cells cs 5 fr)) (hc : cs = (bs.map u8).toArray) (hb : ∀ x ∈ bs, x < 256) (n : Nat) (hn : bs.length = n) (hl : n ≤ 140737488355328) : Rd w (.slice (some ⟨g, 0, none⟩) n n) bs := by
  refine ⟨_, n, n, rfl, hn, Nat.le_refl _, ⟨by omega, hl⟩, fun h => by simp at h, hb, fun hp => ⟨g, 0, rfl, fun i hi => ?_⟩⟩
  subst hc
  have hi' : i < bs.length := by omega
  rw [cell_of_row _ _ _ _ _ _ h, Nat.zero_add, List.getElem?_toArray, List.getElem?_map, List.getElem?_eq_getElem hi', List.getD_eq_getElem?_getD, List.getElem?_eq_getElem hi']
  rfl
theorem RdN.one {w : World} {g : Nat} {e : En} {kv vv : Value} {t : TypeId} {fr : Nat × Nat} (h : w.heap[g]? = some (.cells (enC e kv vv) t fr)) (ho : OkE w e kv vv) : RdN w (.slice (some ⟨g, 0, none⟩) 1 1) [e] := by
  refine ⟨_, 1, 1, fun _ => kv, fun _ => vv, rfl, rfl, Nat.le_refl _, by omega, fun i hi => ?_, fun _ => ⟨g, 0, rfl, fun i hi => ?_⟩⟩
  · have : i = 0 := by simpa using hi
    subst this; exact ho
  · have : i = 0 := by simpa using hi
    subst this
    intro j v hv
    rw [cell_of_row _ _ _ _ _ _ h, Nat.zero_mul, Nat.add_zero, Nat.zero_add, ← Array.getElem?_toList]
    exact hv
theorem heap_alloc3e (w : World) (a b c : Obj) : (((w.alloc a).alloc b).alloc c).heap[w.heap.size]? = some a ∧ (((w.alloc a).alloc b).alloc c).heap[w.heap.size + 1]? = some b ∧ (((w.alloc a).alloc b).alloc c).heap[w.heap.size + 1 + 1]? = some c := by
  refine ⟨?_, ?_, ?_⟩
  · exact (((Kept.refl [] (w.alloc a)).alloc b).alloc c).heap (heap_alloc_new w a) (by simp)
  · exact ((Kept.refl [] ((w.alloc a).alloc b)).alloc c).heap (alloc_at w a b) (by simp)
  · have h9 := alloc_at (w.alloc a) b c
    rw [show (w.alloc a).heap.size = w.heap.size + 1 from Array.size_push _] at h9
    exact h9
theorem decE_k : decE [1, 1, 107, 1, 118] = (⟨1, [107], [118]⟩, 0) := by decide +kernel
theorem decB_k : decB [172, 2, 1, 2, 0] = (300, [⟨2, [], []⟩], 0) := by decide +kernel
theorem chkB_k : chkB 300 [⟨2, [], []⟩] = 0 := by decide
theorem uv300 : uv 300 = [172, 2] := by rw [uv_ge (by decide), uv_lt (by decide)]
theorem batB_k : batB 300 [⟨2, [], []⟩] = [172, 2, 1, 2, 0] := by
  unfold batB entB enB
  rw [uv300]
  simp [uv_lt]
theorem enB_k : enB ⟨1, [107], [118]⟩ = [1, 1, 107, 1, 118] := by
  unfold enB
  simp [uv_lt]

end Go.Proofs.YtckkalmhekfnhabGreatDoor
namespace Go.Proofs.YtckkalmhekfnhabGreatDoor
open Go.RowKit Go.BigFrame
set_option linter.unusedVariables false
set_option linter.unusedSimpArgs false

def wideB (z : Int) : Bool := decide (1 ≤ z ∧ z ≤ 32)

set_option maxRecDepth 100000 in
theorem isWidth_any (z : Int) (w : World) : Calls Tryz.prog 32 #[.int .i64 z] w fun e w' => e = .returned (.bool (wideB z)) ∧ w' = w := by
  by_cases h1 : 1 ≤ z
  · by_cases h2 : z ≤ 32
    · have hb : wideB z = true := by simp [wideB, h1, h2]
      rw [hb]
      clear hb
      go_enter Tryz.func32, Tryz.ntmps32
      go_wp2
      go_ret
      exact ⟨rfl, rfl⟩
    · have hb : wideB z = false := by simp [wideB, h1]; omega
      have h2' : decide (z ≤ 32) = false := by simpa using h2
      rw [hb]
      clear hb
      go_enter Tryz.func32, Tryz.ntmps32
      go_wp2
      go_ret
      exact ⟨rfl, rfl⟩
  · have hb : wideB z = false := by simp [wideB]; omega
    have h1' : decide (1 ≤ z) = false := by simpa using h1
    rw [hb]
    clear hb
    go_enter Tryz.func32, Tryz.ntmps32
    go_wp2
    go_ret
    exact ⟨rfl, rfl⟩

/-- A list that may be appended to: owned, or without room. -/
def AppOk (base : Nat) (w : World) (v : Value) (bs : List Nat) : Prop := w.ownsRow base 5 1 v bs.length (bs.map u8) ∨ ∃ g, v = .slice (some ⟨g, 0, none⟩) bs.length bs.length ∧ Rd w v bs
theorem AppOk.pass {base : Nat} {w w' : World} {v : Value} {bs : List Nat} (h : AppOk base w v bs) (k : Kept [] w w') : AppOk base w' v bs := by
  rcases h with h | ⟨g, h1, h2⟩
  · exact .inl (k.owns h (by simp))
  · exact .inr ⟨g, h1, h2.old k (by simp)⟩
/-- One byte more. -/
theorem pushA (w0 w : World) (v : Value) (bs : List Nat) (z : Nat) (H : Nat) (k : Kept [] w0 w) (h : AppOk w0.heap.size w v bs) (hnew : w.heap[H]? = some (.cells #[.int .u8 (z : Int)] 5 (0, 0))) (hz : z < 256) (hl : bs.length + 1 ≤ 1000000000) :
    ∃ ao cap w1, (Builtin.append_ #[29, 29] 29 #[v, .slice (some ⟨H, 0, none⟩) 1 1]).run Tryz.prog w = .ok (.slice ao (bs.length + 1) cap) w1 ∧
      w1.ownsRow w0.heap.size 5 1 (.slice ao (bs.length + 1) cap) (bs ++ [z]).length ((bs ++ [z]).map u8) ∧ Kept [] w0 w1 := by
  have hr : Rd w (.slice (some ⟨H, 0, none⟩) 1 1) [z] := rd_lit hnew rfl (by simpa using hz) 1 rfl (by omega)
  rcases h with h | ⟨g, rfl, h2⟩
  · obtain ⟨ao, cap, w1, hrun, ho, hg, _⟩ := appendAll w w0.heap.size v bs [z] _ 1 1 h hr (by simp; omega) k.size
    exact ⟨ao, cap, w1, hrun, ho, k.grown hg (fun j hj => .inr (h.lt j hj).1)⟩
  · obtain ⟨i0, hi, hz0, hz1, hz2⟩ := info_parts Tryz.info5
    have hold : ∀ j u, (bs.map u8)[j]? = some u → w.cell? (Addr.add ⟨g, 0, none⟩ j) = some u := by
      intro j u hj
      by_cases h0 : 0 < (bs.map u8).length
      · obtain ⟨ad', e, hc⟩ := h2.src h0
        cases e
        exact hc j u hj
      · have : bs.map u8 = [] := List.eq_nil_of_length_eq_zero (by omega)
        rw [this] at hj; simp at hj
    have hnews : ∀ j u, ([z].map u8)[j]? = some u → w.cell? (Addr.add ⟨H, 0, none⟩ j) = some u := by
      intro j u hj
      obtain ⟨ad', e, hc⟩ := hr.src (by simp)
      cases e
      exact hc j u hj
    obtain ⟨v', w1, hrun, hown, hgrow⟩ := run_append_arg_grows (P := Tryz.prog) w 29 29 5 i0 (.int .u8 0) 1 1 Tryz.underlying29 hi hz0 hz1 hz2 rfl (by decide)
      ⟨g, 0, none⟩ bs.length bs.length (bs.map u8) (by simp) hold ⟨H, 0, none⟩ 1 1 ([z].map u8) (by simp) hnews (by omega) (by unfold maxLen; omega) (by omega)
    obtain ⟨ao', cap', rfl⟩ := owns_shape hown
    exact ⟨ao', cap', w1, hrun, by rw [List.length_append, List.map_append]; exact owns_base hown k.size, k.trans ((Kept.refl [] w).grown hgrow (by simp)) (by simp)⟩
theorem wpList_pushA {ops : Array Oper} {rest : List Oper} {o : Oper} {a : Act} {Q : Exit → Act → World → Prop} (hgd : o.guard = none) (s x : Operand)
    (ho : o.op = .call { callee := .builtin .append, args := #[s, x], argTypes := #[29, 29] }) (hty : o.type = 29)
    (w0 w : World) (v : Value) (bs : List Nat) (z : Nat) (H : Nat) (k : Kept [] w0 w) (h : AppOk w0.heap.size w v bs) (hnew : w.heap[H]? = some (.cells #[.int .u8 (z : Int)] 5 (0, 0))) (hz : z < 256) (hl : bs.length + 1 ≤ 1000000000)
    (hs : a.eval s = v) (hx : a.eval x = .slice (some ⟨H, 0, none⟩) 1 1)
    (hK : ∀ ao cap w1, Hid (w1.ownsRow w0.heap.size 5 1 (.slice ao (bs.length + 1) cap) (bs ++ [z]).length ((bs ++ [z]).map u8)) → Hid (Kept [] w0 w1) → wpList Tryz.prog ops Q rest (a.put o.dst (.slice ao (bs.length + 1) cap)) w1) :
    wpList Tryz.prog ops Q (o :: rest) a w := by
  obtain ⟨ao, cap, w1, hrun, h2, h3⟩ := pushA w0 w v bs z H k h hnew hz hl
  refine wpList_plain hgd fun K hK' => ?_
  unfold Oper.wp execOp
  simp only [ho, hty, resolve, invoke, builtin, Sem.run_bind, Sem.run_pure, Result.andThen_ok, List.map_toArray, List.map_cons, List.map_nil, hs, hx, hrun]
  exact hK' _ _ (hK ao cap w1 h2 h3)
theorem AppOk.shape {base : Nat} {w : World} {v : Value} {bs : List Nat} (h : AppOk base w v bs) : ∃ ao cap, v = .slice ao bs.length cap := by
  rcases h with h | ⟨g, h1, h2⟩
  · exact owns_shape h
  · exact ⟨_, _, h1⟩

set_option maxRecDepth 100000 in
set_option maxHeartbeats 2000000 in
theorem appendNumber_any (w0 w : World) (v : Value) (bs : List Nat) (x : Nat) (k : Kept [] w0 w) (h : AppOk w0.heap.size w v bs) (hl : bs.length ≤ 1000000) :
    Calls Tryz.prog 33 #[v, .int .u64 x] w fun e w' => ∃ v', e = .returned v' ∧ AppOk w0.heap.size w' v' (bs ++ wide x 8) ∧ Kept [] w0 w' := by
  have HH := hide h
  have HK := hide k
  clear h k
  go_enter Tryz.func33, Tryz.ntmps33
  go_wp2_with fail
  go_loopw [0, 5] (fun t0 t5 wr => ∃ (k : Nat) (cur : List Nat), t5 = .int .i64 ((k : Int) - 1) ∧ k ≤ 8 ∧ Hid (cur ++ wide x k = bs ++ wide x 8) ∧ Hid (AppOk w0.heap.size wr t0 cur) ∧ Hid (Kept [] w0 wr)) (fun _ t _ => (intOf t + 1).toNat)
  case atStart => exact ⟨8, bs, rfl, Nat.le_refl _, rfl, HH, HK⟩
  case round =>
    obtain ⟨k, cur, rfl, hk, Hp, HA, HK1⟩ := hrel
    have hlen : cur.length + k ≤ 1000008 := by have h1 := congrArg List.length (unhide Hp); simp [wide_len] at h1; omega
    by_cases h0 : k = 0
    · subst h0
      go_wp2
      go_ret
      have h1 : cur = bs ++ wide x 8 := by have h2 := unhide Hp; rw [show wide x 0 = [] from rfl, List.append_nil] at h2; exact h2
      exact ⟨_, rfl, by rw [← h1]; exact unhide HA, unhide HK1⟩
    · obtain ⟨j, rfl⟩ : ∃ j, k = j + 1 := ⟨k - 1, by omega⟩
      have e1 : (((j + 1 : Nat) : Int) - 1) = (j : Int) := by omega
      rw [e1]
      have hj0 : (0 : Int) ≤ (j : Int) := by omega
      have hj8 : (j : Int) ≤ 7 := by omega
      obtain ⟨q, hq⟩ : ∃ q, q = x / 256 ^ j := ⟨_, rfl⟩
      have hsh := shr8 x j (by omega)
      rw [← hq] at hsh
      have Hq := hide hq
      clear hq
      have hz1 : IntKind.u8.wrap (q : Int) = ((q % 256 : Nat) : Int) := by rw [IntKind.wrap_u8']; omega
      have hz2 : (q : Int) % 256 = ((q % 256 : Nat) : Int) := by omega
      have HZ := hide (Nat.mod_lt q (by decide : 0 < 256))
      obtain ⟨y, hy⟩ : ∃ y, q % 256 = y := ⟨_, rfl⟩
      rw [hy] at hz1 hz2 HZ
      have HY := hide hy
      have hval : (x : Int) / 2 ^ (8 * j) % 256 = (y : Int) := by
        have h1 : (x : Int) / 2 ^ (8 * j) = (q : Int) := by rw [unhide Hq, Int.pow_mul]; simp
        rw [h1, hz2]
      clear hy
      obtain ⟨ao, cap, he⟩ := (unhide HA).shape
      subst he
      go_wp2_with (at_builtin; go_must (refine wpList_pushA rfl (.tmp 10) (.tmp 16) rfl rfl w0 _ (.slice ao cur.length cap) cur y wr.heap.size ((unhide HK1).alloc _) ((unhide HA).pass ((Kept.refl [] wr).alloc _)) (heap_alloc_new _ _) (unhide HZ) (by omega) rfl rfl ?_; intro ao2 cap2 w2 HO2 HK2))
      go_roundw
      case rel => exact ⟨j, cur ++ [y], rfl, by omega, hide (by rw [← unhide Hp, ← unhide HY, unhide Hq]; simp [wide]), hide (.inl (unhide HO2)), HK2⟩
      case measure => simp [intOf]
theorem hcells {w : World} {b : Nat} {x0 x1 x2 x3 : Value} {t : TypeId} (h : w.heap[b]? = some (.cells #[x0, x1, x2, x3] t (0, 0))) : w.cell? ⟨b, 0, none⟩ = some x0 ∧ w.cell? ⟨b, 1, none⟩ = some x1 ∧ w.cell? ⟨b, 2, none⟩ = some x2 ∧ w.cell? ⟨b, 3, none⟩ = some x3 := by
  refine ⟨?_, ?_, ?_, ?_⟩ <;> rw [cell_of_row _ _ _ _ _ _ h] <;> rfl
/-- A head's payload. -/
def headB (a b c : Nat) (z : Int) : List Nat := [78, 84, 82, 89, 49] ++ wide a 8 ++ wide b 8 ++ wide c 8 ++ [(z % 256).toNat]
theorem headB_eq (a b c : Nat) (z : Int) : headB a b c z = [78, 84, 82, 89, 49] ++ wide a 8 ++ wide b 8 ++ wide c 8 ++ [(z % 256).toNat] := rfl
theorem headB_len (a b c : Nat) (z : Int) : (headB a b c z).length = 30 := by simp [headB, wide_len]
/-- What EncodeHead answers. -/
def ehE (z : Int) : Nat := if wideB z then 0 else 1
def ehB (a b c : Nat) (z : Int) : List Nat := if wideB z then frB a (headB a b c z) else []

set_option maxRecDepth 100000 in
set_option maxHeartbeats 2000000 in
theorem encodeHead_any (a b c : Nat) (z : Int) (w : World) (ha : a < 18446744073709551616) (hz : -9223372036854775808 ≤ z ∧ z ≤ 9223372036854775807) :
    Calls Tryz.prog 9 #[.agg #[.int .u64 a, .int .u64 b, .int .u64 c, .int .i64 z]] w fun e w' => ∃ v', e = .returned (.tuple #[v', .int .i64 (ehE z)]) ∧ NewB w w' v' (ehB a b c z) ∧ Kept [] w w' := by
  have HK0 := hide ((Kept.refl [] w).alloc (.cells #[.int .u64 a, .int .u64 b, .int .u64 c, .int .i64 z] 33))
  have HB0 := hide (heap_alloc_new w (.cells #[.int .u64 a, .int .u64 b, .int .u64 c, .int .i64 z] 33))
  by_cases hw : wideB z = true
  · have hE : ehE z = 0 := by simp [ehE, hw]
    have hB : ehB a b c z = frB a (headB a b c z) := by simp [ehB, hw]
    rw [hE, hB]
    clear hE hB
    have hzz : 1 ≤ z ∧ z ≤ 32 := by simpa [wideB] using hw
    have kc : (convert 29 29 (.slice (some ⟨w.heap.size + 1, 0, none⟩) 5 5)).run Tryz.prog ((w.alloc (.cells #[.int .u64 a, .int .u64 b, .int .u64 c, .int .i64 z] 33)).alloc (.cells #[.int .u8 78, .int .u8 84, .int .u8 82, .int .u8 89, .int .u8 49] 5)) = .ok (.slice (some ⟨w.heap.size + 1, 0, none⟩) 5 5) ((w.alloc (.cells #[.int .u64 a, .int .u64 b, .int .u64 c, .int .i64 z] 33)).alloc (.cells #[.int .u8 78, .int .u8 84, .int .u8 82, .int .u8 89, .int .u8 49] 5 (5, 6))) := by
      have h9 := Lib.run_convert_bytes_const (P := Tryz.prog) (w.alloc (.cells #[.int .u64 a, .int .u64 b, .int .u64 c, .int .i64 z] 33)) 29 5 #[.int .u8 78, .int .u8 84, .int .u8 82, .int .u8 89, .int .u8 49] 5 5 Tryz.underlying29 Tryz.underlying5
      rw [show (w.alloc (.cells #[.int .u64 a, .int .u64 b, .int .u64 c, .int .i64 z] 33)).heap.size = w.heap.size + 1 by simp] at h9
      exact h9
    go_enter Tryz.func9, Tryz.ntmps9
    go_wp2_with fail
    refine Calls.mono (isWidth_any z _) ?_
    rintro e w1 ⟨rfl, rfl⟩
    rw [hw]
    go_wp2_with fail
    obtain ⟨W1, hW1⟩ : ∃ W, w.alloc (.cells #[.int .u64 a, .int .u64 b, .int .u64 c, .int .i64 z] 33) = W := ⟨_, rfl⟩
    have hs1 : W1.heap.size = w.heap.size + 1 := by rw [← hW1]; simp
    rw [hW1] at HK0 HB0 ⊢
    have HS1 := hide hs1
    clear hW1 hs1 kc
    obtain ⟨W2, hW2⟩ : ∃ W, W1.alloc (.cells #[.int .u8 78, .int .u8 84, .int .u8 82, .int .u8 89, .int .u8 49] 5 (5, 6)) = W := ⟨_, rfl⟩
    have HK2 := hide (by rw [← hW2]; exact (Kept.refl [] W1).alloc _ : Kept [] W1 W2)
    have HR2 := hide (by rw [← hW2, ← unhide HS1]; exact rd_row [78, 84, 82, 89, 49] (heap_alloc_new W1 _) rfl (by decide) 5 rfl (by decide) : Rd W2 (.slice (some ⟨w.heap.size + 1, 0, none⟩) 5 5) [78, 84, 82, 89, 49])
    rw [hW2]
    clear hW2
    obtain ⟨d0, d1, d2, d3⟩ := hcells ((unhide HK2).heap (unhide HB0) (by simp))
    refine Calls.mono (appendNumber_any W1 W2 _ [78, 84, 82, 89, 49] a (unhide HK2) (.inr ⟨_, rfl, unhide HR2⟩) (by decide)) ?_
    rintro e w3 ⟨v3, rfl, o3, k3⟩
    obtain ⟨a3, c3, rfl⟩ := o3.shape
    have HO3 := hide o3
    have HK3 := hide k3
    clear o3 k3 d0 d1 d2 d3 HR2 HK2
    obtain ⟨d0, d1, d2, d3⟩ := hcells ((unhide HK3).heap (unhide HB0) (by simp))
    go_wp2_with fail
    refine Calls.mono (appendNumber_any W1 w3 _ _ b (unhide HK3) (unhide HO3) (by simp [wide_len])) ?_
    rintro e w4 ⟨v4, rfl, o4, k4⟩
    obtain ⟨a4, c4, rfl⟩ := o4.shape
    have HO4 := hide o4
    have HK4 := hide k4
    clear o4 k4 d0 d1 d2 d3 HO3 HK3
    obtain ⟨d0, d1, d2, d3⟩ := hcells ((unhide HK4).heap (unhide HB0) (by simp))
    go_wp2_with fail
    refine Calls.mono (appendNumber_any W1 w4 _ _ c (unhide HK4) (unhide HO4) (by simp [wide_len])) ?_
    rintro e w5 ⟨v5, rfl, o5, k5⟩
    obtain ⟨a5, c5, rfl⟩ := o5.shape
    have HO5 := hide o5
    have HK5 := hide k5
    clear o5 k5 d0 d1 d2 d3 HO4 HK4
    have hbl : ([78, 84, 82, 89, 49] ++ wide a 8 ++ wide b 8 ++ wide c 8).length = 29 := by simp [wide_len]
    have HHB := hide (headB_eq a b c z)
    generalize [78, 84, 82, 89, 49] ++ wide a 8 ++ wide b 8 ++ wide c 8 = bs at HO5 HHB hbl
    obtain ⟨y, hy⟩ : ∃ y : Nat, z = (y : Int) := ⟨z.toNat, by omega⟩
    subst hy
    have hy2 : ((y : Int) % 256).toNat = y := by omega
    rw [hy2] at HHB
    have hval : (y : Int) % 256 = (y : Int) := by omega
    have HLB := hide hbl
    have hyl : y < 256 := by omega
    have HYL := hide hyl
    obtain ⟨d0, d1, d2, d3⟩ := hcells ((unhide HK5).heap (unhide HB0) (by simp))
    clear hbl hy2 hyl
    go_wp2_with (at_builtin; go_must (refine wpList_pushA rfl (.tmp 23) (.tmp 27) rfl rfl W1 _ _ bs y w5.heap.size ((unhide HK5).alloc _) (by exact (unhide HO5).pass ((Kept.refl [] w5).alloc _)) (heap_alloc_new _ _) (unhide HYL) (by rw [unhide HLB]; omega) rfl rfl ?_; intro a6 c6 w6 HO6 HK6; obtain ⟨x0, x1, x2, x3⟩ := hcells ((unhide HK6).heap (unhide HB0) (by simp))))
    have HK0w := hide (unhide HK6)
    have hby : ∀ x ∈ bs ++ [y], x < 256 := by
      have h9 : ∀ x ∈ headB a b c (y : Int), x < 256 := by
        intro x hx
        unfold headB at hx
        simp only [List.mem_append, List.mem_cons, List.not_mem_nil, or_false] at hx
        rcases hx with ((((h | h | h | h | h) | h) | h) | h) | h
        · omega
        · omega
        · omega
        · omega
        · omega
        · exact wide_byte _ _ x h
        · exact wide_byte _ _ x h
        · exact wide_byte _ _ x h
        · omega
      rw [unhide HHB] at h9; exact h9
    have HR6 := hide (rd_owns (unhide HO6) hby (by rw [List.length_append, unhide HLB]; simp))
    clear hby d0 d1 d2 d3
    refine Calls.mono (encode_any a _ (bs ++ [y]) w6 (unhide HR6) ha) ?_
    rintro e w7 ⟨v7, rfl, n7, k7⟩
    have hel : (bs ++ [y]).length = 30 := by rw [List.length_append, unhide HLB]; rfl
    have hee : encE (bs ++ [y]) = 0 := by unfold encE; rw [hel]; rfl
    have heb : encB a (bs ++ [y]) = frB a (bs ++ [y]) := by unfold encB; rw [hee]; rfl
    rw [heb] at n7
    rw [hee]
    have HN7 := hide (n7.weak (w0 := w) (Nat.le_trans (unhide HK0).size (unhide HK6).size))
    have HK7 := hide (((unhide HK0).trans (unhide HK6) (by simp)).trans k7 (by simp))
    clear n7 k7 hel hee heb
    go_wp2
    go_ret2
    exact ⟨_, rfl, by rw [unhide HHB]; exact unhide HN7, unhide HK7⟩
  · have hw' : wideB z = false := by simpa using hw
    have hE : ehE z = 1 := by simp [ehE, hw']
    have hB : ehB a b c z = [] := by simp [ehB, hw']
    rw [hE, hB]
    clear hE hB hw
    go_enter Tryz.func9, Tryz.ntmps9
    go_wp2_with fail
    refine Calls.mono (isWidth_any z _) ?_
    rintro e w1 ⟨rfl, rfl⟩
    rw [hw']
    go_wp2
    go_ret2
    exact ⟨_, rfl, NewB.nil _ _, unhide HK0⟩
end Go.Proofs.YtckkalmhekfnhabGreatDoor
