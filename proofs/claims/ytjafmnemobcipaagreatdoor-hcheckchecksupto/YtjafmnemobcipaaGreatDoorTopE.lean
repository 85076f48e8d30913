import Derived.Test.YtjafmnemobcipaaGreatDoorTopC
import Derived.Test.YtjafmnemobcipaaGreatDoorTopA
import Derived.Test.YtjafmnemobcipaaGreatDoorTopD
import Derived.Test.YtjafmnemobcipaaGreatDoorRowz
import Derived.Deep.RegionHeld3
namespace Go.Proofs.YtjafmnemobcipaaGreatDoor
open Go.RowKit Go.BigFrame
set_option linter.unusedVariables false
set_option linter.unusedSimpArgs false

theorem ordL_step {p q : List Nat} {k : Nat} (hp : k < p.length) (hq : k < q.length) : ordL (p.drop k) (q.drop k) = if p.getD k 0 < q.getD k 0 then -1 else if q.getD k 0 < p.getD k 0 then 1 else ordL (p.drop (k + 1)) (q.drop (k + 1)) := by
  rw [List.drop_eq_getElem_cons hp, List.drop_eq_getElem_cons hq, ordL, List.getD_eq_getElem?_getD, List.getD_eq_getElem?_getD, List.getElem?_eq_getElem hp, List.getElem?_eq_getElem hq]
  rfl
theorem ordL_end {p q : List Nat} {k : Nat} (hp : k ≤ p.length) (hq : k ≤ q.length) (h : p.length ≤ k ∨ q.length ≤ k) : decide (ordL (p.drop k) (q.drop k) < 0) = decide (p.length < q.length) := by
  rcases Nat.lt_or_ge k p.length with h1 | h1
  · have e1 : q.drop k = [] := List.drop_eq_nil_of_le (by omega)
    rw [e1, List.drop_eq_getElem_cons h1, ordL, decide_eq_false (by decide), decide_eq_false (by omega)]
  · have e1 : p.drop k = [] := List.drop_eq_nil_of_le (by omega)
    rcases Nat.lt_or_ge k q.length with h2 | h2
    · rw [e1, List.drop_eq_getElem_cons h2, ordL, decide_eq_true (by decide), decide_eq_true (by omega)]
    · have e2 : q.drop k = [] := List.drop_eq_nil_of_le (by omega)
      rw [e1, e2, ordL, decide_eq_false (by decide), decide_eq_false (by omega)]

set_option maxRecDepth 100000 in
set_option maxHeartbeats 1000000 in
theorem rless_any (u v : Value) (p q : List Nat) (w : World) (hu : Rd w u p) (hv : Rd w v q) :
    Calls Tryz.prog 55 #[u, v] w fun e w' => e = .returned (.bool (decide (ordL p q < 0))) ∧ Kept [] w w' := by
  obtain ⟨ao, len, cap, rfl, rfl, h2, ⟨h3, h3'⟩, h4, h5, h6⟩ := hu
  obtain ⟨ao', len', cap', rfl, rfl, g2, ⟨g3, g3'⟩, g4, g5, g6⟩ := hv
  have H6 := hide h6
  have G6 := hide g6
  clear h6 g6 h4 g4 h5 g5
  have HOR := hide (fun k h1 h2 => ordL_step (p := p) (q := q) (k := k) h1 h2)
  have HOE := hide (fun k h1 h2 h3 => ordL_end (p := p) (q := q) (k := k) h1 h2 h3)
  obtain ⟨R, hR⟩ : ∃ R, decide (ordL p q < 0) = R := ⟨_, rfl⟩
  have HS := hide (by simpa using hR : decide (ordL (p.drop 0) (q.drop 0) < 0) = R)
  rw [hR]
  clear hR
  go_enter Tryz.func55, Tryz.ntmps55
  go_wp2_with fail
  go_loopw [5] (fun t5 wr => ∃ k : Nat, k ≤ p.length ∧ k ≤ q.length ∧ t5 = .int .i64 k ∧ Hid (decide (ordL (p.drop k) (q.drop k) < 0) = R) ∧ ∃ n, wr = w.drewN n) (fun t _ => p.length - (intOf t).toNat)
  case atStart => exact ⟨0, Nat.zero_le _, Nat.zero_le _, rfl, HS, 0, rfl⟩
  case round =>
    obtain ⟨k, hkp, hkq, rfl, HR, n, rfl⟩ := hrel
    by_cases hlp : k < p.length
    · have hp' : (k : Int) < p.length := by omega
      by_cases hlq : k < q.length
      · have hq' : (k : Int) < q.length := by omega
        obtain ⟨ba, oa, rfl, ha⟩ := unhide H6 (by omega)
        obtain ⟨bb, ob, rfl, hb⟩ := unhide G6 (by omega)
        have ca := ha k hlp
        have cb := hb k hlq
        have HST := hide (unhide HOR k hlp hlq)
        clear ha hb
        rw [unhide HST] at HR
        generalize p.getD k 0 = x at *
        generalize q.getD k 0 = y at *
        by_cases e : x = y
        · subst e
          have HR2 := hide (by have h9 := unhide HR; rw [if_neg (Nat.lt_irrefl _), if_neg (Nat.lt_irrefl _)] at h9; exact h9)
          clear HR HST
          go_wp2_with fail
          go_quiet (fail)
          go_wp2
          go_roundw
          case rel => exact ⟨k + 1, by omega, by omega, by go_num, HR2, _, rfl⟩
          case measure => simp [intOf]; omega
        · have hne : ((x : Int) != (y : Int)) = true := by rw [bne_iff_ne]; omega
          have HR2 := hide (by
            have h9 := unhide HR
            by_cases hxy : x < y
            · rw [if_pos hxy] at h9; rw [← h9, decide_eq_true hxy]; rfl
            · rw [if_neg hxy, if_pos (by omega)] at h9; rw [← h9, decide_eq_false hxy]; rfl : decide (x < y) = R)
          clear HR HST e
          go_wp2_with fail
          go_quiet (fail)
          go_wp2_with fail
          go_quiet (fail)
          go_wp2
          go_ret
          exact ⟨by rw [← unhide HR2]; simp, by rw [drewN_drewN, drewN_drewN]; exact (Kept.refl [] w).drewN _⟩
      · have hq' : ¬ (k : Int) < q.length := by omega
        have HE := hide ((unhide HOE k hkp hkq (Or.inr (by omega))).symm.trans (unhide HR))
        clear HR
        go_wp2
        go_ret
        exact ⟨by rw [← unhide HE]; simp, (Kept.refl [] w).drewN _⟩
    · have hp' : ¬ (k : Int) < p.length := by omega
      have HE := hide ((unhide HOE k hkp hkq (Or.inl (by omega))).symm.trans (unhide HR))
      clear HR
      go_wp2
      go_ret
      exact ⟨by rw [← unhide HE]; simp, (Kept.refl [] w).drewN _⟩
end Go.Proofs.YtjafmnemobcipaaGreatDoor
namespace Go.Proofs.YtjafmnemobcipaaGreatDoor
open Go.RowKit Go.BigFrame
set_option linter.unusedVariables false
set_option linter.unusedSimpArgs false

theorem step_pushZ {ops : Array Oper} {o : Oper} {a : Act} {K : Act → World → Prop} {Q : Exit → Act → World → Prop} {F : Prop} (hgd : o.guard = none) (s x : Operand)
    (ho : o.op = .call { callee := .builtin .append, args := #[s, x], argTypes := #[67, 67] }) (hty : o.type = 67)
    (w0 w : World) (v : Value) (xs ys : List Nat) (H n : Nat) (h : OwnZ w0 w v xs) (hnew : w.heap[H]? = some (.cells (ys.map iv).toArray 3 (0, 0))) (hn : ys.length = n) (hn0 : 0 < n) (hl : xs.length + n ≤ 1000000000000)
    (hs : a.eval s = v) (hx : a.eval x = .slice (some ⟨H, 0, none⟩) n n)
    (hK : ∀ g cap w1, Hid (OwnZ w0 w1 (.slice (some ⟨g, 0, none⟩) (xs.length + n) cap) (xs ++ ys)) → Hid (w.grownBy w1 v.ownBlock) → K (a.put o.dst (.slice (some ⟨g, 0, none⟩) (xs.length + n) cap)) w1) :
    if Region.wanted o (yielded ops a.tmps) = true then Oper.wp Tryz.prog o a w K Q else F := by
  obtain ⟨g, cap, w1, hrun, h2, h3⟩ := pushZ w w0.heap.size v xs ys H n h.own hnew hn hn0 hl h.kept.size
  have hw : Region.wanted o (yielded ops a.tmps) = true := by simp [Region.wanted, hgd]
  rw [if_pos hw]
  unfold Oper.wp execOp
  simp only [ho, hty, resolve, invoke, builtin, Sem.run_bind, Sem.run_pure, Result.andThen_ok, List.map_toArray, List.map_cons, List.map_nil, hs, hx, hrun]
  refine hK g cap w1 ⟨?_, ?_⟩ h3
  · rw [List.map_append, List.length_append, hn]; exact h2
  · exact h.kept.grown h3 (by intro k hk; right; exact (h.own.lt k hk).1)

/-- The digits of the first k bytes. -/
def digsL (d : List Nat) : Nat → List Nat
  | 0 => []
  | k + 1 => digsL d k ++ [d.getD k 0 / 16, d.getD k 0 % 16]
theorem digsL_succ (d : List Nat) (k : Nat) : digsL d (k + 1) = digsL d k ++ [d.getD k 0 / 16, d.getD k 0 % 16] := rfl
theorem digsL_len (d : List Nat) : ∀ k, (digsL d k).length = 2 * k
  | 0 => rfl
  | k + 1 => by unfold digsL; rw [List.length_append, digsL_len d k]; simp; omega
theorem digsL_get (d : List Nat) : ∀ k i, i < 2 * k → (digsL d k).getD i 0 = dgt d i
  | 0, i, h => by omega
  | k + 1, i, h => by
    unfold digsL
    rw [List.getD_eq_getElem?_getD]
    rcases Nat.lt_or_ge i (2 * k) with g | g
    · rw [List.getElem?_append_left (by rw [digsL_len]; exact g), ← List.getD_eq_getElem?_getD, digsL_get d k i g]
    · rw [List.getElem?_append_right (by rw [digsL_len]; exact g), digsL_len]
      unfold dgt
      rcases (by omega : i = 2 * k ∨ i = 2 * k + 1) with rfl | rfl
      · rw [Nat.sub_self, if_pos (by omega), show 2 * k / 2 = k by omega]; rfl
      · rw [show 2 * k + 1 - 2 * k = 1 by omega, if_neg (by omega), show (2 * k + 1) / 2 = k by omega]; rfl

set_option maxRecDepth 100000 in
set_option maxHeartbeats 1000000 in
theorem digits_any (k : Nat) (d : List Nat) (w : World) (hk : k ≤ 32) (hd : Dg d) :
    Calls Tryz.prog 27 #[.int .i64 k, .agg (brow d)] w fun e w' => ∃ v, e = .returned v ∧ RdZ w' v (digsL d k) ∧ Kept [] w w' := by
  have hdl := hd.1
  have HD := hide hd
  have HA := hide (heap_alloc_new w (.cells (brow d) 28))
  have HK := hide ((Kept.refl [] w).alloc (.cells (brow d) 28))
  go_enter Tryz.func27, Tryz.ntmps27
  go_wp2_with fail
  have hsw : (w.alloc (.cells (brow d) 28)).heap.size = w.heap.size + 1 := Array.size_push _
  have HSW : Hid ((w.alloc (.cells (brow d) 28)).heap.size = w.heap.size + 1) := hide hsw
  clear hsw
  obtain ⟨W, hW⟩ : ∃ W, w.alloc (.cells (brow d) 28) = W := ⟨_, rfl⟩
  rw [hW] at HA HK HSW ⊢
  clear hW
  go_loopw [5, 6] (fun t2 t3 wr => ∃ (i : Nat), i ≤ k ∧ t3 = .int .i64 i ∧ Hid (OwnZ W wr t2 (digsL d i))) (fun _ t _ => k - (intOf t).toNat)
  case atStart => exact ⟨0, by omega, rfl, hide (OwnZ.start (Kept.refl _ _))⟩
  case round =>
    obtain ⟨i, hi, rfl, HO⟩ := hrel
    have HKr := hide (unhide HO).kept
    by_cases hlt : i < k
    · have hlt' : (i : Int) < k := by omega
      have hi32 : (i : Int) < 32 := by omega
      have ci := (unhide HKr).cell (brow_cell (unhide HA) i (by omega)) (by simp)
      have hx : d.getD i 0 < 256 := by rw [List.getD_eq_getElem?_getD, List.getElem?_eq_getElem (by omega)]; exact hd.2 _ (List.getElem_mem _)
      have HS := hide (digsL_succ d i)
      have HL := hide (digsL_len d i)
      obtain ⟨x, he⟩ : ∃ x, d.getD i 0 = x := ⟨_, rfl⟩
      rw [he] at ci hx HS
      clear he
      obtain ⟨p, hp⟩ : ∃ p, x / 16 = p := ⟨_, rfl⟩
      obtain ⟨q, hq⟩ : ∃ q, x % 16 = q := ⟨_, rfl⟩
      have h1 : (x : Int).tdiv 16 = p := by rw [Int.tdiv_eq_ediv_of_nonneg (by omega)]; omega
      have h2 : (x : Int).tmod 16 = q := by rw [Int.tmod_eq_emod_of_nonneg (by omega)]; omega
      have h3 : (x : Int) / 16 = p := by omega
      have h4 : (x : Int) % 16 = q := by omega
      rw [hp, hq] at HS
      clear hp hq
      go_wp2_with fail
      have e0 : IntKind.i64.wrap (x : Int) = x := by simp [IntKind.wrap, IntKind.signed, IntKind.bits]; omega
      have e1 : IntKind.i64.wrap ((IntKind.i64.wrap (x : Int)).tdiv 16) = p := by rw [e0, h1]; simp [IntKind.wrap, IntKind.signed, IntKind.bits]; omega
      have e3 : IntKind.i64.wrap (p : Int) = p := by simp [IntKind.wrap, IntKind.signed, IntKind.bits]; omega
      have e2 : (IntKind.i64.wrap (x : Int)).tmod 16 = q := by rw [e0, h2]
      have HN := hide (heap_alloc_new wr (.cells #[.int .i64 (p : Int), .int .i64 (q : Int)] 3))
      have HO1 := hide ((unhide HO).pass (((Kept.refl [] wr).alloc (.cells #[.int .i64 (p : Int), .int .i64 (q : Int)] 3))).drew)
      have HC := hide (fun (w1 : World) (hg : Hid ((wr.alloc (.cells #[.int .i64 (p : Int), .int .i64 (q : Int)] 3)).drew.grownBy w1 u5.ownBlock)) => by
        have k9 : Kept u5.ownBlock.toList (wr.alloc (.cells #[.int .i64 (p : Int), .int .i64 (q : Int)] 3)).drew w1 := (Kept.refl _ _).grown (unhide hg) (by intro k hk; left; simp [hk])
        exact k9.cell (((Kept.refl [] wr).alloc (.cells #[.int .i64 (p : Int), .int .i64 (q : Int)] 3)).drew.cell ci (by simp)) (by
          intro hm
          have h9 := (unhide HO).own.lt w.heap.size (by simpa using hm)
          have h8 := unhide HSW
          omega) : ∀ w1, Hid ((wr.alloc (.cells #[.int .i64 (p : Int), .int .i64 (q : Int)] 3)).drew.grownBy w1 u5.ownBlock) → w1.cell? ⟨w.heap.size, i, none⟩ = some (Go.Proofs.YtjafmnemobcipaaGreatDoor.u8 x))
      go_region_held3 (fun w' => w'.cell? ⟨w.heap.size, i, none⟩ = some (Go.Proofs.YtjafmnemobcipaaGreatDoor.u8 x)) (go_keep) (first | ((try rw [e3]); refine step_pushZ (by rfl) (.tmp 12) (.tmp 23) (by rfl) (by rfl) W (wr.alloc (.cells #[.int .i64 (p : Int), .int .i64 (q : Int)] 3)).drew u5 (digsL d i) [p, q] wr.heap.size 2 (unhide HO1) (by exact unhide HN) rfl (by decide) (by rw [unhide HL]; omega) (by rfl) (by rfl) ?_; intro g cap w1 HO2 HG2; have c9 := unhide HC w1 HG2))
      go_wp2
      refine ⟨⟨i + 1, by omega, by simp, hide (by rw [unhide HS]; exact unhide HO2)⟩, ?_⟩
      simp [intOf]; omega
    · have hlt' : ¬ (i : Int) < k := by omega
      obtain rfl : i = k := by omega
      go_wp2
      go_ret
      exact ⟨_, rfl, (unhide HO).rd, (unhide HK).trans (unhide HO).kept (by simp)⟩
end Go.Proofs.YtjafmnemobcipaaGreatDoor
namespace Go.Proofs.YtjafmnemobcipaaGreatDoor
open Go.RowKit Go.BigFrame
set_option linter.unusedVariables false
set_option linter.unusedSimpArgs false

theorem okP_eq (z : Int) (path : List Nat) (n : Nat) (ps : List (List Nat × List Nat)) (i : Nat) (pk pw k0 kq : List Nat) (h1 : ps.getD i ([], []) = (pk, pw)) (h0 : (ps.getD 0 ([], [])).1 = k0) (hq : (ps.getD (i - 1) ([], [])).1 = kq) :
    okP z path n ps i = (decide (pk.length ≤ 64) && (decide (pw.length ≤ 256) && ((decide (i = 0) || decide (ordL kq pk < 0)) && (decide (keyS z pk = keyS z k0) && (List.range n).all (fun j => decide (dgt (keyS z pk) j = path.getD j 0)))))) := by
  unfold okP; rw [h1, h0, hq]

set_option maxRecDepth 100000 in
set_option maxHeartbeats 6000000 in
theorem rpairs_any (k : Nat) (pathv sv pv : Value) (path : List Nat) (ss : List (Nat × List (List Nat))) (ps : List (List Nat × List Nat)) (w : World) (hk : 1 ≤ k ∧ k ≤ 32) (hpa : RdZ w pathv path) (hpl : path.length = 2 * k) (hs : RdS w sv ss) (hn : ss.length ≤ 2 * k) (hp : RdK w pv ps) (hpb : ∀ p ∈ ps, p.1.length ≤ 1000000000) :
    Calls Tryz.prog 30 #[.int .i64 k, pathv, .agg #[sv, pv]] w fun e w' => e = .returned (.bool (prsR (k : Int) path ss.length ps ps.length)) ∧ Kept [] w w' := by
  obtain ⟨sa, ls, sc, _, rfl, s1, _⟩ := hs
  obtain ⟨pa, pn, pc, vs, us, rfl, p1, p2, p3, p4, p5⟩ := hp
  obtain ⟨ha, hc, rfl, z1, z2, z3⟩ := hpa
  have P4 := hide p4
  have P5 := hide p5
  have Z3 := hide z3
  have HPB := hide hpb
  rw [hpl] at z1 ⊢
  rw [s1] at hn ⊢
  rw [p1]
  have HPL := hide hpl
  have HP1 := hide p1
  clear p4 p5 z3 hpb hpl p1 s1
  have HK0 := hide ((Kept.refl [] w).alloc (.cells #[.slice sa ls sc, .slice pa pn pc] 26))
  have HG0 := hide (heap_alloc_new w (.cells #[.slice sa ls sc, .slice pa pn pc] 26))
  obtain ⟨W, hW⟩ : ∃ W, w.alloc (.cells #[.slice sa ls sc, .slice pa pn pc] 26) = W := ⟨_, rfl⟩
  rw [hW] at HK0 HG0
  have c1 : W.cell? ⟨w.heap.size, 1, none⟩ = some (.slice pa pn pc) := cell_of_row _ _ 1 _ _ _ (unhide HG0)
  go_enter Tryz.func30, Tryz.ntmps30
  go_wp2_with (rw [hW])
  clear hW c1
  go_loopw [14] (fun t14 wr => ∃ (i : Nat), i ≤ pn ∧ t14 = .int .i64 i ∧ Hid (prsR (k : Int) path ls ps i = true) ∧ Hid (Kept [] w wr) ∧ Hid (wr.heap[w.heap.size]? = some (.cells #[.slice sa ls sc, .slice pa pn pc] 26 (0, 0)))) (fun t _ => pn - (intOf t).toNat)
  case atStart => exact ⟨0, Nat.zero_le _, rfl, hide rfl, HK0, HG0⟩
  case round =>
    obtain ⟨i, hi, rfl, HA, HK, HG⟩ := hrel
    by_cases hlt : i < pn
    · have hlt' : (i : Int) < pn := by omega
      obtain ⟨b, o, rfl, hcell⟩ := unhide P5 (by omega)
      have q1 := (unhide HK).cell (hcell i hlt).1 (by simp)
      have q2 := (unhide HK).cell (hcell i hlt).2 (by simp)
      have q3 := (unhide HK).cell (hcell 0 (by omega)).1 (by simp)
      have q4 := (unhide HK).cell (hcell (i - 1) (by omega)).1 (by simp)
      rw [Nat.zero_mul, Nat.add_zero] at q3
      have HX := hide (unhide P4 i hlt)
      have HX0 := hide (unhide P4 0 (by omega)).1
      have HXQ := hide (unhide P4 (i - 1) (by omega)).1
      have HB1 := hide (fun j (hj : j < pn) => unhide HPB (ps.getD j ([], [])) (by rw [List.getD_eq_getElem?_getD, List.getElem?_eq_getElem (by rw [unhide HP1]; exact hj)]; exact List.getElem_mem _))
      have HBI := hide (unhide HB1 i hlt)
      have HB0 := hide (unhide HB1 0 (by omega))
      have HST := hide (by rw [prsR, unhide HA, Bool.true_and] : prsR (k : Int) path ls ps (i + 1) = okP (k : Int) path ls ps i)
      have HDN := hide (fun h => prsR_down (z := (k : Int)) (path := path) (n := ls) (ps := ps) (i := i + 1) pn hlt h)
      have HOK := hide (okP_eq (k : Int) path ls ps i _ _ _ _ (by rfl : ps.getD i ([], []) = ((ps.getD i ([], [])).1, (ps.getD i ([], [])).2)) rfl rfl)
      clear hcell
      generalize (ps.getD (i - 1) ([], [])).1 = kq at HXQ HOK
      generalize (ps.getD 0 ([], [])).1 = k0 at HX0 HOK HB0
      generalize (ps.getD i ([], [])).1 = pk at HX HOK HBI
      generalize (ps.getD i ([], [])).2 = pw at HX HOK
      generalize vs.getD i undef = u7 at q1 HX
      generalize us.getD i undef = u9 at q2 HX
      generalize vs.getD 0 undef = u0 at q3 HX0
      generalize vs.getD (i - 1) undef = uq at q4 HXQ
      obtain ⟨a7, m7, c7, rfl, hm7, _⟩ := id (unhide HX).1
      obtain ⟨a9, m9, c9, rfl, hm9, _⟩ := id (unhide HX).2
      obtain ⟨a0, m0, c0, rfl, _⟩ := id (unhide HX0)
      obtain ⟨aq, mq, cq, rfl, _⟩ := id (unhide HXQ)
      rw [hm7, hm9] at HOK
      have HM7 := hide hm7
      clear hm7 hm9
      have HKa := hide ((Kept.refl [] wr).alloc (.cells #[.slice a7 m7 c7, .slice a9 m9 c9] 51))
      have HGa := hide (heap_alloc_new wr (.cells #[.slice a7 m7 c7, .slice a9 m9 c9] 51))
      by_cases h64 : 64 < m7
      · have h64' : decide ((64 : Int) < m7) = true := by simp; omega
        have HF := hide (unhide HDN (by rw [unhide HST, unhide HOK, decide_eq_false (by omega : ¬ m7 ≤ 64), Bool.false_and]))
        have HKF := hide ((unhide HK).trans (unhide HKa) (by simp))
        clear h64
        go_wp2
        go_ret
        exact ⟨by rw [unhide HF]; rfl, unhide HKF⟩
      · have h64' : decide ((64 : Int) < m7) = false := by simp; omega
        by_cases h256 : 256 < m9
        · have h256' : decide ((256 : Int) < m9) = true := by simp; omega
          have HF := hide (unhide HDN (by rw [unhide HST, unhide HOK, decide_eq_false (by omega : ¬ m9 ≤ 256), Bool.false_and, Bool.and_false]))
          have HKF := hide ((unhide HK).trans (unhide HKa) (by simp))
          clear h256
          go_wp2
          go_ret
          exact ⟨by rw [unhide HF]; rfl, unhide HKF⟩
        · have h256' : decide ((256 : Int) < m9) = false := by simp; omega
          have HOK2 := hide (by rw [unhide HOK, decide_eq_true (by omega : m7 ≤ 64), decide_eq_true (by omega : m9 ≤ 256), Bool.true_and, Bool.true_and] : okP (k : Int) path ls ps i = ((decide (i = 0) || decide (ordL kq pk < 0)) && (decide (keyS (k : Int) pk = keyS (k : Int) k0) && (List.range ls).all (fun j => decide (dgt (keyS (k : Int) pk) j = path.getD j 0)))))
          clear h64 h256 HOK
          have HKX := hide ((unhide HK).trans (unhide HKa) (by simp))
          have HGX := hide ((unhide HKa).heap (unhide HG) (by simp))
          have gq := (unhide HKa).cell q4 (by simp)
          have g0 := (unhide HKa).cell q3 (by simp)
          obtain ⟨X, hX⟩ : ∃ X, wr.alloc (.cells #[.slice a7 m7 c7, .slice a9 m9 c9] 51) = X := ⟨_, rfl⟩
          rw [hX] at HKX HGX HGa gq g0
          have e1 : X.cell? ⟨w.heap.size, 1, none⟩ = some (.slice (some ⟨b, o, none⟩) pn pc) := cell_of_row _ _ 1 _ _ _ (unhide HGX)
          have fq : X.cell? ⟨wr.heap.size, 0, none⟩ = some (.slice a7 m7 c7) := cell_of_row _ _ 0 _ _ _ (unhide HGa)
          have fq1 : X.cell? ⟨wr.heap.size, 1, none⟩ = some (.slice a9 m9 c9) := cell_of_row _ _ 1 _ _ _ (unhide HGa)
          have hne : ∀ p : Prop, (∀ w', Kept [] X w' → p) = p := fun p => propext ⟨fun h => h X (Kept.refl [] X), fun h _ _ => h⟩
          obtain ⟨hi0, hF⟩ | hi0 | ⟨hi0, hF⟩ : (¬ i = 0 ∧ ¬ ordL kq pk < 0) ∨ i = 0 ∨ (¬ i = 0 ∧ ordL kq pk < 0) := by omega
          case inl =>
            have HF := hide (unhide HDN (by rw [unhide HST, unhide HOK2, decide_eq_false hi0, decide_eq_false hF]; rfl))
            have hi1 : decide (0 < i) = true := by simp; omega
            have hi2 : IntKind.i64.wrap ((i : Int) - 1) = ((i - 1 : Nat) : Int) := by simp [IntKind.wrap, IntKind.signed, IntKind.bits]; omega
            have hi3 : ((i - 1 : Nat) : Int) < pn := by omega
            have hi4 : (0 : Int) ≤ ((i - 1 : Nat) : Int) := by omega
            have HLS := hide (fun w' (hw' : Kept [] X w') => (rless_any (.slice aq mq cq) (.slice a7 m7 c7) kq pk w' ((unhide HXQ).old ((unhide HKX).trans hw' (by simp)) (by simp)) ((unhide HX).1.old ((unhide HKX).trans hw' (by simp)) (by simp))).mono (fun e w2 (h2 : _ ∧ _) => (⟨h2.1, hw'.trans h2.2 (by simp)⟩ : _ ∧ Kept [] X w2)))
            rw [decide_eq_false hF] at HLS
            generalize i - 1 = i9 at *
            go_wp2_with (rw [hX])
            refine wp_region_keep (by kernel_rfl) (by kernel_rfl) ?_
            iterate 2 (go_big_quiet_step (fail))
            (try rw [hi1])
            iterate 2 (go_big_quiet_step (fail))
            refine wpQuiet_val rfl (.slice (some ⟨b, o, none⟩) pn pc) (fun w' hw' => by have h9 := hw'.cell e1 (by simp); go_simp) ?_
            simp only [Act.put, List.setIfInBounds_toArray, List.set_cons_succ, List.set_cons_zero]
            iterate 4 (go_big_quiet_step (fail))
            refine wpQuiet_val rfl (.slice aq mq cq) (fun w' hw' => by have h9 := hw'.cell gq (by simp); go_simp) ?_
            simp only [Act.put, List.setIfInBounds_toArray, List.set_cons_succ, List.set_cons_zero]
            go_big_quiet_step (fail)
            refine wpQuiet_val rfl (.slice a7 m7 c7) (fun w' hw' => by have h9 := hw'.cell fq (by simp); go_simp) ?_
            simp only [Act.put, List.setIfInBounds_toArray, List.set_cons_succ, List.set_cons_zero]
            go_big_quiet_want
            go_big_quiet_op
            apply Exists.intro
            refine ⟨fun w' hw' => ?_, ?_⟩
            · exact unhide HLS w' hw'
            go_big_quiet_on
            repeat (go_big_quiet_step (fail))
            refine wpQuiet_nil ?_
            intro w2 k2
            have HK2 := hide ((unhide HKX).trans k2 (by simp))
            go_wp2
            go_ret
            exact ⟨by rw [unhide HF]; rfl, unhide HK2⟩
          case' inr.inl =>
            have HOK3 := hide (by rw [unhide HOK2, decide_eq_true hi0, Bool.true_or, Bool.true_and] : okP (k : Int) path ls ps i = (decide (keyS (k : Int) pk = keyS (k : Int) k0) && (List.range ls).all (fun j => decide (dgt (keyS (k : Int) pk) j = path.getD j 0))))
            have hi1 : decide (0 < i) = false := by simp; omega
            have HI0 := hide hi0
            clear hi0
            go_wp2_with (rw [hX])
            refine wp_region_keep (by kernel_rfl) (by kernel_rfl) ?_
            iterate 2 (go_big_quiet_step (fail))
            (try rw [hi1])
            repeat (go_big_quiet_step (fail))
            refine wpQuiet_nil ?_
            intro w2 k2
            have hi0 := unhide HI0
            clear hi1 HI0
          case' inr.inr =>
            have HOK3 := hide (by rw [unhide HOK2, decide_eq_true hF, Bool.or_true, Bool.true_and] : okP (k : Int) path ls ps i = (decide (keyS (k : Int) pk = keyS (k : Int) k0) && (List.range ls).all (fun j => decide (dgt (keyS (k : Int) pk) j = path.getD j 0))))
            have hi1 : decide (0 < i) = true := by simp; omega
            have hi2 : IntKind.i64.wrap ((i : Int) - 1) = ((i - 1 : Nat) : Int) := by simp [IntKind.wrap, IntKind.signed, IntKind.bits]; omega
            have hi3 : ((i - 1 : Nat) : Int) < pn := by omega
            have hi4 : (0 : Int) ≤ ((i - 1 : Nat) : Int) := by omega
            have HLS := hide (fun w' (hw' : Kept [] X w') => (rless_any (.slice aq mq cq) (.slice a7 m7 c7) kq pk w' ((unhide HXQ).old ((unhide HKX).trans hw' (by simp)) (by simp)) ((unhide HX).1.old ((unhide HKX).trans hw' (by simp)) (by simp))).mono (fun e w2 (h2 : _ ∧ _) => (⟨h2.1, hw'.trans h2.2 (by simp)⟩ : _ ∧ Kept [] X w2)))
            rw [decide_eq_true hF] at HLS
            generalize i - 1 = i9 at *
            go_wp2_with (rw [hX])
            refine wp_region_keep (by kernel_rfl) (by kernel_rfl) ?_
            iterate 2 (go_big_quiet_step (fail))
            (try rw [hi1])
            iterate 2 (go_big_quiet_step (fail))
            refine wpQuiet_val rfl (.slice (some ⟨b, o, none⟩) pn pc) (fun w' hw' => by have h9 := hw'.cell e1 (by simp); go_simp) ?_
            simp only [Act.put, List.setIfInBounds_toArray, List.set_cons_succ, List.set_cons_zero]
            iterate 4 (go_big_quiet_step (fail))
            refine wpQuiet_val rfl (.slice aq mq cq) (fun w' hw' => by have h9 := hw'.cell gq (by simp); go_simp) ?_
            simp only [Act.put, List.setIfInBounds_toArray, List.set_cons_succ, List.set_cons_zero]
            go_big_quiet_step (fail)
            refine wpQuiet_val rfl (.slice a7 m7 c7) (fun w' hw' => by have h9 := hw'.cell fq (by simp); go_simp) ?_
            simp only [Act.put, List.setIfInBounds_toArray, List.set_cons_succ, List.set_cons_zero]
            go_big_quiet_want
            go_big_quiet_op
            apply Exists.intro
            refine ⟨fun w' hw' => ?_, ?_⟩
            · exact unhide HLS w' hw'
            go_big_quiet_on
            repeat (go_big_quiet_step (fail))
            refine wpQuiet_nil ?_
            intro w2 k2
            clear hi1 hi2 hi3 hi4 hF HLS
          all_goals
            clear hne
            have HK2 := hide ((unhide HKX).trans k2 (by simp))
            have HG2 := hide (k2.heap (unhide HGX) (by simp))
            have e2 := k2.cell e1 (by simp)
            have f2 := k2.cell fq (by simp)
            have g2 := k2.cell g0 (by simp)
            clear k2 e1 fq fq1 g0 gq HGX HKX hX HKa HGa HK HG HOK2 hi0 q1 q2 q3 q4
            have hne : ∀ p : Prop, (∀ w', Kept [] w2 w' → p) = p := fun p => propext ⟨fun h => h w2 (Kept.refl [] w2), fun h _ _ => h⟩
            have hpn0 : (0 : Int) < pn := by omega
            have HKY := hide (fun w' (hw' : Kept [] w2 w') => (refKey_any k (.slice a7 m7 c7) pk w' hk ((unhide HX).1.old ((unhide HK2).trans hw' (by simp)) (by simp)) (by have := unhide HBI; omega)).mono (fun e w3 (h2 : _ ∧ _) => (⟨h2.1, hw'.trans h2.2 (by simp)⟩ : _ ∧ Kept [] w2 w3)) : ∀ w', Kept [] w2 w' → Calls Tryz.prog 28 #[.int .i64 k, .slice a7 m7 c7] w' fun e w3 => e = .returned (.agg (brow (keyS (k : Int) pk))) ∧ Kept [] w2 w3)
            have HKZ := hide (fun w' (hw' : Kept [] w2 w') => (refKey_any k (.slice a0 m0 c0) k0 w' hk ((unhide HX0).old ((unhide HK2).trans hw' (by simp)) (by simp)) (by have := unhide HB0; omega)).mono (fun e w3 (h2 : _ ∧ _) => (⟨h2.1, hw'.trans h2.2 (by simp)⟩ : _ ∧ Kept [] w2 w3)) : ∀ w', Kept [] w2 w' → Calls Tryz.prog 28 #[.int .i64 k, .slice a0 m0 c0] w' fun e w3 => e = .returned (.agg (brow (keyS (k : Int) k0))) ∧ Kept [] w2 w3)
            have HDA := hide (keyS_dg (k : Int) pk)
            have HDB := hide (keyS_dg (k : Int) k0)
            have HKD0 : ∀ w', Kept [] w w' → Calls Tryz.prog 28 #[.int .i64 k, .slice a7 m7 c7] w' fun e w3 => e = .returned (.agg (brow (keyS (k : Int) pk))) ∧ Kept [] w' w3 := fun w' (hw' : Kept [] w w') => refKey_any k (.slice a7 m7 c7) pk w' hk ((unhide HX).1.old hw' (by simp)) (by have := unhide HBI; omega)
            have HKD := hide HKD0
            clear HKD0
            generalize keyS (k : Int) pk = A at *
            generalize keyS (k : Int) k0 = B at *
            have hal := (unhide HDA).1
            have hbl := (unhide HDB).1
            have heq := fun W => dig_eq W A B hal hbl
            go_wp2_with fail
            refine wp_region_keep (by kernel_rfl) (by kernel_rfl) ?_
            iterate 2 (go_big_quiet_step (fail))
            refine wpQuiet_val rfl (.slice a7 m7 c7) (fun w' hw' => by have h9 := hw'.cell f2 (by simp); go_simp) ?_
            simp only [Act.put, List.setIfInBounds_toArray, List.set_cons_succ, List.set_cons_zero]
            go_big_quiet_want
            go_big_quiet_op
            apply Exists.intro
            refine ⟨fun w' hw' => ?_, ?_⟩
            · exact unhide HKY w' hw'
            go_big_quiet_on
            iterate 2 (go_big_quiet_step (fail))
            refine wpQuiet_val rfl (.slice (some ⟨b, o, none⟩) pn pc) (fun w' hw' => by have h9 := hw'.cell e2 (by simp); go_simp) ?_
            simp only [Act.put, List.setIfInBounds_toArray, List.set_cons_succ, List.set_cons_zero]
            iterate 2 (go_big_quiet_step (fail))
            refine wpQuiet_val rfl (.slice a0 m0 c0) (fun w' hw' => by have h9 := hw'.cell g2 (by simp); go_simp) ?_
            simp only [Act.put, List.setIfInBounds_toArray, List.set_cons_succ, List.set_cons_zero]
            go_big_quiet_want
            go_big_quiet_op
            apply Exists.intro
            refine ⟨fun w' hw' => ?_, ?_⟩
            · exact unhide HKZ w' hw'
            go_big_quiet_on
            refine wpQuiet_val rfl (.bool (!decide (A = B))) (fun w' hw' => run_neq 28 (.tmp 47) (.tmp 54) _ rfl (brow A) (brow B) rfl rfl w' _ (by kernel_rfl) (heq w')) ?_
            simp only [Act.put, List.setIfInBounds_toArray, List.set_cons_succ, List.set_cons_zero]
            refine wpQuiet_nil ?_
            intro w3 k3
            have HK3 := hide ((unhide HK2).trans k3 (by simp))
            have HG3 := hide (k3.heap (unhide HG2) (by simp))
            have f3 := k3.cell f2 (by simp)
            clear k3 e2 f2 g2 hne HKY HKZ HK2 HG2 heq
            by_cases hAB : A = B
            case neg =>
              have HF := hide (unhide HDN (by rw [unhide HST, unhide HOK3, decide_eq_false hAB]; rfl))
              rw [decide_eq_false hAB]
              go_wp2
              go_ret
              exact ⟨by rw [unhide HF]; rfl, unhide HK3⟩
            case pos =>
              have HOK4 := hide (by rw [unhide HST, unhide HOK3, decide_eq_true hAB, Bool.true_and] : prsR (k : Int) path ls ps (i + 1) = (List.range ls).all (fun j => decide (dgt A j = path.getD j 0)))
              rw [decide_eq_true hAB]
              clear hAB HOK3 HST
              go_wp2_with fail
              refine Calls.mono (unhide HKD w3 (unhide HK3)) ?_
              rintro e w4 ⟨rfl, k4⟩
              go_wp2_with fail
              refine Calls.mono (digits_any k A w4 hk.2 (unhide HDA)) ?_
              rintro e w5 ⟨v5, rfl, r5, k5⟩
              obtain ⟨d5, c5, rfl, z51, z52, z53⟩ := r5
              have Z53 := hide z53
              have HLD := hide (digsL_len A k)
              rw [unhide HLD] at z51 ⊢
              clear z53
              have HK5 := hide (((unhide HK3).trans k4 (by simp)).trans k5 (by simp))
              have HG5 := hide (k5.heap (k4.heap (unhide HG3) (by simp)) (by simp))
              have c50 : w5.cell? ⟨w.heap.size, 0, none⟩ = some (.slice sa ls sc) := cell_of_row _ _ 0 _ _ _ (unhide HG5)
              clear k4 k5 f3 HK3 HG3 HKD
              go_wp2_with fail
              clear c50
              obtain ⟨wo, hwo⟩ : ∃ wo, wo = wr := ⟨_, rfl⟩
              subst hwo
              go_loopw [65] (fun t65 wr => ∃ (j : Nat), j ≤ ls ∧ t65 = .int .i64 j ∧ Hid ((List.range j).all (fun j => decide (dgt A j = path.getD j 0)) = true) ∧ Hid (Kept [] w5 wr)) (fun t _ => ls - (intOf t).toNat)
              case atStart => exact ⟨0, Nat.zero_le _, rfl, hide rfl, hide (Kept.refl _ _)⟩
              case round =>
                obtain ⟨j, hj, rfl, HJ, HKj⟩ := hrel
                by_cases hjt : j < ls
                · have hjt' : (j : Int) < ls := by omega
                  have hjk : (j : Int) < ((2 * k : Nat) : Int) := by omega
                  obtain ⟨zb', zo, rfl, zcell⟩ := unhide Z3 (by rw [unhide HPL]; omega)
                  have q3 := (unhide HKj).cell ((unhide HK5).cell (zcell j (by rw [unhide HPL]; omega)) (by simp)) (by simp)
                  obtain ⟨yb, yo, rfl, ycell⟩ := unhide Z53 (by rw [unhide HLD]; omega)
                  have q5 := (unhide HKj).cell (ycell j (by rw [unhide HLD]; omega)) (by simp)
                  rw [digsL_get A k j (by omega)] at q5
                  clear zcell ycell
                  have HJN := hide (by rw [List.range_succ, List.all_append, unhide HJ]; simp : (List.range (j + 1)).all (fun j => decide (dgt A j = path.getD j 0)) = decide (dgt A j = path.getD j 0))
                  have HJF := hide (fun (h : ¬ dgt A j = path.getD j 0) => by rw [List.all_eq_false]; exact ⟨j, List.mem_range.2 hjt, by rw [decide_eq_false h]; decide⟩ : ¬ dgt A j = path.getD j 0 → (List.range ls).all (fun j => decide (dgt A j = path.getD j 0)) = false)
                  generalize dgt A j = x at *
                  generalize path.getD j 0 = y at *
                  have hne : ∀ p : Prop, (∀ w', Kept [] wr w' → p) = p := fun p => propext ⟨fun h => h wr (Kept.refl [] wr), fun h _ _ => h⟩
                  by_cases hxy : x = y
                  · have gx : ((x : Int) != (y : Int)) = false := by simp; omega
                    have HJ2 := hide (by rw [unhide HJN, decide_eq_true hxy] : (List.range (j + 1)).all (fun j => decide (dgt A j = path.getD j 0)) = true)
                    clear hxy HJN HJF
                    go_wp2_with fail
                    refine wp_region_keep (by kernel_rfl) (by kernel_rfl) ?_
                    iterate 3 (go_big_quiet_step (fail))
                    refine wpQuiet_val rfl (.int .i64 x) (fun w' hw' => by have h9 := hw'.cell q5 (by simp); go_simp) ?_
                    simp only [Act.put, List.setIfInBounds_toArray, List.set_cons_succ, List.set_cons_zero]
                    iterate 3 (go_big_quiet_step (fail))
                    refine wpQuiet_val rfl (.int .i64 y) (fun w' hw' => by have h9 := hw'.cell q3 (by simp); go_simp) ?_
                    simp only [Act.put, List.setIfInBounds_toArray, List.set_cons_succ, List.set_cons_zero]
                    repeat (go_big_quiet_step (fail))
                    refine wpQuiet_nil ?_
                    intro w6 k6
                    have HK6 := hide ((unhide HKj).trans k6 (by simp))
                    clear k6
                    go_wp2
                    go_roundw
                    case rel => exact ⟨j + 1, hjt, by go_num, HJ2, HK6⟩
                    case measure => simp [intOf]; omega
                  · have gx : ((x : Int) != (y : Int)) = true := by rw [bne_iff_ne]; omega
                    have HF := hide (unhide HDN (by rw [unhide HOK4]; exact unhide HJF hxy))
                    clear hxy HJN HJF
                    go_wp2_with fail
                    refine wp_region_keep (by kernel_rfl) (by kernel_rfl) ?_
                    iterate 3 (go_big_quiet_step (fail))
                    refine wpQuiet_val rfl (.int .i64 x) (fun w' hw' => by have h9 := hw'.cell q5 (by simp); go_simp) ?_
                    simp only [Act.put, List.setIfInBounds_toArray, List.set_cons_succ, List.set_cons_zero]
                    iterate 3 (go_big_quiet_step (fail))
                    refine wpQuiet_val rfl (.int .i64 y) (fun w' hw' => by have h9 := hw'.cell q3 (by simp); go_simp) ?_
                    simp only [Act.put, List.setIfInBounds_toArray, List.set_cons_succ, List.set_cons_zero]
                    repeat (go_big_quiet_step (fail))
                    refine wpQuiet_nil ?_
                    intro w6 k6
                    have HK6 := hide (((unhide HK5).trans (unhide HKj) (by simp)).trans k6 (by simp))
                    clear k6
                    go_wp2
                    go_ret
                    exact ⟨by rw [unhide HF]; rfl, unhide HK6⟩
                · have hjt' : ¬ (j : Int) < ls := by omega
                  have HN2 := hide (by rw [unhide HOK4, ← show j = ls by omega]; exact unhide HJ : prsR (k : Int) path ls ps (i + 1) = true)
                  have HK6 := hide ((unhide HK5).trans (unhide HKj) (by simp))
                  have HG6 := hide ((unhide HKj).heap (unhide HG5) (by simp))
                  go_wp2
                  go_roundw
                  case rel => exact ⟨i + 1, hlt, by go_num, HN2, HK6, HG6⟩
                  case measure => simp [intOf]; omega
    · have hlt' : ¬ (i : Int) < pn := by omega
      have HA2 := hide (by have h9 := unhide HA; rw [show i = pn by omega] at h9; exact h9 : prsR (k : Int) path ls ps pn = true)
      go_wp2
      go_ret
      exact ⟨by rw [unhide HA2]; rfl, unhide HK⟩
end Go.Proofs.YtjafmnemobcipaaGreatDoor
namespace Go.Proofs.YtjafmnemobcipaaGreatDoor
open Go.RowKit Go.BigFrame
set_option linter.unusedVariables false
set_option linter.unusedSimpArgs false

set_option maxRecDepth 100000 in
set_option maxHeartbeats 1000000 in
theorem rkids_any (z : Int) (sv pv : Value) (ss : List (Nat × List (List Nat))) (w : World) (hz : -9223372036854775808 ≤ z ∧ z ≤ 9223372036854775807) (hs : RdS w sv ss) :
    Calls Tryz.prog 26 #[.int .i64 z, .agg #[sv, pv]] w fun e w' => e = .returned (.bool (ss.all (fun s => s.2.all (formB z)))) ∧ Kept [] w w' := by
  obtain ⟨sa, ls, sc, vs, rfl, s1, s2, s3, s4, s5⟩ := hs
  have S4 := hide s4
  have S5 := hide s5
  clear s4 s5
  subst s1
  have HK0 := hide ((Kept.refl [] w).alloc (.cells #[.slice sa ss.length sc, pv] 26))
  have HG0 := hide (heap_alloc_new w (.cells #[.slice sa ss.length sc, pv] 26))
  obtain ⟨W, hW⟩ : ∃ W, w.alloc (.cells #[.slice sa ss.length sc, pv] 26) = W := ⟨_, rfl⟩
  rw [hW] at HK0 HG0
  have c0 : W.cell? ⟨w.heap.size, 0, none⟩ = some (.slice sa ss.length sc) := cell_of_row _ _ 0 _ _ _ (unhide HG0)
  go_enter Tryz.func26, Tryz.ntmps26
  go_wp2_with (rw [hW])
  clear hW c0 HG0
  go_loopw [12] (fun t12 wr => ∃ (i : Nat), i ≤ ss.length ∧ t12 = .int .i64 i ∧ Hid ((ss.take i).all (fun s => s.2.all (formB z)) = true) ∧ Hid (Kept [] w wr)) (fun t _ => ss.length - (intOf t).toNat)
  case atStart => exact ⟨0, Nat.zero_le _, rfl, hide (by simp), HK0⟩
  case round =>
    obtain ⟨i, hi, rfl, HA, HK⟩ := hrel
    by_cases hlt : i < ss.length
    · have hlt' : (i : Int) < ss.length := by omega
      obtain ⟨b, o, rfl, hcell⟩ := unhide S5 (by omega)
      have q1 := (unhide HK).cell (hcell i hlt).1 (by simp)
      have q2 := (unhide HK).cell (hcell i hlt).2 (by simp)
      have HD := hide (unhide S4 i hlt)
      have HN := hide (by rw [List.take_succ_eq_append_getElem hlt, List.all_append, unhide HA, List.getD_eq_getElem?_getD, List.getElem?_eq_getElem hlt]; simp : (ss.take (i + 1)).all (fun s => s.2.all (formB z)) = (ss.getD i (0, [])).2.all (formB z))
      have HM := hide (fun (h : (ss.getD i (0, [])).2.all (formB z) = false) => by
        rw [List.all_eq_false]
        exact ⟨ss.getD i (0, []), by rw [List.getD_eq_getElem?_getD, List.getElem?_eq_getElem hlt]; exact List.getElem_mem hlt, by rw [h]; decide⟩ : (ss.getD i (0, [])).2.all (formB z) = false → ss.all (fun s => s.2.all (formB z)) = false)
      clear hcell
      generalize ss.getD i (0, []) = s at q1 HD HN HM
      generalize vs.getD i undef = vi at q2 HD
      obtain ⟨sb, sk⟩ := s
      simp only at q1 HD HN HM
      obtain ⟨a8, m8, c8, hv8, hm8, h82, h83, h84, h85⟩ := id (unhide HD).2
      subst hv8
      subst hm8
      have H84 := hide h84
      have H85 := hide h85
      have HKa := hide ((unhide HK).alloc (.cells #[.int .u16 sb, .slice a8 sk.length c8] 49))
      have HGa := hide (heap_alloc_new wr (.cells #[.int .u16 sb, .slice a8 sk.length c8] 49))
      obtain ⟨Wa, hWa⟩ : ∃ Wa, wr.alloc (.cells #[.int .u16 sb, .slice a8 sk.length c8] 49) = Wa := ⟨_, rfl⟩
      rw [hWa] at HKa HGa
      have ca : Wa.cell? ⟨wr.heap.size, 1, none⟩ = some (.slice a8 sk.length c8) := cell_of_row _ _ 1 _ _ _ (unhide HGa)
      clear h84 h85
      go_wp2_with (rw [hWa])
      clear hWa ca HGa q1 q2
      obtain ⟨wo, hwo⟩ : ∃ wo, wo = wr := ⟨_, rfl⟩
      subst hwo
      go_loopw [19] (fun t19 wr => ∃ (j : Nat), j ≤ sk.length ∧ t19 = .int .i64 j ∧ Hid ((sk.take j).all (formB z) = true) ∧ Hid (Kept [] w wr)) (fun t _ => sk.length - (intOf t).toNat)
      case atStart => exact ⟨0, Nat.zero_le _, rfl, hide (by simp), HKa⟩
      case round =>
        obtain ⟨j, hj, rfl, HB, HKq⟩ := hrel
        by_cases hjt : j < sk.length
        · have hjt' : (j : Int) < sk.length := by omega
          obtain ⟨b8, o8, rfl, hcell⟩ := unhide H85 (by omega)
          have HDj := hide (unhide H84 (sk.getD j []) (by rw [List.getD_eq_getElem?_getD, List.getElem?_eq_getElem hjt]; exact List.getElem_mem hjt))
          have HRG := hide (fun k v hv => (unhide HKq).cell (hcell j hjt k v hv) (by simp) : wr.rangeAt b8 (o8 + j * 32) ((sk.getD j []).map Go.Proofs.YtjafmnemobcipaaGreatDoor.u8))
          have HNj := hide (by rw [List.take_succ_eq_append_getElem hjt, List.all_append, unhide HB, List.getD_eq_getElem?_getD, List.getElem?_eq_getElem hjt]; simp : (sk.take (j + 1)).all (formB z) = formB z (sk.getD j []))
          have HMj := hide (fun (h : formB z (sk.getD j []) = false) => by
            rw [List.all_eq_false]
            exact ⟨sk.getD j [], by rw [List.getD_eq_getElem?_getD, List.getElem?_eq_getElem hjt]; exact List.getElem_mem hjt, by rw [h]; decide⟩ : formB z (sk.getD j []) = false → sk.all (formB z) = false)
          clear hcell
          obtain ⟨d, hd⟩ : ∃ d, sk.getD j [] = d := ⟨_, rfl⟩
          rw [hd] at HDj HRG HNj HMj
          clear hd
          have hdl := (unhide HDj).1
          have HSZ := hide (by rw [List.length_map, hdl]; exact Tryz.size_dig : (Tryz.prog.info? 28).map (·.size) = some (d.map Go.Proofs.YtjafmnemobcipaaGreatDoor.u8).length)
          have HSB := hide (Tryz.szD hdl)
          have HKd := hide (((Kept.refl [] wr).alloc (.cells (zb 32) 28)).setRow (g := wr.heap.size) (Or.inr (Nat.le_refl _)) (brow d))
          have HNd := hide (setRow_heap (wr.alloc (.cells (zb 32) 28)) wr.heap.size (zb 32) (brow d) 28 (0, 0) (heap_alloc_new _ _))
          go_wp2_with (first
            | (refine wpList_load_mid rfl 28 _ rfl b8 (o8 + j * 32) rfl (d.map Go.Proofs.YtjafmnemobcipaaGreatDoor.u8) _ (unhide HRG) Tryz.underlying28 rfl (unhide HSZ) ?_)
            | (rw [zb32]; refine wpList_store_row rfl 28 _ _ rfl wr.heap.size (brow d) rfl rfl _ (zb 32) (heap_alloc_new _ _) (unhide HSB) (by rw [zb_size, brow_size, hdl]) (brow_one _) ?_)
            | (refine wpList_load_row rfl 28 _ rfl wr.heap.size rfl _ (brow d) (0, 0) _ (unhide HNd) Tryz.underlying28 rfl (unhide HSB) ?_))
          refine Calls.mono (docForm_any z d _ hz hdl (unhide HDj).2) ?_
          rintro e w2 ⟨rfl, k2⟩
          have HK2 := hide (((unhide HKq).trans (unhide HKd) (by simp)).trans k2 (by simp))
          clear k2 HKd HNd
          cases hF : formB z d with
          | true =>
            rw [hF] at HNj
            clear hF
            go_wp2
            go_roundw
            case rel => exact ⟨j + 1, hjt, by go_num, HNj, HK2⟩
            case measure => simp [intOf]; omega
          | false =>
            have HX := hide (unhide HM (unhide HMj hF))
            clear hF
            go_wp2
            go_ret
            exact ⟨by rw [unhide HX]; rfl, unhide HK2⟩
        · have hjt' : ¬ (j : Int) < sk.length := by omega
          have HN2 := hide (by rw [unhide HN]; have h9 := unhide HB; rw [show j = sk.length by omega, List.take_length] at h9; exact h9 : (ss.take (i + 1)).all (fun s => s.2.all (formB z)) = true)
          go_wp2
          go_roundw
          case rel => exact ⟨i + 1, hlt, by go_num, HN2, HKq⟩
          case measure => simp [intOf]; omega
    · have hlt' : ¬ (i : Int) < ss.length := by omega
      have HA2 := hide (by have h9 := unhide HA; rw [show i = ss.length by omega, List.take_length] at h9; exact h9 : ss.all (fun s => s.2.all (formB z)) = true)
      go_wp2
      go_ret
      exact ⟨by rw [unhide HA2]; rfl, unhide HK⟩
end Go.Proofs.YtjafmnemobcipaaGreatDoor
namespace Go.Proofs.YtjafmnemobcipaaGreatDoor
open Go.RowKit Go.BigFrame
set_option linter.unusedVariables false
set_option linter.unusedSimpArgs false

theorem fitS_len {b n : Nat} {c : Int} {t : Bool} (h : fitS b n c t = true) : n ≤ 16 ∧ (t = true → n ≤ 15) ∧ cnt b 16 = n + (if t then 1 else 0) ∧ b ≠ 0 := by
  unfold fitS at h
  simp only [Bool.and_eq_true, decide_eq_true_eq] at h
  have h9 := cnt_le b 16
  refine ⟨?_, fun ht => ?_, h.2.2, h.1⟩
  · have := h.2.2; split at this <;> omega
  · have := h.2.2; rw [ht] at this; simp at this; omega
theorem prov_lens {z : Int} {ks : List Nat} {ss : List (Nat × List (List Nat))} {ps : List (List Nat × List Nat)} (h : provB z ks ss ps = true) : (∀ s ∈ ss, s.2.length ≤ 16) ∧ (∀ i, i < footN ss ps → (ss.getD i (0, [])).2.length ≤ 15) ∧ ss.length ≤ 2 * z.toNat := by
  unfold provB at h
  simp only [Bool.and_eq_true, decide_eq_true_eq] at h
  have hf := fitsB_at ss.length h.2.1
  refine ⟨fun s hs => ?_, fun i hi => ?_, h.1⟩
  · obtain ⟨i, hi, rfl⟩ := List.getElem_of_mem hs
    have h9 := (fitS_len (hf i hi)).1
    rw [List.getD_eq_getElem?_getD, List.getElem?_eq_getElem hi] at h9
    exact h9
  · unfold footN at hi
    have hi2 : i < ss.length := by split at hi <;> omega
    refine (fitS_len (hf i hi2)).2.1 ?_
    split at hi
    · simp; omega
    · simp; omega
theorem ones_cnt {x : Nat} (hx : x < 65536) : ones x = cnt x 16 := by
  have h : ∀ y, y < 256 → ones y = cnt y 8 := fun y hy => by
    have h1 : Lib.pop8 (y : Int) = (ones y : Int) := Lib.pop8_eq ⟨y, hy⟩
    rw [pop8_cnt hy] at h1; omega
  rw [ones_split x hx, cnt_split, h _ (by omega), h _ (by omega)]
theorem hfE_form {z : Int} {key : List Nat} {ss : List (Nat × List (List Nat))} (h : hfE z key [] ss = 0) : ∀ s ∈ ss, ∀ d ∈ s.2, formB z d = true := by
  obtain ⟨h1, h2⟩ := hfE_zero h
  unfold hfE at h
  rw [if_neg (by simp [h1]), if_neg (by omega)] at h
  have h3 : ss.all (fun s => s.2.all (formB z)) = true := by
    by_cases h9 : ss.all (fun s => s.2.all (formB z)) = true
    · exact h9
    · rw [if_neg (by simpa using h9)] at h; omega
  intro s hs d hd
  exact List.all_eq_true.1 (List.all_eq_true.1 h3 s hs) d hd
theorem branch_zero {k : Nat} (hk : 1 ≤ k ∧ k ≤ 32) {b : Nat} (hb : b < 65536) {M : List (List Nat)} (hM : ∀ d ∈ M, formB (k : Int) d = true) (h0 : b ≠ 0) (hc : cnt b 16 = M.length) : branchE (k : Int) b M = 0 := by
  have hw : widthB (k : Int) = true := by simp [widthB]; omega
  have h1 : formedE (k : Int) M = 0 := by
    unfold formedE
    rw [if_neg (by simp [hw]), if_pos (List.all_eq_true.2 hM)]
  unfold branchE
  rw [if_pos h1, ones_cnt hb, hc, if_neg (by simp [h0])]
end Go.Proofs.YtjafmnemobcipaaGreatDoor
namespace Go.Proofs.YtjafmnemobcipaaGreatDoor
open Go.RowKit Go.BigFrame
set_option linter.unusedVariables false
set_option linter.unusedSimpArgs false

/-- The reference's digest is the program's. -/
theorem up_roo {k : Nat} (hk : 1 ≤ k ∧ k ≤ 32) {key : List Nat} {ss : List (Nat × List (List Nat))} {ps : List (List Nat × List Nat)} (hb : ∀ s ∈ ss, s.1 < 65536) (h : rtE (k : Int) key ss ps = 0) :
    upR k (digsL (keyS (k : Int) key) k) ss (footN ss ps) (footR k ss ps) = rooD (k : Int) key ss ps := by
  obtain ⟨hf, hp⟩ := rtE_zero h
  have hw : widthB (k : Int) = true := by simp [widthB]; omega
  have hform := hfE_form hf
  obtain ⟨_, _, hl⟩ := prov_lens hp
  have hfit := prov_fit hp
  have hp2 := hp
  unfold provB at hp2
  simp only [Bool.and_eq_true, decide_eq_true_eq] at hp2
  have hfa := fitsB_at ss.length hp2.2.1
  have hbi : ∀ i, i < ss.length → (ss.getD i (0, [])).1 < 65536 := fun i hi => hb _ (by rw [List.getD_eq_getElem?_getD, List.getElem?_eq_getElem hi]; exact List.getElem_mem _)
  have hpath : ∀ i, i < ss.length → (digsL (keyS (k : Int) key) k).getD i 0 = atC (k : Int) (keyS (k : Int) key) i := fun i hi => by
    rw [digsL_get _ _ _ (by omega), atC_dgt hw (keyS_form hw key) (by omega)]
  have hfoot : footR k ss ps = footD (k : Int) ss ps := by
    unfold footR footD
    by_cases h1 : 0 < ps.length
    · rw [if_pos h1, if_pos h1]
    · rw [if_neg h1, if_neg h1]
      by_cases h2 : ss.length = 0
      · rw [if_pos h2, if_pos h2]
      · rw [if_neg h2, if_neg h2]
        have h9 := fitS_len (hfa (ss.length - 1) (by omega))
        have e1 : (decide (ss.length - 1 + 1 < ss.length) || decide (0 < ps.length)) = false := by rw [decide_eq_false (by omega), decide_eq_false h1]; rfl
        rw [e1] at h9
        have h8 := branch_zero hk (hbi (ss.length - 1) (by omega)) (hform (ss.getD (ss.length - 1) (0, [])) (by rw [List.getD_eq_getElem?_getD, List.getElem?_eq_getElem (by omega)]; exact List.getElem_mem _)) h9.2.2.2 (by have h7 := h9.2.2.1; rw [if_neg (by decide)] at h7; exact h7)
        unfold brD sunD
        rw [if_pos h8]
  have hfn : footN ss ps ≤ ss.length := by unfold footN; split <;> omega
  unfold rooD
  rw [hfoot]
  have key2 : ∀ n, n ≤ footN ss ps → ∀ d, formB (k : Int) d = true → upR k (digsL (keyS (k : Int) key) k) ss n d = cliD (k : Int) (keyS (k : Int) key) ss n d := by
    intro n
    induction n with
    | zero => intro _ d _; rfl
    | succ n ih =>
      intro hn d hd
      have hr := hfit n (by omega)
      have hmem : ∀ x ∈ (ss.getD n (0, [])).2, formB (k : Int) x = true := hform _ (by rw [List.getD_eq_getElem?_getD, List.getElem?_eq_getElem (by omega)]; exact List.getElem_mem _)
      have h9 := fitS_len (hfa n (by omega))
      have e1 : (decide (n + 1 < ss.length) || decide (0 < ps.length)) = true := by
        unfold footN at hn
        split at hn
        · simp; omega
        · simp; omega
      rw [e1] at h9
      rw [upR, cliD, hpath n (by omega)]
      have h0 : branchE (k : Int) (ss.getD n (0, [])).1 ((ss.getD n (0, [])).2.take (rankB (ss.getD n (0, [])).1 (atC (k : Int) (keyS (k : Int) key) n : Nat)) ++ d :: (ss.getD n (0, [])).2.drop (rankB (ss.getD n (0, [])).1 (atC (k : Int) (keyS (k : Int) key) n : Nat))) = 0 := branch_zero hk (hbi n (by omega)) (by
        intro x hx
        rcases List.mem_append.1 hx with h | h
        · exact hmem x (List.mem_of_mem_take h)
        · rcases List.mem_cons.1 h with h | h
          · rw [h]; exact hd
          · exact hmem x (List.mem_of_mem_drop h)) h9.2.2.2 (by rw [h9.2.2.1]; simp; omega)
      have e : brD (k : Int) (ss.getD n (0, [])).1 ((ss.getD n (0, [])).2.take (rankB (ss.getD n (0, [])).1 (atC (k : Int) (keyS (k : Int) key) n : Nat)) ++ d :: (ss.getD n (0, [])).2.drop (rankB (ss.getD n (0, [])).1 (atC (k : Int) (keyS (k : Int) key) n : Nat))) = sumD (k : Int) (branchB (k : Int) (ss.getD n (0, [])).1 ((ss.getD n (0, [])).2.take (rankB (ss.getD n (0, [])).1 (atC (k : Int) (keyS (k : Int) key) n : Nat)) ++ d :: (ss.getD n (0, [])).2.drop (rankB (ss.getD n (0, [])).1 (atC (k : Int) (keyS (k : Int) key) n : Nat)))) := by
        unfold brD sunD; rw [if_pos h0]
      rw [e]
      exact ih (by omega) _ (sumD_form hw _)
  exact key2 _ (Nat.le_refl _) _ (footD_form hw _ _)
end Go.Proofs.YtjafmnemobcipaaGreatDoor
/-
  Laws for drawn regions, by genreg.py. No program.
-/
namespace Go.Proofs.YtjafmnemobcipaaGreatDoor
open Go Go.RowKit Go.BigFrame
set_option linter.unusedVariables false
set_option linter.unusedSimpArgs false
section
variable {P : Program} {Q : Exit → Act → World → Prop}
theorem wp_doc11 {id : Nat} {o0 o1 o2 o3 o4 o5 o6 o7 o8 o9 o10 : Oper} {a : Act} {w : World} (hm : P.follows .mixedOrders = true) (hs : Region.noSelect #[o0, o1, o2, o3, o4, o5, o6, o7, o8, o9, o10] = true)
    (f0 : Region.free .any #[o0, o1, o2, o3, o4, o5, o6, o7, o8, o9, o10] #[false, false, false, false, false, false, false, false, false, false, false] 0 = true) (r0 : (Region.ready .any #[o0, o1, o2, o3, o4, o5, o6, o7, o8, o9, o10] #[false, false, false, false, false, false, false, false, false, false, false]).contains 0 = true)
    (f1 : Region.free .any #[o0, o1, o2, o3, o4, o5, o6, o7, o8, o9, o10] #[true, false, false, false, false, false, false, false, false, false, false] 1 = true) (r1 : (Region.ready .any #[o0, o1, o2, o3, o4, o5, o6, o7, o8, o9, o10] #[true, false, false, false, false, false, false, false, false, false, false]).contains 1 = true)
    (f2 : Region.free .any #[o0, o1, o2, o3, o4, o5, o6, o7, o8, o9, o10] #[true, true, false, false, false, false, false, false, false, false, false] 2 = true) (r2 : (Region.ready .any #[o0, o1, o2, o3, o4, o5, o6, o7, o8, o9, o10] #[true, true, false, false, false, false, false, false, false, false, false]).contains 2 = true)
    (f4 : Region.free .any #[o0, o1, o2, o3, o4, o5, o6, o7, o8, o9, o10] #[true, true, true, false, false, false, false, false, false, false, false] 4 = true) (r4 : (Region.ready .any #[o0, o1, o2, o3, o4, o5, o6, o7, o8, o9, o10] #[true, true, true, false, false, false, false, false, false, false, false]).contains 4 = true)
    (f5 : Region.free .any #[o0, o1, o2, o3, o4, o5, o6, o7, o8, o9, o10] #[true, true, true, false, true, false, false, false, false, false, false] 5 = true) (r5 : (Region.ready .any #[o0, o1, o2, o3, o4, o5, o6, o7, o8, o9, o10] #[true, true, true, false, true, false, false, false, false, false, false]).contains 5 = true)
    (q_ : Region.ready .any #[o0, o1, o2, o3, o4, o5, o6, o7, o8, o9, o10] #[true, true, true, false, true, true, false, false, false, false, false] = [3])
    (q3_ : Region.ready .any #[o0, o1, o2, o3, o4, o5, o6, o7, o8, o9, o10] #[true, true, true, true, true, true, false, false, false, false, false] = [6])
    (q3_6_ : Region.ready .any #[o0, o1, o2, o3, o4, o5, o6, o7, o8, o9, o10] #[true, true, true, true, true, true, true, false, false, false, false] = [7])
    (f3_6_7_8 : Region.free .any #[o0, o1, o2, o3, o4, o5, o6, o7, o8, o9, o10] #[true, true, true, true, true, true, true, true, false, false, false] 8 = true) (r3_6_7_8 : (Region.ready .any #[o0, o1, o2, o3, o4, o5, o6, o7, o8, o9, o10] #[true, true, true, true, true, true, true, true, false, false, false]).contains 8 = true)
    (f3_6_7_9 : Region.free .any #[o0, o1, o2, o3, o4, o5, o6, o7, o8, o9, o10] #[true, true, true, true, true, true, true, true, true, false, false] 9 = true) (r3_6_7_9 : (Region.ready .any #[o0, o1, o2, o3, o4, o5, o6, o7, o8, o9, o10] #[true, true, true, true, true, true, true, true, true, false, false]).contains 9 = true)
    (f3_6_7_10 : Region.free .any #[o0, o1, o2, o3, o4, o5, o6, o7, o8, o9, o10] #[true, true, true, true, true, true, true, true, true, true, false] 10 = true) (r3_6_7_10 : (Region.ready .any #[o0, o1, o2, o3, o4, o5, o6, o7, o8, o9, o10] #[true, true, true, true, true, true, true, true, true, true, false]).contains 10 = true)
    (q3_6_7_ : Region.ready .any #[o0, o1, o2, o3, o4, o5, o6, o7, o8, o9, o10] #[true, true, true, true, true, true, true, true, true, true, true] = [])
    (g3 : o3.guard = none)    (g6 : o6.guard = none)    (g7 : o7.guard = none)
    (v0 v1 v2 v4 v5 : Value) (A0 A1 A2 A3 A4 : Act)
    (S : World → Prop)
    (I_ : World → Prop)
    (I3_ : Value → World → Prop)
    (I3_6_ : Value → Value → World → Prop)
    (I3_6_7_ : Value → Value → Value → World → Prop)
    (v8 : Value → Value → Value)
    (v9 : Value → Value)
    (v10 : Value → Value)
    (p0 : a.put o0.dst v0 = A0) (hy0 : YieldsIf P #[o0, o1, o2, o3, o4, o5, o6, o7, o8, o9, o10] S o0 v0 a)
    (p1 : A0.put o1.dst v1 = A1) (hy1 : YieldsIf P #[o0, o1, o2, o3, o4, o5, o6, o7, o8, o9, o10] S o1 v1 A0)
    (p2 : A1.put o2.dst v2 = A2) (hy2 : YieldsIf P #[o0, o1, o2, o3, o4, o5, o6, o7, o8, o9, o10] S o2 v2 A1)
    (p4 : A2.put o4.dst v4 = A3) (hy4 : YieldsIf P #[o0, o1, o2, o3, o4, o5, o6, o7, o8, o9, o10] S o4 v4 A2)
    (p5 : A3.put o5.dst v5 = A4) (hy5 : YieldsIf P #[o0, o1, o2, o3, o4, o5, o6, o7, o8, o9, o10] S o5 v5 A3)
    (i0 : I_ w.drew)
    (hIS : (∀ w', I_  w' → S w') ∧ (∀ (u3 : Value) w', I3_ u3 w' → S w') ∧ (∀ (u3 u6 : Value) w', I3_6_ u3 u6 w' → S w') ∧ (∀ (u3 u6 u7 : Value) w', I3_6_7_ u3 u6 u7 w' → S w'))
    (s_3 : ∀ w', I_  w' → ∀ K : Act → World → Prop, (∀ (u3 : Value) w2, I3_ u3 w2 → K (A4.put o3.dst u3) w2) → o3.wp P A4 w' K (NoPanic Q))
    (s3_6 : ∀ (u3 : Value) w', I3_ u3 w' → ∀ K : Act → World → Prop, (∀ (u6 : Value) w2, I3_6_ u3 u6 w2 → K ((A4.put o3.dst u3).put o6.dst u6) w2) → o6.wp P (A4.put o3.dst u3) w' K (NoPanic Q))
    (s3_6_7 : ∀ (u3 u6 : Value) w', I3_6_ u3 u6 w' → ∀ K : Act → World → Prop, (∀ (u7 : Value) w2, I3_6_7_ u3 u6 u7 w2 → K (((A4.put o3.dst u3).put o6.dst u6).put o7.dst u7) w2) → o7.wp P ((A4.put o3.dst u3).put o6.dst u6) w' K (NoPanic Q))
    (y3_6_7_8 : ∀ (u3 u6 u7 : Value) w', I3_6_7_ u3 u6 u7 w' → YieldsIf P #[o0, o1, o2, o3, o4, o5, o6, o7, o8, o9, o10] S o8 (v8 u6 u7) (((A4.put o3.dst u3).put o6.dst u6).put o7.dst u7))
    (y3_6_7_9 : ∀ (u3 u6 u7 : Value) w', I3_6_7_ u3 u6 u7 w' → YieldsIf P #[o0, o1, o2, o3, o4, o5, o6, o7, o8, o9, o10] S o9 (v9 u7) ((((A4.put o3.dst u3).put o6.dst u6).put o7.dst u7).put o8.dst (v8 u6 u7)))
    (y3_6_7_10 : ∀ (u3 u6 u7 : Value) w', I3_6_7_ u3 u6 u7 w' → YieldsIf P #[o0, o1, o2, o3, o4, o5, o6, o7, o8, o9, o10] S o10 (v10 u7) (((((A4.put o3.dst u3).put o6.dst u6).put o7.dst u7).put o8.dst (v8 u6 u7)).put o9.dst (v9 u7)))
    (h : ∀ (u3 u6 u7 : Value) w', I3_6_7_ u3 u6 u7 w' → Q .normal ((((((A4.put o3.dst u3).put o6.dst u6).put o7.dst u7).put o8.dst (v8 u6 u7)).put o9.dst (v9 u7)).put o10.dst (v10 u7)) w') :
    (Code.region id #[o0, o1, o2, o3, o4, o5, o6, o7, o8, o9, o10] true).wp P Q a w := by
  subst p0 p1 p2 p4 p5
  obtain ⟨z_, z3_, z3_6_, z3_6_7_⟩ := hIS
  refine wp_region_noPanic ?_
  refine wp_region_held_drew (S := S) hm (z_ _ i0) (fun hH => ?_)
  show wpAnyH P .any #[o0, o1, o2, o3, o4, o5, o6, o7, o8, o9, o10] (NoPanic Q) S 11 #[false, false, false, false, false, false, false, false, false, false, false] a w.drew
  refine wpAnyH_take (i := 0) (oi := o0) rfl hs f0 r0 (fun _ _ _ h => h) hy0 hH ?_
  refine wpAnyH_take (i := 1) (oi := o1) rfl hs f1 r1 (fun _ _ _ h => h) hy1 hH ?_
  refine wpAnyH_take (i := 2) (oi := o2) rfl hs f2 r2 (fun _ _ _ h => h) hy2 hH ?_
  refine wpAnyH_take (i := 4) (oi := o4) rfl hs f4 r4 (fun _ _ _ h => h) hy4 hH ?_
  refine wpAnyH_take (i := 5) (oi := o5) rfl hs f5 r5 (fun _ _ _ h => h) hy5 hH ?_
  generalize (((((a.put o0.dst v0).put o1.dst v1).put o2.dst v2).put o4.dst v4).put o5.dst v5) = B at *
  have wa3 : ∀ y, Region.wanted o3 y = true := fun y => by unfold Region.wanted; rw [g3]
  have wa6 : ∀ y, Region.wanted o6 y = true := fun y => by unfold Region.wanted; rw [g6]
  have wa7 : ∀ y, Region.wanted o7 y = true := fun y => by unfold Region.wanted; rw [g7]
  have t3_6_7_ : ∀ (u3 u6 u7 : Value) w', I3_6_7_ u3 u6 u7 w' → wpAnyH P .any #[o0, o1, o2, o3, o4, o5, o6, o7, o8, o9, o10] (NoPanic Q) S 0 #[true, true, true, true, true, true, true, true, true, true, true] ((((((B.put o3.dst u3).put o6.dst u6).put o7.dst u7).put o8.dst (v8 u6 u7)).put o9.dst (v9 u7)).put o10.dst (v10 u7)) w' := by
    intro u3 u6 u7 w0 i0
    exact ⟨q3_6_7_, NoPanic.normal (h u3 u6 u7 w0 i0)⟩
  have t3_6_ : ∀ (u3 u6 : Value) w', I3_6_ u3 u6 w' → wpAnyH P .any #[o0, o1, o2, o3, o4, o5, o6, o7, o8, o9, o10] (NoPanic Q) S 4 #[true, true, true, true, true, true, true, false, false, false, false] ((B.put o3.dst u3).put o6.dst u6) w' := by
    intro u3 u6 w0 i0
    refine wpAnyH_ready (rs := [7]) q3_6_ (by simp) (AllReadyH.cons (o := o7) rfl (fun K hK => ?_) AllReadyH.nil)
    · rw [if_pos (wa7 _)]
      refine s3_6_7 u3 u6 w0 i0 K (fun u7 w1 i1 => hK.out _ _ (z3_6_7_ u3 u6 u7 w1 i1) (fun _ => ?_))
      clear hK
      refine wpAnyH_take (i := 8) (oi := o8) rfl hs f3_6_7_8 r3_6_7_8 (fun _ _ _ h => h) (y3_6_7_8 u3 u6 u7 w1 i1) (z3_6_7_ u3 u6 u7 w1 i1) ?_
      refine wpAnyH_take (i := 9) (oi := o9) rfl hs f3_6_7_9 r3_6_7_9 (fun _ _ _ h => h) (y3_6_7_9 u3 u6 u7 w1 i1) (z3_6_7_ u3 u6 u7 w1 i1) ?_
      refine wpAnyH_take (i := 10) (oi := o10) rfl hs f3_6_7_10 r3_6_7_10 (fun _ _ _ h => h) (y3_6_7_10 u3 u6 u7 w1 i1) (z3_6_7_ u3 u6 u7 w1 i1) ?_
      exact t3_6_7_ u3 u6 u7 w1 i1
  have t3_ : ∀ (u3 : Value) w', I3_ u3 w' → wpAnyH P .any #[o0, o1, o2, o3, o4, o5, o6, o7, o8, o9, o10] (NoPanic Q) S 5 #[true, true, true, true, true, true, false, false, false, false, false] (B.put o3.dst u3) w' := by
    intro u3 w0 i0
    refine wpAnyH_ready (rs := [6]) q3_ (by simp) (AllReadyH.cons (o := o6) rfl (fun K hK => ?_) AllReadyH.nil)
    · rw [if_pos (wa6 _)]
      refine s3_6 u3 w0 i0 K (fun u6 w1 i1 => hK.out _ _ (z3_6_ u3 u6 w1 i1) (fun _ => ?_))
      clear hK
      exact t3_6_ u3 u6 w1 i1
  have t_ : ∀ w', I_  w' → wpAnyH P .any #[o0, o1, o2, o3, o4, o5, o6, o7, o8, o9, o10] (NoPanic Q) S 6 #[true, true, true, false, true, true, false, false, false, false, false] B w' := by
    intro w0 i0
    refine wpAnyH_ready (rs := [3]) q_ (by simp) (AllReadyH.cons (o := o3) rfl (fun K hK => ?_) AllReadyH.nil)
    · rw [if_pos (wa3 _)]
      refine s_3  w0 i0 K (fun u3 w1 i1 => hK.out _ _ (z3_ u3 w1 i1) (fun _ => ?_))
      clear hK
      exact t3_ u3 w1 i1
  exact t_ w.drew i0

end
end Go.Proofs.YtjafmnemobcipaaGreatDoor
namespace Go.Proofs.YtjafmnemobcipaaGreatDoor
open Go.RowKit Go.BigFrame
set_option linter.unusedVariables false
set_option linter.unusedSimpArgs false

theorem valH_hit {key : List Nat} {ps : List (List Nat × List Nat)} {i : Nat} (hi : i < ps.length) (hn : ∀ j, j < i → (ps.getD j ([], [])).1 ≠ key) (h : (ps.getD i ([], [])).1 = key) : valH key ps = some (ps.getD i ([], [])).2 := by
  rw [valH_skip ps i (by omega) hn, List.drop_eq_getElem_cons hi, valH]
  rw [List.getD_eq_getElem?_getD, List.getElem?_eq_getElem hi] at h ⊢
  simp only [Option.getD_some] at h ⊢
  rw [if_pos h]
theorem valH_miss {key : List Nat} {ps : List (List Nat × List Nat)} (hn : ∀ j, j < ps.length → (ps.getD j ([], [])).1 ≠ key) : valH key ps = none := by
  rw [valH_skip ps ps.length (Nat.le_refl _) hn, List.drop_length]; rfl
theorem prov_ref {k : Nat} (hk : 1 ≤ k ∧ k ≤ 32) {key : List Nat} {ss : List (Nat × List (List Nat))} {ps : List (List Nat × List Nat)} (hb : ∀ s ∈ ss, s.1 < 65536) :
    ((decide (ss.length ≤ 2 * k) && stpR (digsL (keyS (k : Int) key) k) ss ps.length ss.length) = false → provB (k : Int) (keyS (k : Int) key) ss ps = false) ∧
    ((decide (ss.length ≤ 2 * k) && stpR (digsL (keyS (k : Int) key) k) ss ps.length ss.length) = true → provB (k : Int) (keyS (k : Int) key) ss ps = prsR (k : Int) (digsL (keyS (k : Int) key) k) ss.length ps ps.length) := by
  have hw : widthB (k : Int) = true := by simp [widthB]; omega
  have hfk := keyS_form hw key
  by_cases hl : ss.length ≤ 2 * k
  · have hc : ∀ i, i < ss.length → (((digsL (keyS (k : Int) key) k).getD i 0 : Nat) : Int) = ((atC (k : Int) (keyS (k : Int) key) i : Nat) : Int) := fun i hi => by
      rw [digsL_get _ _ _ (by omega), atC_dgt hw hfk (by omega)]
    have hst := stpR_all (z := (k : Int)) (ks := keyS (k : Int) key) (path := digsL (keyS (k : Int) key) k) (ss := ss) (m := ps.length) hb hc
    rw [decide_eq_true hl, Bool.true_and, hst]
    unfold provB
    rw [Int.toNat_natCast, decide_eq_true hl, Bool.true_and]
    by_cases hm : ps.length = 0
    · have hn : ps = [] := List.eq_nil_of_length_eq_zero hm
      subst hn
      simp [prsR]
    · have hh := prsR_han (z := (k : Int)) (ks := keyS (k : Int) key) (path := digsL (keyS (k : Int) key) k) (n := ss.length) (ps := ps) hw hfk (by rw [Int.toNat_natCast]; exact hl) (fun j hj => digsL_get _ _ _ (by omega)) (by omega)
      rw [hh, decide_eq_false hm, Bool.false_or]
      generalize fitsB (k : Int) (keyS (k : Int) key) ss ps.length ss.length = F
      generalize (decide (ss.length = 0) || decide (cnt (ss.getD (ss.length - 1) (0, [])).1 16 ≠ 1)) = C
      generalize (risB ps ps.length && hanB (k : Int) (keyS (k : Int) key) ss.length ps) = R
      simp only [Bool.false_or]
      cases F <;> cases C <;> cases R <;> simp
  · rw [decide_eq_false hl]
    refine ⟨fun _ => ?_, fun h => by simp at h⟩
    unfold provB
    rw [Int.toNat_natCast, decide_eq_false hl, Bool.false_and]

set_option maxRecDepth 100000 in
set_option maxHeartbeats 4000000 in
theorem docRoot_any (z : Int) (kv : Value) (key : List Nat) (sv pv : Value) (ss : List (Nat × List (List Nat))) (ps : List (List Nat × List Nat)) (w : World) (hz : -9223372036854775808 ≤ z ∧ z ≤ 9223372036854775807) (hk : Rd w kv key) (hs : RdS w sv ss) (hp : RdK w pv ps) (hpb : (pairB ps).length ≤ 1000000000000)
    (hkl : ∀ s ∈ ss, s.2.length ≤ 1000000000) (hpk : ∀ p ∈ ps, p.1.length ≤ 1000000000) :
    Calls Tryz.prog 14 #[.int .i64 z, kv, .agg #[sv, pv]] w fun e w' => (∃ v', e = .returned (.tuple #[.agg (brow (rtD z key ss ps)), v', .bool (rtV z key ss ps).isSome, .int .i64 (rtE z key ss ps : Int)]) ∧ Rd w' v' ((rtV z key ss ps).getD [])) ∧ Kept [] w w' := by
  obtain ⟨sa, sn, sc, vs0, rfl, hsn, _⟩ := id hs
  obtain ⟨pa, pn, pc, _, _, rfl, hpn, _⟩ := id hp
  obtain ⟨ka, kn, kc, rfl, hkn, _⟩ := id hk
  have HP := hide hp
  have HS := hide hs
  have HKY := hide hk
  have HKL := hide hkl
  have HPK := hide hpk
  have HSN := hide hsn
  have HPN := hide hpn
  have HKN := hide hkn
  have hknb : kn ≤ 140737488355328 := by obtain ⟨_, _, _, e9, _, _, h9, _⟩ := hk; cases e9; exact h9.2
  clear hp hs hkl hk hpk hsn hpn hkn
  have HK0 := hide (((Kept.refl [] w).alloc (.cells #[.slice sa sn sc, .slice pa pn pc] 26)).alloc (.cells (zb 32) 28))
  have HG0 := hide (heap_alloc2_old w (.cells #[.slice sa sn sc, .slice pa pn pc] 26) (.cells (zb 32) 28))
  have HZ0 := hide (heap_alloc2_new w (.cells #[.slice sa sn sc, .slice pa pn pc] 26) (.cells (zb 32) 28))
  obtain ⟨W, hW⟩ : ∃ W, (w.alloc (.cells #[.slice sa sn sc, .slice pa pn pc] 26)).alloc (.cells (zb 32) 28) = W := ⟨_, rfl⟩
  rw [hW] at HK0 HG0 HZ0
  have BAD : ∀ (e : Nat) (X : World), e ≠ 0 → rtE z key ss ps = e → X.heap[w.heap.size + 1]? = some (.cells (zb 32) 28 (0, 0)) → Kept [] w X → (rtD z key ss ps = List.replicate 32 0 ∧ rtV z key ss ps = none) := fun e X h0 h1 _ _ => ⟨by unfold rtD; rw [h1, if_neg h0], by unfold rtV; rw [h1, if_neg h0]⟩
  go_enter Tryz.func14, Tryz.ntmps14
  go_wp2_with (first | (rw [zb32, hW]))
  clear hW
  refine Calls.mono (rwidth_any z W hz) ?_
  rintro e w1 ⟨rfl, rfl⟩
  cases hw : widthB z with
  | false =>
    have hE : rtE z key ss ps = 1 := by unfold rtE hfE; rw [hw]; rfl
    obtain ⟨hD, hV⟩ := BAD 1 w1 (by decide) hE (unhide HZ0) (unhide HK0)
    have HE := hide hE
    have HD := hide hD
    have HV := hide hV
    clear BAD hE hD hV hw
    go_wp2_with (first
      | (refine wpList_build_as rfl 28 #[] rfl (zb 32) (by kernel_rfl) ?_)
      | (refine wpList_store_row rfl 28 _ _ rfl (w.heap.size + 1) (zb 32) rfl rfl _ (zb 32) (unhide HZ0) (by rw [zb_size]; exact Tryz.size_dig) rfl (brow_one _) ?_))
    rw [unhide HD, unhide HV, unhide HE]
    refine bodyPost_ret (v := .tuple #[.agg (zb 32), .slice none 0 0, .bool false, .int .i64 1]) ?_ rfl ⟨⟨_, rfl, Rd.nil _⟩, (unhide HK0).setRow (g := w.heap.size + 1) (Or.inr (by omega)) (zb 32)⟩
    exact results_cell_tmp3 rfl _ _ (w.heap.size + 1) _ (zb 32) (0, 0) _ rfl (setRow_heap w1 (w.heap.size + 1) (zb 32) (zb 32) 28 (0, 0) (unhide HZ0)) Tryz.underlying28 rfl (by rw [zb_size]; exact Tryz.size_dig) _ _ _ rfl rfl rfl
  | true =>
    by_cases h64 : 64 < kn
    · have h64' : decide ((64 : Int) < kn) = true := by simp; omega
      have hE : rtE z key ss ps = 2 := by
        have h9 : hfE z key [] ss = 2 := by unfold hfE; rw [if_neg (by simp [hw]), if_pos (by rw [unhide HKN]; exact h64)]
        unfold rtE; rw [h9]; rfl
      obtain ⟨hD, hV⟩ := BAD 2 w1 (by decide) hE (unhide HZ0) (unhide HK0)
      have HE := hide hE
      have HD := hide hD
      have HV := hide hV
      clear BAD hE hD hV hw h64
      go_wp2_with (first
        | (refine wpList_build_as rfl 28 #[] rfl (zb 32) (by kernel_rfl) ?_)
        | (refine wpList_store_row rfl 28 _ _ rfl (w.heap.size + 1) (zb 32) rfl rfl _ (zb 32) (unhide HZ0) (by rw [zb_size]; exact Tryz.size_dig) rfl (brow_one _) ?_))
      rw [unhide HD, unhide HV, unhide HE]
      refine bodyPost_ret (v := .tuple #[.agg (zb 32), .slice none 0 0, .bool false, .int .i64 2]) ?_ rfl ⟨⟨_, rfl, Rd.nil _⟩, (unhide HK0).setRow (g := w.heap.size + 1) (Or.inr (by omega)) (zb 32)⟩
      exact results_cell_tmp3 rfl _ _ (w.heap.size + 1) _ (zb 32) (0, 0) _ rfl (setRow_heap w1 (w.heap.size + 1) (zb 32) (zb 32) 28 (0, 0) (unhide HZ0)) Tryz.underlying28 rfl (by rw [zb_size]; exact Tryz.size_dig) _ _ _ rfl rfl rfl
    · have h64' : decide ((64 : Int) < kn) = false := by simp; omega
      have c0 : w1.cell? ⟨w.heap.size, 0, none⟩ = some (.slice sa sn sc) := cell_of_row _ _ 0 _ _ _ (unhide HG0)
      have c1 : w1.cell? ⟨w.heap.size, 1, none⟩ = some (.slice pa pn pc) := cell_of_row _ _ 1 _ _ _ (unhide HG0)
      go_wp2_with fail
      refine Calls.mono (rkids_any z _ _ ss w1 hz ((unhide HS).old (unhide HK0))) ?_
      rintro e w2 ⟨rfl, k2⟩
      have HK2 := hide ((unhide HK0).trans k2 (by simp))
      have HG2 := hide (k2.heap (unhide HG0) (by simp))
      have HZ2 := hide (k2.heap (unhide HZ0) (by simp))
      clear k2 c0 c1 HK0 HG0 HZ0
      have HHF := hide (by unfold hfE; rw [if_neg (by simp [hw]), if_neg (by rw [unhide HKN]; omega)]; simp only [List.all_nil, Bool.true_and] : hfE z key [] ss = if ss.all (fun s => s.2.all (formB z)) = true then 0 else 3)
      cases hA : ss.all (fun s => s.2.all (formB z)) with
      | false =>
        have hE : rtE z key ss ps = 3 := by
          have h9 : hfE z key [] ss = 3 := by rw [unhide HHF, hA]; rfl
          unfold rtE; rw [h9]; rfl
        obtain ⟨hD, hV⟩ := BAD 3 w2 (by decide) hE (unhide HZ2) (unhide HK2)
        have HE := hide hE
        have HD := hide hD
        have HV := hide hV
        clear BAD hE hD hV hw h64 hA
        go_wp2_with (first
          | (refine wpList_build_as rfl 28 #[] rfl (zb 32) (by kernel_rfl) ?_)
          | (refine wpList_store_row rfl 28 _ _ rfl (w.heap.size + 1) (zb 32) rfl rfl _ (zb 32) (unhide HZ2) (by rw [zb_size]; exact Tryz.size_dig) rfl (brow_one _) ?_))
        rw [unhide HD, unhide HV, unhide HE]
        refine bodyPost_ret (v := .tuple #[.agg (zb 32), .slice none 0 0, .bool false, .int .i64 3]) ?_ rfl ⟨⟨_, rfl, Rd.nil _⟩, (unhide HK2).setRow (g := w.heap.size + 1) (Or.inr (by omega)) (zb 32)⟩
        exact results_cell_tmp3 rfl _ _ (w.heap.size + 1) _ (zb 32) (0, 0) _ rfl (setRow_heap w2 (w.heap.size + 1) (zb 32) (zb 32) 28 (0, 0) (unhide HZ2)) Tryz.underlying28 rfl (by rw [zb_size]; exact Tryz.size_dig) _ _ _ rfl rfl rfl
      | true =>
        have HHZ := hide (by rw [unhide HHF, hA]; rfl : hfE z key [] ss = 0)
        have hzk := width_le hw
        obtain ⟨k, rfl⟩ : ∃ k : Nat, z = k := ⟨z.toNat, by omega⟩
        have hkk : 1 ≤ k ∧ k ≤ 32 := by omega
        clear hA HHF
        go_wp2_with fail
        refine Calls.mono (refKey_any k _ key w2 hkk ((unhide HKY).old (unhide HK2) (by simp)) (by rw [unhide HKN]; omega)) ?_
        rintro e w3 ⟨rfl, k3⟩
        rw [show sumD (k : Int) (2 :: key) = keyS (k : Int) key from rfl]
        go_wp2_with fail
        refine Calls.mono (digits_any k (keyS (k : Int) key) w3 hkk.2 (keyS_dg _ _)) ?_
        rintro e w4 ⟨v4, rfl, r4, k4⟩
        have HR4 := hide r4
        obtain ⟨da, dc, rfl, _⟩ := id r4
        have HLD := hide (digsL_len (keyS (k : Int) key) k)
        rw [unhide HLD]
        rw [unhide HLD] at HR4
        have HK4 := hide (((unhide HK2).trans k3 (by simp)).trans k4 (by simp))
        have HG4 := hide (k4.heap (k3.heap (unhide HG2) (by simp)) (by simp))
        have HZ4 := hide (k4.heap (k3.heap (unhide HZ2) (by simp)) (by simp))
        clear r4 k3 k4 HK2 HG2 HZ2
        have HB16 := hide (fun s (hs : s ∈ ss) => (by
          obtain ⟨i, hi, rfl⟩ := List.getElem_of_mem hs
          obtain ⟨_, _, _, vs, e9, h1, _, _, h4, _⟩ := unhide HS
          cases e9
          have := (h4 i (by omega)).1
          rw [List.getD_eq_getElem?_getD, List.getElem?_eq_getElem hi] at this
          exact this : s.1 < 65536))
        have HPX := hide (fun x (hx : x ∈ digsL (keyS (k : Int) key) k) => (by
          obtain ⟨i, hi, rfl⟩ := List.getElem_of_mem hx
          rw [unhide HLD] at hi
          have h9 := digsL_get (keyS (k : Int) key) k i hi
          rw [List.getD_eq_getElem?_getD, List.getElem?_eq_getElem (by rw [unhide HLD]; exact hi)] at h9
          simp only [Option.getD_some] at h9
          rw [h9]
          exact dgt_lt (keyS_dg _ _).2 i : x < 16))
        have HST := hide (fun w' (hw' : Kept [] w w') (hr : RdZ w' (.slice da (2 * k) dc) (digsL (keyS (k : Int) key) k)) => rsteps_any k (.slice da (2 * k) dc) (.slice sa sn sc) (.slice pa pn pc) (digsL (keyS (k : Int) key) k) ss ps w' hkk hr (unhide HLD) (unhide HPX) ((unhide HS).old hw') ((unhide HP).old hw') (unhide HKL))
        have HPR := hide (fun w' (hw' : Kept [] w w') (hr : RdZ w' (.slice da (2 * k) dc) (digsL (keyS (k : Int) key) k)) (hl : ss.length ≤ 2 * k) => rpairs_any k (.slice da (2 * k) dc) (.slice sa sn sc) (.slice pa pn pc) (digsL (keyS (k : Int) key) k) ss ps w' hkk hr (unhide HLD) ((unhide HS).old hw') hl ((unhide HP).old hw') (unhide HPK))
        go_wp2_with (refine wpList_load_row rfl 26 _ rfl w.heap.size rfl _ #[.slice sa sn sc, .slice pa pn pc] (0, 0) _ (unhide HG4) Tryz.underlying26 rfl (by kernel_rfl) ?_)
        refine Calls.mono (unhide HST w4 (unhide HK4) (unhide HR4)) ?_
        rintro e w5 ⟨rfl, k5⟩
        have HK5 := hide ((unhide HK4).trans k5 (by simp))
        have HG5 := hide (k5.heap (unhide HG4) (by simp))
        have HZ5 := hide (k5.heap (unhide HZ4) (by simp))
        have HR5 := hide ((unhide HR4).old k5)
        clear k5 HK4 HG4 HZ4 HR4 HST
        have HREF := hide (prov_ref hkk (key := key) (ss := ss) (ps := ps) (unhide HB16))
        cases hSB : (decide (ss.length ≤ 2 * k) && stpR (digsL (keyS (k : Int) key) k) ss ps.length ss.length) with
        | false =>
          have hPB := (unhide HREF).1 hSB
          clear hSB HREF
          have hE : rtE (k : Int) key ss ps = 10 := by
            unfold rtE; rw [if_pos (unhide HHZ), hPB]; rfl
          obtain ⟨hD, hV⟩ := BAD 10 w5 (by decide) hE (unhide HZ5) (unhide HK5)
          have HE := hide hE
          have HD := hide hD
          have HV := hide hV
          clear BAD hE hD hV hPB
          go_wp2_with (first
            | (refine wpList_build_as rfl 28 #[] rfl (zb 32) (by kernel_rfl) ?_)
            | (refine wpList_store_row rfl 28 _ _ rfl (w.heap.size + 1) (zb 32) rfl rfl _ (zb 32) (unhide HZ5) (by rw [zb_size]; exact Tryz.size_dig) rfl (brow_one _) ?_))
          rw [unhide HD, unhide HV, unhide HE]
          refine bodyPost_ret (v := .tuple #[.agg (zb 32), .slice none 0 0, .bool false, .int .i64 10]) ?_ rfl ⟨⟨_, rfl, Rd.nil _⟩, (unhide HK5).setRow (g := w.heap.size + 1) (Or.inr (by omega)) (zb 32)⟩
          exact results_cell_tmp3 rfl _ _ (w.heap.size + 1) _ (zb 32) (0, 0) _ rfl (setRow_heap w5 (w.heap.size + 1) (zb 32) (zb 32) 28 (0, 0) (unhide HZ5)) Tryz.underlying28 rfl (by rw [zb_size]; exact Tryz.size_dig) _ _ _ rfl rfl rfl
        | true =>
          have HPB := hide ((unhide HREF).2 hSB)
          have hsl : ss.length ≤ 2 * k := by simp only [Bool.and_eq_true, decide_eq_true_eq] at hSB; exact hSB.1
          clear hSB HREF
          go_wp2_with (first | (refine wpList_load_row rfl 26 _ rfl w.heap.size rfl _ #[.slice sa sn sc, .slice pa pn pc] (0, 0) _ (unhide HG5) Tryz.underlying26 rfl (by kernel_rfl) ?_) | (refine wpList_load_rowG rfl 26 _ rfl w.heap.size rfl _ #[.slice sa sn sc, .slice pa pn pc] (0, 0) _ (unhide HG5) Tryz.underlying26 rfl (by kernel_rfl) ?_))
          refine Calls.mono (unhide HPR w5 (unhide HK5) (unhide HR5) hsl) ?_
          rintro e w6 ⟨rfl, k6⟩
          have HK6 := hide ((unhide HK5).trans k6 (by simp))
          have HG6 := hide (k6.heap (unhide HG5) (by simp))
          have HZ6 := hide (k6.heap (unhide HZ5) (by simp))
          have HR6 := hide ((unhide HR5).old k6)
          clear k6 HK5 HG5 HZ5 HR5 HPR
          cases hPV : prsR (k : Int) (digsL (keyS (k : Int) key) k) ss.length ps ps.length with
          | false =>
            have hPB := (unhide HPB).trans hPV
            clear hPV HPB
            have hE : rtE (k : Int) key ss ps = 10 := by
              unfold rtE; rw [if_pos (unhide HHZ), hPB]; rfl
            obtain ⟨hD, hV⟩ := BAD 10 w6 (by decide) hE (unhide HZ6) (unhide HK6)
            have HE := hide hE
            have HD := hide hD
            have HV := hide hV
            clear BAD hE hD hV hPB
            go_wp2_with (first
              | (refine wpList_build_as rfl 28 #[] rfl (zb 32) (by kernel_rfl) ?_)
              | (refine wpList_store_row rfl 28 _ _ rfl (w.heap.size + 1) (zb 32) rfl rfl _ (zb 32) (unhide HZ6) (by rw [zb_size]; exact Tryz.size_dig) rfl (brow_one _) ?_))
            rw [unhide HD, unhide HV, unhide HE]
            refine bodyPost_ret (v := .tuple #[.agg (zb 32), .slice none 0 0, .bool false, .int .i64 10]) ?_ rfl ⟨⟨_, rfl, Rd.nil _⟩, (unhide HK6).setRow (g := w.heap.size + 1) (Or.inr (by omega)) (zb 32)⟩
            exact results_cell_tmp3 rfl _ _ (w.heap.size + 1) _ (zb 32) (0, 0) _ rfl (setRow_heap w6 (w.heap.size + 1) (zb 32) (zb 32) 28 (0, 0) (unhide HZ6)) Tryz.underlying28 rfl (by rw [zb_size]; exact Tryz.size_dig) _ _ _ rfl rfl rfl
          | true =>
            have hPB := (unhide HPB).trans hPV
            have hE := rtE_mk (unhide HHZ) hPB
            have HE := hide hE
            have HUR := hide (up_roo hkk (unhide HB16) hE)
            have HD := hide (by unfold rtD; rw [if_pos hE] : rtD (k : Int) key ss ps = rooD (k : Int) key ss ps)
            have HV := hide (by unfold rtV; rw [if_pos hE] : rtV (k : Int) key ss ps = valH key ps)
            have HPL := hide (prov_lens hPB)
            have HFT := hide (prov_fit hPB)
            clear BAD hPV HPB hPB hE
            have c1 : w6.cell? ⟨w.heap.size, 1, none⟩ = some (.slice pa pn pc) := cell_of_row _ _ 1 _ _ _ (unhide HG6)
            have HPA := hide (fun i (hi : i < ss.length) => (by rw [digsL_get _ _ _ (by omega), atC_dgt hw (keyS_form hw key) (by omega)] : (digsL (keyS (k : Int) key) k).getD i 0 = atC (k : Int) (keyS (k : Int) key) i))
            have hfn : footN ss ps ≤ ss.length := by unfold footN; split <;> omega
            have HUP := hide (fun w' (hw' : Kept [] w6 w') => rup_any k (.slice da (2 * k) dc) (.slice sa sn sc) (.slice pa pn pc) (digsL (keyS (k : Int) key) k) ss ps w' hkk ((unhide HR6).old hw') (unhide HLD) (unhide HPX) ((unhide HS).old ((unhide HK6).trans hw' (by simp))) ((unhide HP).old ((unhide HK6).trans hw' (by simp))) hpb hsl (fun i hi => by rw [unhide HPA i (by omega)]; exact ⟨unhide HFT i hi, (unhide HPL).2.1 i hi⟩) (unhide HPL).1)
            rw [unhide HUR, ← unhide HD] at HUP
            have HDG := hide (rtD_dg (k : Int) key ss ps)
            obtain ⟨D, hDD⟩ : ∃ D, rtD (k : Int) key ss ps = D := ⟨_, rfl⟩
            have HDD := hide hDD
            rw [hDD] at HUP HDG
            clear hDD
            have hdl := (unhide HDG).1
            have HSZ := hide (Tryz.szD hdl)
            have HP4 := hide (unhide HP).cells.2.2.2
            clear HPX HPA HFT HPL HUR HD HHZ HB16 HKL HPK
            go_wp2_with fail
            clear c1
            go_loopw [50] (fun t50 wr => ∃ (i : Nat), i ≤ pn ∧ t50 = .int .i64 i ∧ Hid (∀ j, j < i → (ps.getD j ([], [])).1 ≠ key) ∧ Hid (Kept [] w6 wr)) (fun t _ => pn - (intOf t).toNat)
            case atStart => exact ⟨0, Nat.zero_le _, rfl, hide (by intro j hj; omega), hide (Kept.refl _ _)⟩
            case round =>
              obtain ⟨i, hi, rfl, HN, HKr⟩ := hrel
              have HKw := hide ((unhide HK6).trans (unhide HKr) (by simp))
              by_cases hlt : i < pn
              · have hlt' : (i : Int) < pn := by omega
                obtain ⟨b, o, x, y, rfl, d1, d2, r1, r2⟩ := unhide HP4 i hlt
                have q1 := (unhide HKw).cell d1 (by simp)
                have q2 := (unhide HKw).cell d2 (by simp)
                have HX := hide (r1.old (unhide HKw) (by simp))
                have HY := hide (r2.old (unhide HKw) (by simp))
                have HHit := hide (fun h => valH_hit (key := key) (ps := ps) (i := i) (by rw [unhide HPN]; exact hlt) (unhide HN) h)
                clear d1 d2 r1 r2
                generalize hpi : ps.getD i ([], []) = pi at HX HY HHit
                have HPI := hide hpi
                clear hpi
                obtain ⟨pk, pw⟩ := pi
                simp only at HX HY HHit
                obtain ⟨a8, m8, c8, rfl, hm8, _⟩ := id (unhide HX)
                obtain ⟨a9, m9, c9, rfl, hm9, _⟩ := id (unhide HY)
                clear hm8 hm9
                have HKa := hide ((Kept.refl [] wr).alloc (.cells #[.slice a8 m8 c8, .slice a9 m9 c9] 51))
                have HCW := hide (heap_alloc_new wr (.cells #[.slice a8 m8 c8, .slice a9 m9 c9] 51))
                go_wp2_with fail
                refine Calls.mono (same_any _ _ pk key _ ((unhide HX).old (unhide HKa) (by simp)) ((unhide HKY).old ((unhide HKw).trans (unhide HKa) (by simp)) (by simp))) ?_
                rintro e w11 ⟨rfl, n11, rfl⟩
                have k11 := (unhide HKa).trans ((Kept.refl [] _).drewN n11) (by simp)
                have HK11 := hide ((unhide HKr).trans k11 (by simp))
                have HY11 := hide ((unhide HY).old k11 (by simp))
                have HC11 := hide (((Kept.refl [] (wr.alloc (.cells #[.slice a8 m8 c8, .slice a9 m9 c9] 51))).drewN n11).heap (unhide HCW) (by simp))
                clear k11 q1 q2 HKa HCW HX HY
                generalize (wr.alloc (.cells #[.slice a8 m8 c8, .slice a9 m9 c9] 51)).drewN n11 = X at *
                by_cases hE : pk = key
                · rw [decide_eq_true hE]
                  have HVh := hide ((unhide HV).trans (unhide HHit hE))
                  clear hE
                  have cy : X.cell? ⟨wr.heap.size, 1, none⟩ = some (.slice a9 m9 c9) := cell_of_row _ _ 1 _ _ _ (unhide HC11)
                  have HGX := hide ((unhide HK11).heap (unhide HG6) (by simp))
                  have HZX := hide ((unhide HK11).heap (unhide HZ6) (by simp))
                  have g0 := cell_of_row X w.heap.size 0 _ _ _ (unhide HGX)
                  have g1 := cell_of_row X w.heap.size 1 _ _ _ (unhide HGX)
                  simp only [List.getElem?_toArray, List.getElem?_cons_zero, List.getElem?_cons_succ] at g0 g1
                  have hwq : w.heap.size + 1 < wr.heap.size := by have h9 := lt_of_block (unhide HZ6); have := (unhide HKr).size; omega
                  have hXs := lt_of_block (unhide HC11)
                  go_wp2_with fail
                  refine wp_doc11 (by kernel_rfl) (by kernel_rfl) (by kernel_rfl) (by kernel_rfl) (by kernel_rfl) (by kernel_rfl) (by kernel_rfl) (by kernel_rfl) (by kernel_rfl) (by kernel_rfl) (by kernel_rfl) (by kernel_rfl) (by kernel_rfl) (by kernel_rfl) (by kernel_rfl) (by kernel_rfl) (by kernel_rfl) (by kernel_rfl) (by kernel_rfl) (by kernel_rfl) (by kernel_rfl) (by kernel_rfl) rfl rfl rfl
                    (.int .i64 k) (.slice da (2 * k) dc) (.agg #[.slice sa sn sc, .slice (some ⟨b, o, none⟩) pn pc]) (.pointer (some ⟨wr.heap.size, 1, none⟩)) (.slice a9 m9 c9) _ _ _ _ _
                    (fun w' => Kept [w.heap.size + 1] X w')
                    (fun w' => Kept [] X w')
                    (fun u w' => u = .agg (brow D) ∧ Kept [] X w')
                    (fun u y w' => u = .agg (brow D) ∧ (∃ a n c, y = .slice a n c ∧ Rd w' y pw ∧ ∀ x ∈ blk y, X.heap.size ≤ x) ∧ Kept [] X w')
                    (fun u y z w' => (∃ a n c, y = .slice a n c ∧ Rd w' y pw) ∧ Kept [w.heap.size + 1] X w' ∧ w'.heap[w.heap.size + 1]? = some (.cells (brow D) 28 (0, 0)))
                    (fun y z => y) (fun z => .bool true) (fun z => .int .i64 0)
                    (by simp only [Act.put, List.setIfInBounds_toArray, List.set_cons_zero, List.set_cons_succ]; rfl) (by exact Or.inl ⟨by rfl, fun W' hW' => by go_simp⟩)
                    (by simp only [Act.put, List.setIfInBounds_toArray, List.set_cons_zero, List.set_cons_succ]; rfl) (by exact Or.inl ⟨by rfl, fun W' hW' => by go_simp⟩)
                    (by simp only [Act.put, List.setIfInBounds_toArray, List.set_cons_zero, List.set_cons_succ]; rfl) (by exact Or.inl ⟨by rfl, fun W' hW' => by have h9 := hW'.cell g0 (by simp); have h8 := hW'.cell g1 (by simp); go_simp⟩)
                    (by simp only [Act.put, List.setIfInBounds_toArray, List.set_cons_zero, List.set_cons_succ]; rfl) (by exact Or.inl ⟨by rfl, fun W' hW' => by go_simp⟩)
                    (by simp only [Act.put, List.setIfInBounds_toArray, List.set_cons_zero, List.set_cons_succ]; rfl) (by exact Or.inl ⟨by rfl, fun W' hW' => by have h9 := hW'.cell cy (by simp; omega); go_simp⟩)
                    (Kept.refl [] X).drew
                    ⟨fun w' h => h.mono (by simp), fun u w' h => h.2.mono (by simp), fun u y w' h => h.2.2.mono (by simp), fun u y z w' h => h.2.1⟩
                    (by intro w' i K hK; exact wp_callN rfl Tryz.call31 [.int .i64 k, .slice da (2 * k) dc, .agg #[.slice sa sn sc, .slice (some ⟨b, o, none⟩) pn pc]] rfl (unhide HUP w' ((unhide HK11).trans i (by simp))) (fun e w2 h => ⟨_, h.1, hK _ _ ⟨rfl, i.trans h.2 (by simp)⟩⟩))
                    (by rintro u w' ⟨rfl, i⟩ K hK; refine wp_callN rfl Tryz.call6 [.slice a9 m9 c9] rfl (twin_any _ pw w' ((unhide HY11).old i (by simp))) ?_; rintro e w2 ⟨rfl, kv, hrow⟩; exact ⟨_, rfl, hK _ _ ⟨rfl, ⟨_, _, _, rfl, rd_fresh hrow (unhide HY11).byte (by obtain ⟨_, _, _, e9, h9, _, h8, _⟩ := id (unhide HY11); cases e9; omega), fun x hx => by simp only [blk, List.mem_singleton] at hx; rw [hx]; exact i.size⟩, i.trans kv (by simp)⟩⟩)
                    (by rintro u y w' ⟨rfl, ⟨a, n, c, rfl, hy, hyb⟩, i⟩ K hK; exact wp_store_row 28 (.tmp 6) (.tmp 61) rfl (w.heap.size + 1) (brow D) rfl rfl 28 (zb 32) (i.heap (unhide HZX) (by simp)) (unhide HSZ) (by rw [zb_size, brow_size, hdl]) (brow_one _) (hK _ _ ⟨⟨_, _, _, rfl, hy.kept ((Kept.refl [w.heap.size + 1] w').setRow (Or.inl (by simp)) _) (fun x hx => by have := hyb x hx; simp; omega)⟩, (i.mono (by simp)).setRow (Or.inl (by simp)) _, setRow_heap _ _ _ _ _ _ (i.heap (unhide HZX) (by simp))⟩))
                    (by rintro u y z w' ⟨⟨a, n, c, rfl, _⟩, _⟩; exact Or.inl ⟨by rfl, fun W' hW' => by go_simp⟩)
                    (by rintro u y z w' _; exact Or.inl ⟨by rfl, fun W' hW' => by go_simp⟩)
                    (by rintro u y z w' _; exact Or.inl ⟨by rfl, fun W' hW' => by go_simp⟩)
                    ?_
                  rintro u y z Y ⟨⟨a, n, c, rfl, hy⟩, kY, hY⟩
                  simp only [Act.put, List.setIfInBounds_toArray, List.set_cons_zero, List.set_cons_succ]
                  have HKF := hide (((unhide HK6).trans (unhide HK11) (by simp)).trans kY (by intro x hx; right; simp at hx; omega))
                  have HYF := hide hY
                  have HYV := hide hy
                  clear kY hY hy
                  go_wp2_with fail
                  rw [unhide HVh, unhide HE, unhide HDD]
                  refine bodyPost_ret (v := .tuple #[.agg (brow D), .slice a n c, .bool true, .int .i64 0]) ?_ rfl ⟨⟨_, rfl, unhide HYV⟩, unhide HKF⟩
                  exact results_cell_tmp3 rfl _ _ (w.heap.size + 1) _ (brow D) (0, 0) _ rfl (unhide HYF) Tryz.underlying28 rfl (unhide HSZ) _ _ _ rfl rfl rfl
                · rw [decide_eq_false hE]
                  have HN2 := hide (fun j (hj : j < i + 1) => by
                    rcases Nat.lt_or_ge j i with h9 | h9
                    · exact unhide HN j h9
                    · obtain rfl : j = i := by omega
                      rw [unhide HPI]; exact hE : ∀ j, j < i + 1 → (ps.getD j ([], [])).1 ≠ key)
                  clear hE
                  go_wp2
                  go_roundw
                  case rel => exact ⟨i + 1, hlt, by go_num, HN2, HK11⟩
                  case measure => simp [intOf]; omega
              · have hlt' : ¬ (i : Int) < pn := by omega
                have HVm := hide ((unhide HV).trans (valH_miss (key := key) (ps := ps) (by rw [unhide HPN, show pn = i by omega]; exact unhide HN)))
                have HGX := hide ((unhide HKr).heap (unhide HG6) (by simp))
                have HZX := hide ((unhide HKr).heap (unhide HZ6) (by simp))
                go_wp2_with (refine wpList_load_row rfl 26 _ rfl w.heap.size rfl _ #[.slice sa sn sc, .slice pa pn pc] (0, 0) _ (unhide HGX) Tryz.underlying26 rfl (by kernel_rfl) ?_)
                refine Calls.mono (unhide HUP wr (unhide HKr)) ?_
                rintro e w8 ⟨rfl, k8⟩
                have HZ8 := hide (k8.heap (unhide HZX) (by simp))
                have HK8 := hide ((unhide HKw).trans k8 (by simp))
                clear k8
                go_wp2_with (refine wpList_store_row rfl 28 _ _ rfl (w.heap.size + 1) (brow D) rfl rfl _ (zb 32) (unhide HZ8) (unhide HSZ) (by rw [zb_size, brow_size, hdl]) (brow_one _) ?_)
                rw [unhide HVm, unhide HE, unhide HDD]
                refine bodyPost_ret (v := .tuple #[.agg (brow D), .slice none 0 0, .bool false, .int .i64 0]) ?_ rfl ⟨⟨_, rfl, Rd.nil _⟩, (unhide HK8).setRow (g := w.heap.size + 1) (Or.inr (by omega)) (brow D)⟩
                exact results_cell_tmp3 rfl _ _ (w.heap.size + 1) _ (brow D) (0, 0) _ rfl (setRow_heap w8 (w.heap.size + 1) (zb 32) (brow D) 28 (0, 0) (unhide HZ8)) Tryz.underlying28 rfl (unhide HSZ) _ _ _ rfl rfl rfl
end Go.Proofs.YtjafmnemobcipaaGreatDoor
namespace Go.Proofs.YtjafmnemobcipaaGreatDoor
open Go.RowKit Go.BigFrame
set_option linter.unusedVariables false
set_option linter.unusedSimpArgs false

/-- What Check answers, by what RootOf answers: the document's order of refusals. -/
theorem ck_doc (z : Int) (root key : List Nat) (ss : List (Nat × List (List Nat))) (ps : List (List Nat × List Nat)) :
    (rtE z key ss ps = 1 ∧ ckE z root key ss ps = 1) ∨ (rtE z key ss ps = 2 ∧ ckE z root key ss ps = 2) ∨
    (rtE z key ss ps = 3 ∧ ckE z root key ss ps = 3) ∨
    ((rtE z key ss ps = 0 ∨ rtE z key ss ps = 10) ∧ formB z root = false ∧ ckE z root key ss ps = 3) ∨
    (rtE z key ss ps = 10 ∧ formB z root = true ∧ ckE z root key ss ps = 10) ∨
    (rtE z key ss ps = 0 ∧ formB z root = true ∧ ckE z root key ss ps = if rtD z key ss ps = root then 0 else 10) := by
  cases hw : widthB z with
  | false =>
    have h1 : ∀ kn, hfE z key kn ss = 1 := fun kn => by unfold hfE; rw [hw]; rfl
    left
    constructor
    · unfold rtE; rw [h1]; rfl
    · unfold ckE; rw [h1]; rfl
  | true =>
    by_cases hk : 64 < key.length
    · have h1 : ∀ kn, hfE z key kn ss = 2 := fun kn => by unfold hfE; rw [if_neg (by simp [hw]), if_pos hk]
      right; left
      constructor
      · unfold rtE; rw [h1]; rfl
      · unfold ckE; rw [h1]; rfl
    · have h0 : ∀ kn, hfE z key kn ss = if kn.all (formB z) && ss.all (fun s => s.2.all (formB z)) then 0 else 3 := fun kn => by unfold hfE; rw [if_neg (by simp [hw]), if_neg hk]
      cases hA : ss.all (fun s => s.2.all (formB z)) with
      | false =>
        have h1 : ∀ kn, hfE z key kn ss = 3 := fun kn => by rw [h0, hA, Bool.and_false]; rfl
        right; right; left
        constructor
        · unfold rtE; rw [h1]; rfl
        · unfold ckE; rw [h1]; rfl
      | true =>
        have h1 : hfE z key [] ss = 0 := by rw [h0, hA]; rfl
        have hR : rtE z key ss ps = if provB z (keyS z key) ss ps then 0 else 10 := by unfold rtE; rw [if_pos h1]
        cases hF : formB z root with
        | false =>
          have h2 : hfE z key [root] ss = 3 := by rw [h0]; simp [hF]
          right; right; right; left
          refine ⟨?_, rfl, ?_⟩
          · rw [hR]; cases provB z (keyS z key) ss ps <;> simp
          · unfold ckE; rw [h2]; rfl
        | true =>
          have h2 : hfE z key [root] ss = 0 := by rw [h0, hA]; simp [hF]
          have hC : ckE z root key ss ps = if rtE z key ss ps = 0 then (if rtD z key ss ps = root then 0 else 10) else rtE z key ss ps := by unfold ckE; rw [if_pos h2]
          cases hP : provB z (keyS z key) ss ps with
          | false =>
            have h3 : rtE z key ss ps = 10 := by rw [hR, hP]; rfl
            right; right; right; right; left
            exact ⟨h3, rfl, by rw [hC, h3]; rfl⟩
          | true =>
            have h3 : rtE z key ss ps = 0 := by rw [hR, hP]; rfl
            right; right; right; right; right
            exact ⟨h3, rfl, by rw [hC, if_pos h3]⟩

set_option maxRecDepth 100000 in
set_option maxHeartbeats 4000000 in
theorem docCheck_any (z : Int) (root : List Nat) (kv : Value) (key : List Nat) (sv pv : Value) (ss : List (Nat × List (List Nat))) (ps : List (List Nat × List Nat)) (w : World) (hz : -9223372036854775808 ≤ z ∧ z ≤ 9223372036854775807) (hr : Dg root) (hk : Rd w kv key) (hs : RdS w sv ss) (hp : RdK w pv ps) (hpb : (pairB ps).length ≤ 1000000000000)
    (hkl : ∀ s ∈ ss, s.2.length ≤ 1000000000) (hpk : ∀ p ∈ ps, p.1.length ≤ 1000000000) :
    Calls Tryz.prog 8 #[.int .i64 z, .agg (brow root), kv, .agg #[sv, pv]] w fun e w' => (∃ v', e = .returned (.tuple #[v', .bool (ckV z root key ss ps).isSome, .int .i64 (ckE z root key ss ps : Int)]) ∧ Rd w' v' ((ckV z root key ss ps).getD [])) ∧ Kept [] w w' := by
  obtain ⟨sa, sn, sc, vs0, rfl, h1⟩ := id hs
  obtain ⟨pa, pn, pc, _, _, rfl, h2⟩ := id hp
  obtain ⟨ka, kn, kc, rfl, hkn⟩ := id hk
  clear h1 h2
  have HDO := hide (fun w0 (hw0 : Kept [] w w0) => docRoot_any z (.slice ka kn kc) key (.slice sa sn sc) (.slice pa pn pc) ss ps w0 hz (hk.old hw0 (by simp)) (hs.old hw0) (hp.old hw0) hpb hkl hpk)
  have HCK := hide (ck_doc z root key ss ps)
  have HDG := hide (rtD_dg z key ss ps)
  have HCV := hide (by unfold ckV; rfl : ckV z root key ss ps = if ckE z root key ss ps = 0 then rtV z key ss ps else none)
  have HR := hide hr
  have hrl := hr.1
  have HSR := hide (Tryz.szD hrl)
  clear hp hs hkl hk hr hpk hpb hkn
  have HK0 := hide (((Kept.refl [] w).alloc (.cells (brow root) 28)).alloc (.cells #[.slice sa sn sc, .slice pa pn pc] 26))
  have HR0 := hide (heap_alloc2_old w (.cells (brow root) 28) (.cells #[.slice sa sn sc, .slice pa pn pc] 26))
  have HG0 := hide (heap_alloc2_new w (.cells (brow root) 28) (.cells #[.slice sa sn sc, .slice pa pn pc] 26))
  obtain ⟨W, hW⟩ : ∃ W, (w.alloc (.cells (brow root) 28)).alloc (.cells #[.slice sa sn sc, .slice pa pn pc] 26) = W := ⟨_, rfl⟩
  rw [hW] at HK0 HG0 HR0
  go_enter Tryz.func8, Tryz.ntmps8
  go_wp2_with (first | (rw [hW]) | (refine wpList_load_row rfl 26 _ rfl (w.heap.size + 1) rfl _ #[.slice sa sn sc, .slice pa pn pc] (0, 0) _ (unhide HG0) Tryz.underlying26 rfl (by kernel_rfl) ?_))
  clear hW
  refine Calls.mono (unhide HDO W (unhide HK0)) ?_
  rintro e w2 ⟨⟨v2, rfl, hv2⟩, k2⟩
  have HV2 := hide hv2
  obtain ⟨av, nv, cv, rfl, _⟩ := id hv2
  clear hv2
  generalize rtD z key ss ps = D at HDG HCK ⊢
  generalize rtE z key ss ps = E at HCK ⊢
  generalize rtV z key ss ps = V at HV2 HCV ⊢
  have hd := (unhide HDG).1
  have HSZ := hide (Tryz.szD hd)
  have kN := (k2.alloc (.cells (zb 32) 28)).setRow (g := w2.heap.size) (Or.inr k2.size) (brow D)
  have HN2 := hide (setRow_heap (w2.alloc (.cells (zb 32) 28)) w2.heap.size (zb 32) (brow D) 28 (0, 0) (heap_alloc_new _ _))
  have HK2 := hide ((unhide HK0).trans kN (by simp))
  have HR2 := hide (kN.heap (unhide HR0) (by simp))
  have HVN := hide ((unhide HV2).old (((Kept.refl [] w2).alloc (.cells (zb 32) 28)).setRow (g := w2.heap.size) (Or.inr (Nat.le_refl _)) (brow D)) (by simp))
  clear kN k2 HK0 HR0 HG0 HV2 HDO
  have heq := fun W => dig_eq W D root hd hrl
  rcases unhide HCK with ⟨rfl, hC⟩ | ⟨rfl, hC⟩ | ⟨rfl, hC⟩ | ⟨hE, hF, hC⟩ | ⟨rfl, hF, hC⟩ | ⟨rfl, hF, hC⟩
  · clear HCK
    go_wp2_with (first
      | (rw [zb32]; refine wpList_store_row rfl 28 _ _ rfl w2.heap.size (brow D) rfl rfl _ (zb 32) (heap_alloc_new _ _) (unhide HSZ) (by rw [zb_size, brow_size, hd]) (brow_one _) ?_)
      | (refine wpList_load_row rfl 28 _ rfl w.heap.size rfl _ (brow root) (0, 0) _ (unhide HR2) Tryz.underlying28 rfl (unhide HSR) ?_)
      | (refine wpList_load_rowG rfl 28 _ rfl w.heap.size rfl _ (brow root) (0, 0) _ (unhide HR2) Tryz.underlying28 rfl (unhide HSR) ?_))
    go_ret3
    rw [unhide HCV, hC]
    exact ⟨⟨_, rfl, Rd.nil _⟩, unhide HK2⟩
  · clear HCK
    go_wp2_with (first
      | (rw [zb32]; refine wpList_store_row rfl 28 _ _ rfl w2.heap.size (brow D) rfl rfl _ (zb 32) (heap_alloc_new _ _) (unhide HSZ) (by rw [zb_size, brow_size, hd]) (brow_one _) ?_)
      | (refine wpList_load_row rfl 28 _ rfl w.heap.size rfl _ (brow root) (0, 0) _ (unhide HR2) Tryz.underlying28 rfl (unhide HSR) ?_)
      | (refine wpList_load_rowG rfl 28 _ rfl w.heap.size rfl _ (brow root) (0, 0) _ (unhide HR2) Tryz.underlying28 rfl (unhide HSR) ?_))
    go_ret3
    rw [unhide HCV, hC]
    exact ⟨⟨_, rfl, Rd.nil _⟩, unhide HK2⟩
  · clear HCK
    go_wp2_with (first
      | (rw [zb32]; refine wpList_store_row rfl 28 _ _ rfl w2.heap.size (brow D) rfl rfl _ (zb 32) (heap_alloc_new _ _) (unhide HSZ) (by rw [zb_size, brow_size, hd]) (brow_one _) ?_)
      | (refine wpList_load_row rfl 28 _ rfl w.heap.size rfl _ (brow root) (0, 0) _ (unhide HR2) Tryz.underlying28 rfl (unhide HSR) ?_)
      | (refine wpList_load_rowG rfl 28 _ rfl w.heap.size rfl _ (brow root) (0, 0) _ (unhide HR2) Tryz.underlying28 rfl (unhide HSR) ?_))
    go_ret3
    rw [unhide HCV, hC]
    exact ⟨⟨_, rfl, Rd.nil _⟩, unhide HK2⟩
  · clear HCK
    rcases hE with rfl | rfl
    · go_wp2_with (first
        | (rw [zb32]; refine wpList_store_row rfl 28 _ _ rfl w2.heap.size (brow D) rfl rfl _ (zb 32) (heap_alloc_new _ _) (unhide HSZ) (by rw [zb_size, brow_size, hd]) (brow_one _) ?_)
        | (refine wpList_load_row rfl 28 _ rfl w.heap.size rfl _ (brow root) (0, 0) _ (unhide HR2) Tryz.underlying28 rfl (unhide HSR) ?_)
        | (refine wpList_load_rowG rfl 28 _ rfl w.heap.size rfl _ (brow root) (0, 0) _ (unhide HR2) Tryz.underlying28 rfl (unhide HSR) ?_))
      refine Calls.mono (docForm_any z root _ hz hrl (unhide HR).2) ?_
      rintro e w3 ⟨rfl, k3⟩
      rw [hF]
      have HK3 := hide ((unhide HK2).trans k3 (by simp))
      have HR3 := hide (k3.heap (unhide HR2) (by simp))
      have HN3 := hide (k3.heap (unhide HN2) (by simp))
      have HV3 := hide ((unhide HVN).old k3 (by simp))
      clear k3 HR2 HN2 hF
      go_wp2_with (first
        | (refine wpList_load_row rfl 28 _ rfl w.heap.size rfl _ (brow root) (0, 0) _ (unhide HR3) Tryz.underlying28 rfl (unhide HSR) ?_)
        | (refine wpList_load_rowG rfl 28 _ rfl w.heap.size rfl _ (brow root) (0, 0) _ (unhide HR3) Tryz.underlying28 rfl (unhide HSR) ?_)
        | (refine wpList_load_row rfl 28 _ rfl w2.heap.size rfl _ (brow D) (0, 0) _ (unhide HN3) Tryz.underlying28 rfl (unhide HSZ) ?_)
        | (refine wpList_load_rowG rfl 28 _ rfl w2.heap.size rfl _ (brow D) (0, 0) _ (unhide HN3) Tryz.underlying28 rfl (unhide HSZ) ?_))
      go_ret3
      rw [unhide HCV, hC]
      exact ⟨⟨_, rfl, Rd.nil _⟩, unhide HK3⟩
    · go_wp2_with (first
        | (rw [zb32]; refine wpList_store_row rfl 28 _ _ rfl w2.heap.size (brow D) rfl rfl _ (zb 32) (heap_alloc_new _ _) (unhide HSZ) (by rw [zb_size, brow_size, hd]) (brow_one _) ?_)
        | (refine wpList_load_row rfl 28 _ rfl w.heap.size rfl _ (brow root) (0, 0) _ (unhide HR2) Tryz.underlying28 rfl (unhide HSR) ?_)
        | (refine wpList_load_rowG rfl 28 _ rfl w.heap.size rfl _ (brow root) (0, 0) _ (unhide HR2) Tryz.underlying28 rfl (unhide HSR) ?_))
      refine Calls.mono (docForm_any z root _ hz hrl (unhide HR).2) ?_
      rintro e w3 ⟨rfl, k3⟩
      rw [hF]
      have HK3 := hide ((unhide HK2).trans k3 (by simp))
      have HR3 := hide (k3.heap (unhide HR2) (by simp))
      have HN3 := hide (k3.heap (unhide HN2) (by simp))
      have HV3 := hide ((unhide HVN).old k3 (by simp))
      clear k3 HR2 HN2 hF
      go_wp2_with (first
        | (refine wpList_load_row rfl 28 _ rfl w.heap.size rfl _ (brow root) (0, 0) _ (unhide HR3) Tryz.underlying28 rfl (unhide HSR) ?_)
        | (refine wpList_load_rowG rfl 28 _ rfl w.heap.size rfl _ (brow root) (0, 0) _ (unhide HR3) Tryz.underlying28 rfl (unhide HSR) ?_)
        | (refine wpList_load_row rfl 28 _ rfl w2.heap.size rfl _ (brow D) (0, 0) _ (unhide HN3) Tryz.underlying28 rfl (unhide HSZ) ?_)
        | (refine wpList_load_rowG rfl 28 _ rfl w2.heap.size rfl _ (brow D) (0, 0) _ (unhide HN3) Tryz.underlying28 rfl (unhide HSZ) ?_))
      go_ret3
      rw [unhide HCV, hC]
      exact ⟨⟨_, rfl, Rd.nil _⟩, unhide HK3⟩
  · clear HCK
    go_wp2_with (first
      | (rw [zb32]; refine wpList_store_row rfl 28 _ _ rfl w2.heap.size (brow D) rfl rfl _ (zb 32) (heap_alloc_new _ _) (unhide HSZ) (by rw [zb_size, brow_size, hd]) (brow_one _) ?_)
      | (refine wpList_load_row rfl 28 _ rfl w.heap.size rfl _ (brow root) (0, 0) _ (unhide HR2) Tryz.underlying28 rfl (unhide HSR) ?_)
      | (refine wpList_load_rowG rfl 28 _ rfl w.heap.size rfl _ (brow root) (0, 0) _ (unhide HR2) Tryz.underlying28 rfl (unhide HSR) ?_))
    refine Calls.mono (docForm_any z root _ hz hrl (unhide HR).2) ?_
    rintro e w3 ⟨rfl, k3⟩
    rw [hF]
    have HK3 := hide ((unhide HK2).trans k3 (by simp))
    have HR3 := hide (k3.heap (unhide HR2) (by simp))
    have HN3 := hide (k3.heap (unhide HN2) (by simp))
    have HV3 := hide ((unhide HVN).old k3 (by simp))
    clear k3 HR2 HN2 hF
    go_wp2_with (first
      | (refine wpList_load_row rfl 28 _ rfl w.heap.size rfl _ (brow root) (0, 0) _ (unhide HR3) Tryz.underlying28 rfl (unhide HSR) ?_)
      | (refine wpList_load_rowG rfl 28 _ rfl w.heap.size rfl _ (brow root) (0, 0) _ (unhide HR3) Tryz.underlying28 rfl (unhide HSR) ?_)
      | (refine wpList_load_row rfl 28 _ rfl w2.heap.size rfl _ (brow D) (0, 0) _ (unhide HN3) Tryz.underlying28 rfl (unhide HSZ) ?_)
      | (refine wpList_load_rowG rfl 28 _ rfl w2.heap.size rfl _ (brow D) (0, 0) _ (unhide HN3) Tryz.underlying28 rfl (unhide HSZ) ?_))
    go_ret3
    rw [unhide HCV, hC]
    exact ⟨⟨_, rfl, Rd.nil _⟩, unhide HK3⟩
  · clear HCK
    go_wp2_with (first
      | (rw [zb32]; refine wpList_store_row rfl 28 _ _ rfl w2.heap.size (brow D) rfl rfl _ (zb 32) (heap_alloc_new _ _) (unhide HSZ) (by rw [zb_size, brow_size, hd]) (brow_one _) ?_)
      | (refine wpList_load_row rfl 28 _ rfl w.heap.size rfl _ (brow root) (0, 0) _ (unhide HR2) Tryz.underlying28 rfl (unhide HSR) ?_)
      | (refine wpList_load_rowG rfl 28 _ rfl w.heap.size rfl _ (brow root) (0, 0) _ (unhide HR2) Tryz.underlying28 rfl (unhide HSR) ?_))
    refine Calls.mono (docForm_any z root _ hz hrl (unhide HR).2) ?_
    rintro e w3 ⟨rfl, k3⟩
    rw [hF]
    have HK3 := hide ((unhide HK2).trans k3 (by simp))
    have HR3 := hide (k3.heap (unhide HR2) (by simp))
    have HN3 := hide (k3.heap (unhide HN2) (by simp))
    have HV3 := hide ((unhide HVN).old k3 (by simp))
    clear k3 HR2 HN2 hF
    by_cases hDr : D = root
    · rw [decide_eq_true hDr] at heq
      rw [if_pos hDr] at hC
      clear hDr
      go_wp2_with (first
        | (refine wpList_load_row rfl 28 _ rfl w.heap.size rfl _ (brow root) (0, 0) _ (unhide HR3) Tryz.underlying28 rfl (unhide HSR) ?_)
        | (refine wpList_load_rowG rfl 28 _ rfl w.heap.size rfl _ (brow root) (0, 0) _ (unhide HR3) Tryz.underlying28 rfl (unhide HSR) ?_)
        | (refine wpList_load_row rfl 28 _ rfl w2.heap.size rfl _ (brow D) (0, 0) _ (unhide HN3) Tryz.underlying28 rfl (unhide HSZ) ?_)
        | (refine wpList_load_rowG rfl 28 _ rfl w2.heap.size rfl _ (brow D) (0, 0) _ (unhide HN3) Tryz.underlying28 rfl (unhide HSZ) ?_))
      go_ret3
      rw [unhide HCV, hC]
      exact ⟨⟨_, rfl, unhide HV3⟩, unhide HK3⟩
    · rw [decide_eq_false hDr] at heq
      rw [if_neg hDr] at hC
      clear hDr
      go_wp2_with (first
        | (refine wpList_load_row rfl 28 _ rfl w.heap.size rfl _ (brow root) (0, 0) _ (unhide HR3) Tryz.underlying28 rfl (unhide HSR) ?_)
        | (refine wpList_load_rowG rfl 28 _ rfl w.heap.size rfl _ (brow root) (0, 0) _ (unhide HR3) Tryz.underlying28 rfl (unhide HSR) ?_)
        | (refine wpList_load_row rfl 28 _ rfl w2.heap.size rfl _ (brow D) (0, 0) _ (unhide HN3) Tryz.underlying28 rfl (unhide HSZ) ?_)
        | (refine wpList_load_rowG rfl 28 _ rfl w2.heap.size rfl _ (brow D) (0, 0) _ (unhide HN3) Tryz.underlying28 rfl (unhide HSZ) ?_))
      go_ret3
      rw [unhide HCV, hC]
      exact ⟨⟨_, rfl, Rd.nil _⟩, unhide HK3⟩
end Go.Proofs.YtjafmnemobcipaaGreatDoor
/-
  Laws for drawn regions, by genreg.py. No program.
-/
namespace Go.Proofs.YtjafmnemobcipaaGreatDoor
open Go Go.RowKit Go.BigFrame
set_option linter.unusedVariables false
set_option linter.unusedSimpArgs false
section
variable {P : Program} {Q : Exit → Act → World → Prop}
theorem wp_ck18 {id : Nat} {o0 o1 o2 o3 o4 o5 o6 o7 o8 o9 o10 o11 o12 o13 o14 o15 o16 o17 : Oper} {a : Act} {w : World} (hm : P.follows .mixedOrders = true) (hs : Region.noSelect #[o0, o1, o2, o3, o4, o5, o6, o7, o8, o9, o10, o11, o12, o13, o14, o15, o16, o17] = true)
    (f0 : Region.free .any #[o0, o1, o2, o3, o4, o5, o6, o7, o8, o9, o10, o11, o12, o13, o14, o15, o16, o17] #[false, false, false, false, false, false, false, false, false, false, false, false, false, false, false, false, false, false] 0 = true) (r0 : (Region.ready .any #[o0, o1, o2, o3, o4, o5, o6, o7, o8, o9, o10, o11, o12, o13, o14, o15, o16, o17] #[false, false, false, false, false, false, false, false, false, false, false, false, false, false, false, false, false, false]).contains 0 = true)
    (f1 : Region.free .any #[o0, o1, o2, o3, o4, o5, o6, o7, o8, o9, o10, o11, o12, o13, o14, o15, o16, o17] #[true, false, false, false, false, false, false, false, false, false, false, false, false, false, false, false, false, false] 1 = true) (r1 : (Region.ready .any #[o0, o1, o2, o3, o4, o5, o6, o7, o8, o9, o10, o11, o12, o13, o14, o15, o16, o17] #[true, false, false, false, false, false, false, false, false, false, false, false, false, false, false, false, false, false]).contains 1 = true)
    (f2 : Region.free .any #[o0, o1, o2, o3, o4, o5, o6, o7, o8, o9, o10, o11, o12, o13, o14, o15, o16, o17] #[true, true, false, false, false, false, false, false, false, false, false, false, false, false, false, false, false, false] 2 = true) (r2 : (Region.ready .any #[o0, o1, o2, o3, o4, o5, o6, o7, o8, o9, o10, o11, o12, o13, o14, o15, o16, o17] #[true, true, false, false, false, false, false, false, false, false, false, false, false, false, false, false, false, false]).contains 2 = true)
    (f3 : Region.free .any #[o0, o1, o2, o3, o4, o5, o6, o7, o8, o9, o10, o11, o12, o13, o14, o15, o16, o17] #[true, true, true, false, false, false, false, false, false, false, false, false, false, false, false, false, false, false] 3 = true) (r3 : (Region.ready .any #[o0, o1, o2, o3, o4, o5, o6, o7, o8, o9, o10, o11, o12, o13, o14, o15, o16, o17] #[true, true, true, false, false, false, false, false, false, false, false, false, false, false, false, false, false, false]).contains 3 = true)
    (f4 : Region.free .any #[o0, o1, o2, o3, o4, o5, o6, o7, o8, o9, o10, o11, o12, o13, o14, o15, o16, o17] #[true, true, true, true, false, false, false, false, false, false, false, false, false, false, false, false, false, false] 4 = true) (r4 : (Region.ready .any #[o0, o1, o2, o3, o4, o5, o6, o7, o8, o9, o10, o11, o12, o13, o14, o15, o16, o17] #[true, true, true, true, false, false, false, false, false, false, false, false, false, false, false, false, false, false]).contains 4 = true)
    (f5 : Region.free .any #[o0, o1, o2, o3, o4, o5, o6, o7, o8, o9, o10, o11, o12, o13, o14, o15, o16, o17] #[true, true, true, true, true, false, false, false, false, false, false, false, false, false, false, false, false, false] 5 = true) (r5 : (Region.ready .any #[o0, o1, o2, o3, o4, o5, o6, o7, o8, o9, o10, o11, o12, o13, o14, o15, o16, o17] #[true, true, true, true, true, false, false, false, false, false, false, false, false, false, false, false, false, false]).contains 5 = true)
    (f7 : Region.free .any #[o0, o1, o2, o3, o4, o5, o6, o7, o8, o9, o10, o11, o12, o13, o14, o15, o16, o17] #[true, true, true, true, true, true, false, false, false, false, false, false, false, false, false, false, false, false] 7 = true) (r7 : (Region.ready .any #[o0, o1, o2, o3, o4, o5, o6, o7, o8, o9, o10, o11, o12, o13, o14, o15, o16, o17] #[true, true, true, true, true, true, false, false, false, false, false, false, false, false, false, false, false, false]).contains 7 = true)
    (f8 : Region.free .any #[o0, o1, o2, o3, o4, o5, o6, o7, o8, o9, o10, o11, o12, o13, o14, o15, o16, o17] #[true, true, true, true, true, true, false, true, false, false, false, false, false, false, false, false, false, false] 8 = true) (r8 : (Region.ready .any #[o0, o1, o2, o3, o4, o5, o6, o7, o8, o9, o10, o11, o12, o13, o14, o15, o16, o17] #[true, true, true, true, true, true, false, true, false, false, false, false, false, false, false, false, false, false]).contains 8 = true)
    (q_ : Region.ready .any #[o0, o1, o2, o3, o4, o5, o6, o7, o8, o9, o10, o11, o12, o13, o14, o15, o16, o17] #[true, true, true, true, true, true, false, true, true, false, false, false, false, false, false, false, false, false] = [6])
    (q6_ : Region.ready .any #[o0, o1, o2, o3, o4, o5, o6, o7, o8, o9, o10, o11, o12, o13, o14, o15, o16, o17] #[true, true, true, true, true, true, true, true, true, false, false, false, false, false, false, false, false, false] = [9])
    (q6_9_ : Region.ready .any #[o0, o1, o2, o3, o4, o5, o6, o7, o8, o9, o10, o11, o12, o13, o14, o15, o16, o17] #[true, true, true, true, true, true, true, true, true, true, false, false, false, false, false, false, false, false] = [10])
    (f6_9_10_11 : Region.free .any #[o0, o1, o2, o3, o4, o5, o6, o7, o8, o9, o10, o11, o12, o13, o14, o15, o16, o17] #[true, true, true, true, true, true, true, true, true, true, true, false, false, false, false, false, false, false] 11 = true) (r6_9_10_11 : (Region.ready .any #[o0, o1, o2, o3, o4, o5, o6, o7, o8, o9, o10, o11, o12, o13, o14, o15, o16, o17] #[true, true, true, true, true, true, true, true, true, true, true, false, false, false, false, false, false, false]).contains 11 = true)
    (f6_9_10_12 : Region.free .any #[o0, o1, o2, o3, o4, o5, o6, o7, o8, o9, o10, o11, o12, o13, o14, o15, o16, o17] #[true, true, true, true, true, true, true, true, true, true, true, true, false, false, false, false, false, false] 12 = true) (r6_9_10_12 : (Region.ready .any #[o0, o1, o2, o3, o4, o5, o6, o7, o8, o9, o10, o11, o12, o13, o14, o15, o16, o17] #[true, true, true, true, true, true, true, true, true, true, true, true, false, false, false, false, false, false]).contains 12 = true)
    (f6_9_10_13 : Region.free .any #[o0, o1, o2, o3, o4, o5, o6, o7, o8, o9, o10, o11, o12, o13, o14, o15, o16, o17] #[true, true, true, true, true, true, true, true, true, true, true, true, true, false, false, false, false, false] 13 = true) (r6_9_10_13 : (Region.ready .any #[o0, o1, o2, o3, o4, o5, o6, o7, o8, o9, o10, o11, o12, o13, o14, o15, o16, o17] #[true, true, true, true, true, true, true, true, true, true, true, true, true, false, false, false, false, false]).contains 13 = true)
    (f6_9_10_14 : Region.free .any #[o0, o1, o2, o3, o4, o5, o6, o7, o8, o9, o10, o11, o12, o13, o14, o15, o16, o17] #[true, true, true, true, true, true, true, true, true, true, true, true, true, true, false, false, false, false] 14 = true) (r6_9_10_14 : (Region.ready .any #[o0, o1, o2, o3, o4, o5, o6, o7, o8, o9, o10, o11, o12, o13, o14, o15, o16, o17] #[true, true, true, true, true, true, true, true, true, true, true, true, true, true, false, false, false, false]).contains 14 = true)
    (f6_9_10_15 : Region.free .any #[o0, o1, o2, o3, o4, o5, o6, o7, o8, o9, o10, o11, o12, o13, o14, o15, o16, o17] #[true, true, true, true, true, true, true, true, true, true, true, true, true, true, true, false, false, false] 15 = true) (r6_9_10_15 : (Region.ready .any #[o0, o1, o2, o3, o4, o5, o6, o7, o8, o9, o10, o11, o12, o13, o14, o15, o16, o17] #[true, true, true, true, true, true, true, true, true, true, true, true, true, true, true, false, false, false]).contains 15 = true)
    (f6_9_10_16 : Region.free .any #[o0, o1, o2, o3, o4, o5, o6, o7, o8, o9, o10, o11, o12, o13, o14, o15, o16, o17] #[true, true, true, true, true, true, true, true, true, true, true, true, true, true, true, true, false, false] 16 = true) (r6_9_10_16 : (Region.ready .any #[o0, o1, o2, o3, o4, o5, o6, o7, o8, o9, o10, o11, o12, o13, o14, o15, o16, o17] #[true, true, true, true, true, true, true, true, true, true, true, true, true, true, true, true, false, false]).contains 16 = true)
    (f6_9_10_17 : Region.free .any #[o0, o1, o2, o3, o4, o5, o6, o7, o8, o9, o10, o11, o12, o13, o14, o15, o16, o17] #[true, true, true, true, true, true, true, true, true, true, true, true, true, true, true, true, true, false] 17 = true) (r6_9_10_17 : (Region.ready .any #[o0, o1, o2, o3, o4, o5, o6, o7, o8, o9, o10, o11, o12, o13, o14, o15, o16, o17] #[true, true, true, true, true, true, true, true, true, true, true, true, true, true, true, true, true, false]).contains 17 = true)
    (q6_9_10_ : Region.ready .any #[o0, o1, o2, o3, o4, o5, o6, o7, o8, o9, o10, o11, o12, o13, o14, o15, o16, o17] #[true, true, true, true, true, true, true, true, true, true, true, true, true, true, true, true, true, true] = [])
    (g6 : o6.guard = none)    (g9 : o9.guard = none)    (g10 : o10.guard = none)
    (v0 v1 v2 v3 v4 v5 v7 v8 : Value) (A0 A1 A2 A3 A4 A5 A6 A7 : Act)
    (S : World → Prop)
    (I_ : World → Prop)
    (I6_ : Value → World → Prop)
    (I6_9_ : Value → Value → World → Prop)
    (I6_9_10_ : Value → Value → Value → World → Prop)
    (v11 : Value → Value)
    (v12 : Value → Value)
    (v13 : Value → Value)
    (v14 : Value → Value)
    (v15 : Value → Value)
    (v16 : Value → Value)
    (v17 : Value → Value)
    (p0 : a.put o0.dst v0 = A0) (hy0 : YieldsIf P #[o0, o1, o2, o3, o4, o5, o6, o7, o8, o9, o10, o11, o12, o13, o14, o15, o16, o17] S o0 v0 a)
    (p1 : A0.put o1.dst v1 = A1) (hy1 : YieldsIf P #[o0, o1, o2, o3, o4, o5, o6, o7, o8, o9, o10, o11, o12, o13, o14, o15, o16, o17] S o1 v1 A0)
    (p2 : A1.put o2.dst v2 = A2) (hy2 : YieldsIf P #[o0, o1, o2, o3, o4, o5, o6, o7, o8, o9, o10, o11, o12, o13, o14, o15, o16, o17] S o2 v2 A1)
    (p3 : A2.put o3.dst v3 = A3) (hy3 : YieldsIf P #[o0, o1, o2, o3, o4, o5, o6, o7, o8, o9, o10, o11, o12, o13, o14, o15, o16, o17] S o3 v3 A2)
    (p4 : A3.put o4.dst v4 = A4) (hy4 : YieldsIf P #[o0, o1, o2, o3, o4, o5, o6, o7, o8, o9, o10, o11, o12, o13, o14, o15, o16, o17] S o4 v4 A3)
    (p5 : A4.put o5.dst v5 = A5) (hy5 : YieldsIf P #[o0, o1, o2, o3, o4, o5, o6, o7, o8, o9, o10, o11, o12, o13, o14, o15, o16, o17] S o5 v5 A4)
    (p7 : A5.put o7.dst v7 = A6) (hy7 : YieldsIf P #[o0, o1, o2, o3, o4, o5, o6, o7, o8, o9, o10, o11, o12, o13, o14, o15, o16, o17] S o7 v7 A5)
    (p8 : A6.put o8.dst v8 = A7) (hy8 : YieldsIf P #[o0, o1, o2, o3, o4, o5, o6, o7, o8, o9, o10, o11, o12, o13, o14, o15, o16, o17] S o8 v8 A6)
    (i0 : I_ w.drew)
    (hIS : (∀ w', I_  w' → S w') ∧ (∀ (u6 : Value) w', I6_ u6 w' → S w') ∧ (∀ (u6 u9 : Value) w', I6_9_ u6 u9 w' → S w') ∧ (∀ (u6 u9 u10 : Value) w', I6_9_10_ u6 u9 u10 w' → S w'))
    (s_6 : ∀ w', I_  w' → ∀ K : Act → World → Prop, (∀ (u6 : Value) w2, I6_ u6 w2 → K (A7.put o6.dst u6) w2) → o6.wp P A7 w' K (NoPanic Q))
    (s6_9 : ∀ (u6 : Value) w', I6_ u6 w' → ∀ K : Act → World → Prop, (∀ (u9 : Value) w2, I6_9_ u6 u9 w2 → K ((A7.put o6.dst u6).put o9.dst u9) w2) → o9.wp P (A7.put o6.dst u6) w' K (NoPanic Q))
    (s6_9_10 : ∀ (u6 u9 : Value) w', I6_9_ u6 u9 w' → ∀ K : Act → World → Prop, (∀ (u10 : Value) w2, I6_9_10_ u6 u9 u10 w2 → K (((A7.put o6.dst u6).put o9.dst u9).put o10.dst u10) w2) → o10.wp P ((A7.put o6.dst u6).put o9.dst u9) w' K (NoPanic Q))
    (y6_9_10_11 : ∀ (u6 u9 u10 : Value) w', I6_9_10_ u6 u9 u10 w' → YieldsIf P #[o0, o1, o2, o3, o4, o5, o6, o7, o8, o9, o10, o11, o12, o13, o14, o15, o16, o17] S o11 (v11 u10) (((A7.put o6.dst u6).put o9.dst u9).put o10.dst u10))
    (y6_9_10_12 : ∀ (u6 u9 u10 : Value) w', I6_9_10_ u6 u9 u10 w' → YieldsIf P #[o0, o1, o2, o3, o4, o5, o6, o7, o8, o9, o10, o11, o12, o13, o14, o15, o16, o17] S o12 (v12 u10) ((((A7.put o6.dst u6).put o9.dst u9).put o10.dst u10).put o11.dst (v11 u10)))
    (y6_9_10_13 : ∀ (u6 u9 u10 : Value) w', I6_9_10_ u6 u9 u10 w' → YieldsIf P #[o0, o1, o2, o3, o4, o5, o6, o7, o8, o9, o10, o11, o12, o13, o14, o15, o16, o17] S o13 (v13 u10) (((((A7.put o6.dst u6).put o9.dst u9).put o10.dst u10).put o11.dst (v11 u10)).put o12.dst (v12 u10)))
    (y6_9_10_14 : ∀ (u6 u9 u10 : Value) w', I6_9_10_ u6 u9 u10 w' → YieldsIf P #[o0, o1, o2, o3, o4, o5, o6, o7, o8, o9, o10, o11, o12, o13, o14, o15, o16, o17] S o14 (v14 u10) ((((((A7.put o6.dst u6).put o9.dst u9).put o10.dst u10).put o11.dst (v11 u10)).put o12.dst (v12 u10)).put o13.dst (v13 u10)))
    (y6_9_10_15 : ∀ (u6 u9 u10 : Value) w', I6_9_10_ u6 u9 u10 w' → YieldsIf P #[o0, o1, o2, o3, o4, o5, o6, o7, o8, o9, o10, o11, o12, o13, o14, o15, o16, o17] S o15 (v15 u10) (((((((A7.put o6.dst u6).put o9.dst u9).put o10.dst u10).put o11.dst (v11 u10)).put o12.dst (v12 u10)).put o13.dst (v13 u10)).put o14.dst (v14 u10)))
    (y6_9_10_16 : ∀ (u6 u9 u10 : Value) w', I6_9_10_ u6 u9 u10 w' → YieldsIf P #[o0, o1, o2, o3, o4, o5, o6, o7, o8, o9, o10, o11, o12, o13, o14, o15, o16, o17] S o16 (v16 u10) ((((((((A7.put o6.dst u6).put o9.dst u9).put o10.dst u10).put o11.dst (v11 u10)).put o12.dst (v12 u10)).put o13.dst (v13 u10)).put o14.dst (v14 u10)).put o15.dst (v15 u10)))
    (y6_9_10_17 : ∀ (u6 u9 u10 : Value) w', I6_9_10_ u6 u9 u10 w' → YieldsIf P #[o0, o1, o2, o3, o4, o5, o6, o7, o8, o9, o10, o11, o12, o13, o14, o15, o16, o17] S o17 (v17 u10) (((((((((A7.put o6.dst u6).put o9.dst u9).put o10.dst u10).put o11.dst (v11 u10)).put o12.dst (v12 u10)).put o13.dst (v13 u10)).put o14.dst (v14 u10)).put o15.dst (v15 u10)).put o16.dst (v16 u10)))
    (h : ∀ (u6 u9 u10 : Value) w', I6_9_10_ u6 u9 u10 w' → Q .normal ((((((((((A7.put o6.dst u6).put o9.dst u9).put o10.dst u10).put o11.dst (v11 u10)).put o12.dst (v12 u10)).put o13.dst (v13 u10)).put o14.dst (v14 u10)).put o15.dst (v15 u10)).put o16.dst (v16 u10)).put o17.dst (v17 u10)) w') :
    (Code.region id #[o0, o1, o2, o3, o4, o5, o6, o7, o8, o9, o10, o11, o12, o13, o14, o15, o16, o17] true).wp P Q a w := by
  subst p0 p1 p2 p3 p4 p5 p7 p8
  obtain ⟨z_, z6_, z6_9_, z6_9_10_⟩ := hIS
  refine wp_region_noPanic ?_
  refine wp_region_held_drew (S := S) hm (z_ _ i0) (fun hH => ?_)
  show wpAnyH P .any #[o0, o1, o2, o3, o4, o5, o6, o7, o8, o9, o10, o11, o12, o13, o14, o15, o16, o17] (NoPanic Q) S 18 #[false, false, false, false, false, false, false, false, false, false, false, false, false, false, false, false, false, false] a w.drew
  refine wpAnyH_take (i := 0) (oi := o0) rfl hs f0 r0 (fun _ _ _ h => h) hy0 hH ?_
  refine wpAnyH_take (i := 1) (oi := o1) rfl hs f1 r1 (fun _ _ _ h => h) hy1 hH ?_
  refine wpAnyH_take (i := 2) (oi := o2) rfl hs f2 r2 (fun _ _ _ h => h) hy2 hH ?_
  refine wpAnyH_take (i := 3) (oi := o3) rfl hs f3 r3 (fun _ _ _ h => h) hy3 hH ?_
  refine wpAnyH_take (i := 4) (oi := o4) rfl hs f4 r4 (fun _ _ _ h => h) hy4 hH ?_
  refine wpAnyH_take (i := 5) (oi := o5) rfl hs f5 r5 (fun _ _ _ h => h) hy5 hH ?_
  refine wpAnyH_take (i := 7) (oi := o7) rfl hs f7 r7 (fun _ _ _ h => h) hy7 hH ?_
  refine wpAnyH_take (i := 8) (oi := o8) rfl hs f8 r8 (fun _ _ _ h => h) hy8 hH ?_
  generalize ((((((((a.put o0.dst v0).put o1.dst v1).put o2.dst v2).put o3.dst v3).put o4.dst v4).put o5.dst v5).put o7.dst v7).put o8.dst v8) = B at *
  have wa6 : ∀ y, Region.wanted o6 y = true := fun y => by unfold Region.wanted; rw [g6]
  have wa9 : ∀ y, Region.wanted o9 y = true := fun y => by unfold Region.wanted; rw [g9]
  have wa10 : ∀ y, Region.wanted o10 y = true := fun y => by unfold Region.wanted; rw [g10]
  have t6_9_10_ : ∀ (u6 u9 u10 : Value) w', I6_9_10_ u6 u9 u10 w' → wpAnyH P .any #[o0, o1, o2, o3, o4, o5, o6, o7, o8, o9, o10, o11, o12, o13, o14, o15, o16, o17] (NoPanic Q) S 0 #[true, true, true, true, true, true, true, true, true, true, true, true, true, true, true, true, true, true] ((((((((((B.put o6.dst u6).put o9.dst u9).put o10.dst u10).put o11.dst (v11 u10)).put o12.dst (v12 u10)).put o13.dst (v13 u10)).put o14.dst (v14 u10)).put o15.dst (v15 u10)).put o16.dst (v16 u10)).put o17.dst (v17 u10)) w' := by
    intro u6 u9 u10 w0 i0
    exact ⟨q6_9_10_, NoPanic.normal (h u6 u9 u10 w0 i0)⟩
  have t6_9_ : ∀ (u6 u9 : Value) w', I6_9_ u6 u9 w' → wpAnyH P .any #[o0, o1, o2, o3, o4, o5, o6, o7, o8, o9, o10, o11, o12, o13, o14, o15, o16, o17] (NoPanic Q) S 8 #[true, true, true, true, true, true, true, true, true, true, false, false, false, false, false, false, false, false] ((B.put o6.dst u6).put o9.dst u9) w' := by
    intro u6 u9 w0 i0
    refine wpAnyH_ready (rs := [10]) q6_9_ (by simp) (AllReadyH.cons (o := o10) rfl (fun K hK => ?_) AllReadyH.nil)
    · rw [if_pos (wa10 _)]
      refine s6_9_10 u6 u9 w0 i0 K (fun u10 w1 i1 => hK.out _ _ (z6_9_10_ u6 u9 u10 w1 i1) (fun _ => ?_))
      clear hK
      refine wpAnyH_take (i := 11) (oi := o11) rfl hs f6_9_10_11 r6_9_10_11 (fun _ _ _ h => h) (y6_9_10_11 u6 u9 u10 w1 i1) (z6_9_10_ u6 u9 u10 w1 i1) ?_
      refine wpAnyH_take (i := 12) (oi := o12) rfl hs f6_9_10_12 r6_9_10_12 (fun _ _ _ h => h) (y6_9_10_12 u6 u9 u10 w1 i1) (z6_9_10_ u6 u9 u10 w1 i1) ?_
      refine wpAnyH_take (i := 13) (oi := o13) rfl hs f6_9_10_13 r6_9_10_13 (fun _ _ _ h => h) (y6_9_10_13 u6 u9 u10 w1 i1) (z6_9_10_ u6 u9 u10 w1 i1) ?_
      refine wpAnyH_take (i := 14) (oi := o14) rfl hs f6_9_10_14 r6_9_10_14 (fun _ _ _ h => h) (y6_9_10_14 u6 u9 u10 w1 i1) (z6_9_10_ u6 u9 u10 w1 i1) ?_
      refine wpAnyH_take (i := 15) (oi := o15) rfl hs f6_9_10_15 r6_9_10_15 (fun _ _ _ h => h) (y6_9_10_15 u6 u9 u10 w1 i1) (z6_9_10_ u6 u9 u10 w1 i1) ?_
      refine wpAnyH_take (i := 16) (oi := o16) rfl hs f6_9_10_16 r6_9_10_16 (fun _ _ _ h => h) (y6_9_10_16 u6 u9 u10 w1 i1) (z6_9_10_ u6 u9 u10 w1 i1) ?_
      refine wpAnyH_take (i := 17) (oi := o17) rfl hs f6_9_10_17 r6_9_10_17 (fun _ _ _ h => h) (y6_9_10_17 u6 u9 u10 w1 i1) (z6_9_10_ u6 u9 u10 w1 i1) ?_
      exact t6_9_10_ u6 u9 u10 w1 i1
  have t6_ : ∀ (u6 : Value) w', I6_ u6 w' → wpAnyH P .any #[o0, o1, o2, o3, o4, o5, o6, o7, o8, o9, o10, o11, o12, o13, o14, o15, o16, o17] (NoPanic Q) S 9 #[true, true, true, true, true, true, true, true, true, false, false, false, false, false, false, false, false, false] (B.put o6.dst u6) w' := by
    intro u6 w0 i0
    refine wpAnyH_ready (rs := [9]) q6_ (by simp) (AllReadyH.cons (o := o9) rfl (fun K hK => ?_) AllReadyH.nil)
    · rw [if_pos (wa9 _)]
      refine s6_9 u6 w0 i0 K (fun u9 w1 i1 => hK.out _ _ (z6_9_ u6 u9 w1 i1) (fun _ => ?_))
      clear hK
      exact t6_9_ u6 u9 w1 i1
  have t_ : ∀ w', I_  w' → wpAnyH P .any #[o0, o1, o2, o3, o4, o5, o6, o7, o8, o9, o10, o11, o12, o13, o14, o15, o16, o17] (NoPanic Q) S 10 #[true, true, true, true, true, true, false, true, true, false, false, false, false, false, false, false, false, false] B w' := by
    intro w0 i0
    refine wpAnyH_ready (rs := [6]) q_ (by simp) (AllReadyH.cons (o := o6) rfl (fun K hK => ?_) AllReadyH.nil)
    · rw [if_pos (wa6 _)]
      refine s_6  w0 i0 K (fun u6 w1 i1 => hK.out _ _ (z6_ u6 w1 i1) (fun _ => ?_))
      clear hK
      exact t6_ u6 w1 i1
  exact t_ w.drew i0

end
end Go.Proofs.YtjafmnemobcipaaGreatDoor
namespace Go.Proofs.YtjafmnemobcipaaGreatDoor
open Go.RowKit Go.BigFrame
set_option linter.unusedVariables false
set_option linter.unusedSimpArgs false

theorem kwt_mem {ps : List (List Nat × List Nat)} {p : List Nat × List Nat} (h : p ∈ ps) : p.1.length ≤ kwt ps := by
  induction ps with
  | nil => cases h
  | cons x r ih =>
    have ek : kwt (x :: r) = x.1.length + x.2.length + 2 + kwt r := by simp [kwt]
    rcases List.mem_cons.1 h with rfl | h
    · omega
    · have := ih h; omega
/-- What Check has answered. -/
def A3 (V : Option (List Nat)) (E : Nat) (u : Value) (w' : World) : Prop :=
  ∃ a n c, u = .tuple #[.slice a n c, .bool V.isSome, .int .i64 (E : Int)] ∧ Rd w' (.slice a n c) (V.getD [])

set_option maxRecDepth 100000 in
set_option maxHeartbeats 4000000 in
theorem hcheckChecks_walk (q : AskH) (kv sv pv : Value) (w : World) (hq : OkH w q kv sv pv) (hT : Tabs w) :
    Calls Tryz.prog 3 #[.agg (askH q kv sv pv).toArray] w fun e w' => e = .returned (.bool true) ∧ Below w.heap.size w w' := by
  have HT := hide hT
  have HQ := hide hq
  obtain ⟨ka, kn, kc, rfl, _⟩ := id hq.k
  obtain ⟨sa, sn, sc, _, rfl, _⟩ := id hq.P.s
  obtain ⟨pa, pn, pc, _, _, rfl, _⟩ := id hq.P.p
  clear hT hq
  have HG := hide (heap_alloc_new w (.cells (askH q (.slice ka kn kc) (.slice sa sn sc) (.slice pa pn pc)).toArray 30))
  have HK0 := hide ((Kept.refl [] w).alloc (.cells (askH q (.slice ka kn kc) (.slice sa sn sc) (.slice pa pn pc)).toArray 30))
  obtain ⟨W, hW⟩ : ∃ W, w.alloc (.cells (askH q (.slice ka kn kc) (.slice sa sn sc) (.slice pa pn pc)).toArray 30) = W := ⟨_, rfl⟩
  rw [hW] at HG HK0
  go_enter Tryz.func3, Tryz.ntmps3
  go_wp2_with fail
  clear hW
  refine Calls.mono (hawake_any W ((unhide HT).k (unhide HK0))) ?_
  rintro e w1 ⟨rfl, k1⟩
  have HG1 := hide (k1.heap (unhide HG) (by simp))
  have HK1 := hide ((unhide HK0).trans k1 (by simp))
  clear HG HK0 k1
  obtain ⟨c0, c1, c2, c3, r4⟩ := askH_cells (unhide HG1)
  have HR4 := hide r4
  clear r4
  have HTW := hide (fun w0 (hw0 : Kept [] w1 w0) => htwin_any (.slice sa sn sc) (.slice pa pn pc) q.ss q.ps w0 ((unhide HQ).P.s.old ((unhide HK1).trans hw0 (by simp))) ((unhide HQ).P.p.old ((unhide HK1).trans hw0 (by simp))) (unhide HQ).P.sl (unhide HQ).P.pl (unhide HQ).P.kl)
  have HRT := hide (fun w0 (hw0 : Kept [] w1 w0) kv s p (hkv : Rd w0 kv q.k) (hs : RdS w0 s q.ss) (hp : RdK w0 p q.ps) => hcheck_any q.z q.r kv q.k s p q.ss q.ps w0 (unhide HQ).z (unhide HQ).r hkv hs hp ((unhide HT).k ((unhide HK1).trans hw0 (by simp))) (unhide HQ).P.pb (unhide HQ).P.s9 (unhide HQ).P.p9 (unhide HQ).P.k9)
  have HDO := hide (fun w0 (hw0 : Kept [] w w0) => docCheck_any q.z q.r (.slice ka kn kc) q.k (.slice sa sn sc) (.slice pa pn pc) q.ss q.ps w0 (unhide HQ).z (unhide HQ).r ((unhide HQ).k.old hw0 (by simp)) ((unhide HQ).P.s.old hw0) ((unhide HQ).P.p.old hw0) (unhide HQ).P.pb (unhide HQ).P.k9 (fun p hp => by have h9 := (unhide HQ).P.pw; have h8 := kwt_mem hp; omega))
  generalize ckV q.z q.r q.k q.ss q.ps = V at *
  generalize ckE q.z q.r q.k q.ss q.ps = E at *
  have hrl := (unhide HQ).r.1
  have HKQ := hide ((unhide HQ).k.old (unhide HK1) (by simp))
  go_wp2_with fail
  refine wp_ck18 (by kernel_rfl) (by kernel_rfl) (by kernel_rfl) (by kernel_rfl) (by kernel_rfl) (by kernel_rfl) (by kernel_rfl) (by kernel_rfl) (by kernel_rfl) (by kernel_rfl) (by kernel_rfl) (by kernel_rfl) (by kernel_rfl) (by kernel_rfl) (by kernel_rfl) (by kernel_rfl) (by kernel_rfl) (by kernel_rfl) (by kernel_rfl) (by kernel_rfl) (by kernel_rfl) (by kernel_rfl) (by kernel_rfl) (by kernel_rfl) (by kernel_rfl) (by kernel_rfl) (by kernel_rfl) (by kernel_rfl) (by kernel_rfl) (by kernel_rfl) (by kernel_rfl) (by kernel_rfl) (by kernel_rfl) (by kernel_rfl) (by kernel_rfl) (by kernel_rfl) rfl rfl rfl
    (.pointer (some ⟨w.heap.size, 0, none⟩)) (.int .i64 q.z) (.pointer (some ⟨w.heap.size, 4, none⟩)) (.agg (q.r.map Go.Proofs.YtjafmnemobcipaaGreatDoor.u8).toArray) (.pointer (some ⟨w.heap.size, 1, none⟩)) (.slice ka kn kc) (.pointer (some ⟨w.heap.size, 2, none⟩)) (.agg #[.slice sa sn sc, .slice pa pn pc]) _ _ _ _ _ _ _ _
    (fun w' => Kept [] w1 w')
    (fun w' => Kept [] w1 w')
    (fun u6 w' => Rd w' u6 q.k ∧ Kept [] w1 w')
    (fun u6 u9 w' => Rd w' u6 q.k ∧ (∃ s p, u9 = .agg #[s, p] ∧ RdS w' s q.ss ∧ RdK w' p q.ps) ∧ Kept [] w1 w')
    (fun u6 u9 u10 w' => A3 V E u10 w' ∧ Kept [] w1 w')
    (fun u => u) (fun u => tupAt u 0) (fun u => tupAt u 1) (fun u => tupAt u 2) (fun u => tupAt u 0) (fun u => tupAt u 1) (fun u => tupAt u 2)
    (by simp only [Act.put, List.setIfInBounds_toArray, List.set_cons_zero, List.set_cons_succ]; rfl) (by exact Or.inl ⟨by rfl, fun W' hW' => by go_simp⟩)
    (by simp only [Act.put, List.setIfInBounds_toArray, List.set_cons_zero, List.set_cons_succ]; rfl) (by exact Or.inl ⟨by rfl, fun W' hW' => by have h9 := hW'.cell c0 (by simp); go_simp⟩)
    (by simp only [Act.put, List.setIfInBounds_toArray, List.set_cons_zero, List.set_cons_succ]; rfl) (by exact Or.inl ⟨by rfl, fun W' hW' => by go_simp⟩)
    (by simp only [Act.put, List.setIfInBounds_toArray, List.set_cons_zero, List.set_cons_succ]; rfl) (by exact yieldsIf_load_mid (by rfl) _ _ rfl w.heap.size 4 rfl (q.r.map Go.Proofs.YtjafmnemobcipaaGreatDoor.u8) _ (fun W' hW' => range_kept (unhide HR4) hW' (by simp)) Tryz.underlying28 rfl (by rw [List.length_map, hrl]; exact Tryz.size_dig))
    (by simp only [Act.put, List.setIfInBounds_toArray, List.set_cons_zero, List.set_cons_succ]; rfl) (by exact Or.inl ⟨by rfl, fun W' hW' => by go_simp⟩)
    (by simp only [Act.put, List.setIfInBounds_toArray, List.set_cons_zero, List.set_cons_succ]; rfl) (by exact Or.inl ⟨by rfl, fun W' hW' => by have h9 := hW'.cell c1 (by simp); go_simp⟩)
    (by simp only [Act.put, List.setIfInBounds_toArray, List.set_cons_zero, List.set_cons_succ]; rfl) (by exact Or.inl ⟨by rfl, fun W' hW' => by go_simp⟩)
    (by simp only [Act.put, List.setIfInBounds_toArray, List.set_cons_zero, List.set_cons_succ]; rfl) (by exact Or.inl ⟨by rfl, fun W' hW' => by have h9 := hW'.cell c2 (by simp); have h8 := hW'.cell c3 (by simp); go_simp⟩)
    (Kept.refl [] w1).drew
    ⟨fun w' h => h, fun u6 w' h => h.2, fun u6 u9 w' h => h.2.2, fun u6 u9 u10 w' h => h.2⟩
    (by
      intro w' i K hK
      refine wp_callN rfl Tryz.call6 [.slice ka kn kc] rfl (twin_any _ q.k w' ((unhide HKQ).old i (by simp))) ?_
      rintro e w2 ⟨rfl, kv, hrow⟩
      have hR := rd_fresh hrow (unhide HKQ).byte (by have := (unhide HQ).kl; omega)
      exact ⟨_, rfl, hK _ _ ⟨hR, i.trans kv (by simp)⟩⟩)
    (by
      rintro u4 w' ⟨h4, i⟩ K hK
      refine wp_callN rfl Tryz.call7 [.agg #[.slice sa sn sc, .slice pa pn pc]] rfl (unhide HTW w' i) ?_
      rintro e w2 ⟨⟨s, p, rfl, hs, hp⟩, kv⟩
      exact ⟨_, rfl, hK _ _ ⟨h4.old kv (by simp), ⟨_, _, rfl, hs, hp⟩, i.trans kv (by simp)⟩⟩)
    (by
      rintro u4 u7 w' ⟨h4, ⟨s, p, rfl, hs, hp⟩, i⟩ K hK
      refine wp_callN rfl Tryz.call5 [.int .i64 q.z, .agg (brow q.r), u4, .agg #[s, p]] rfl (unhide HRT w' i u4 s p h4 hs hp) ?_
      rintro e w2 ⟨⟨v', rfl, hv⟩, kv⟩
      obtain ⟨a, n, c, rfl, _⟩ := id hv
      exact ⟨_, rfl, hK _ _ ⟨⟨_, _, _, rfl, hv⟩, i.trans kv (by simp)⟩⟩)
    (by rintro u6 u9 u10 w' ⟨⟨a, n, c, rfl, _⟩, _⟩; exact Or.inl ⟨by rfl, fun W' hW' => by (try simp only [tupAt]); go_simp⟩)
    (by rintro u6 u9 u10 w' ⟨⟨a, n, c, rfl, _⟩, _⟩; exact Or.inl ⟨by rfl, fun W' hW' => by (try simp only [tupAt]); go_simp⟩)
    (by rintro u6 u9 u10 w' ⟨⟨a, n, c, rfl, _⟩, _⟩; exact Or.inl ⟨by rfl, fun W' hW' => by (try simp only [tupAt]); go_simp⟩)
    (by rintro u6 u9 u10 w' ⟨⟨a, n, c, rfl, _⟩, _⟩; exact Or.inl ⟨by rfl, fun W' hW' => by (try simp only [tupAt]); go_simp⟩)
    (by rintro u6 u9 u10 w' ⟨⟨a, n, c, rfl, _⟩, _⟩; exact Or.inl ⟨by rfl, fun W' hW' => by (try simp only [tupAt]); go_simp⟩)
    (by rintro u6 u9 u10 w' ⟨⟨a, n, c, rfl, _⟩, _⟩; exact Or.inl ⟨by rfl, fun W' hW' => by (try simp only [tupAt]); go_simp⟩)
    (by rintro u6 u9 u10 w' ⟨⟨a, n, c, rfl, _⟩, _⟩; exact Or.inl ⟨by rfl, fun W' hW' => by (try simp only [tupAt]); go_simp⟩)
    ?_
  rintro u6 u9 u10 Y ⟨⟨va, vn, vc, rfl, hv⟩, kY⟩
  simp only [Act.put, List.setIfInBounds_toArray, List.set_cons_zero, List.set_cons_succ, tupAt, List.getD_cons_zero, List.getD_cons_succ]
  have HV3 := hide hv
  have HG3 := hide (kY.heap (unhide HG1) (by simp))
  have HK3 := hide ((unhide HK1).trans kY (by simp))
  clear hv kY HTW HRT HG1 HK1 HKQ c0 c1 c2 c3 HR4
  obtain ⟨c0, c1, c2, c3, r4⟩ := askH_cells (unhide HG3)
  have HR3 := hide r4
  clear r4
  go_wp2_with (refine wpList_load_mid rfl 28 _ rfl w.heap.size 4 rfl (q.r.map Go.Proofs.YtjafmnemobcipaaGreatDoor.u8) _ (unhide HR3) Tryz.underlying28 rfl (by rw [List.length_map, hrl]; exact Tryz.size_dig) ?_)
  clear c0 c1 c2 c3
  refine Calls.mono (unhide HDO Y (unhide HK3)) ?_
  rintro e w4 ⟨⟨v4, rfl, r4⟩, k4⟩
  obtain ⟨ya, yn, yc, rfl, h9⟩ := id r4
  clear h9
  have HV4 := hide ((unhide HV3).old k4 (by simp))
  have HY4 := hide r4
  have HK4 := hide ((unhide HK3).trans k4 (by simp))
  clear r4 k4 HV3 HK3 HDO
  go_wp2_with fail
  refine Calls.mono (same_any _ _ (V.getD []) (V.getD []) _ (unhide HV4) (unhide HY4)) ?_
  rintro e w5 ⟨rfl, n5, rfl⟩
  rw [decide_eq_true rfl]
  go_wp2
  go_ret
  exact ⟨by simp, ((unhide HK4).drewN n5).below (Nat.le_refl _) (by simp)⟩
end Go.Proofs.YtjafmnemobcipaaGreatDoor
