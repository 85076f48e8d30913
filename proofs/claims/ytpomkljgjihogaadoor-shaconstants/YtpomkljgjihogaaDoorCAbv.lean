import Derived.Test.YtpomkljgjihogaaDoorCTim
namespace Go.Proofs.YtpomkljgjihogaaDoor
open Go.RowKit Go.BigFrame
set_option linter.unusedVariables false
set_option linter.unusedSimpArgs false

theorem qv_one (bs : List Nat) : ∀ v ∈ bs.map qv, v.oneCell' = true := by
  intro v hv; obtain ⟨x, _, rfl⟩ := List.mem_map.1 hv; rfl
/-- Numbers in memory of their own. -/
structure OwnU (w0 w : World) (v : Value) (xs : List Nat) : Prop where
  own : w.ownsRow w0.heap.size 26 1 v xs.length (xs.map qv)
  big : ∀ x ∈ xs, x < 18446744073709551616
  kept : Kept [] w0 w
theorem OwnU.pass {w0 w w' : World} {v : Value} {xs : List Nat} (h : OwnU w0 w v xs) (k : Kept [] w w') : OwnU w0 w' v xs := ⟨k.owns h.own (by simp), h.big, h.kept.trans k (by simp)⟩
theorem OwnU.of {w0 w : World} {g n : Nat} {xs : List Nat} (h : w.heap[g]? = some (.cells (qrow xs) 26 (0, 0))) (hn : xs.length = n) (hg : w0.heap.size ≤ g) (hl : n ≤ 1000000) (hx : ∀ x ∈ xs, x < 18446744073709551616) (k : Kept [] w0 w) : OwnU w0 w (.slice (some ⟨g, 0, none⟩) n n) xs := by
  subst hn
  refine ⟨⟨by simp, Or.inr ⟨g, xs.length, qrow xs, rfl, hg, h, Nat.le_refl _, by unfold maxLen; omega, by simp [qrow], ?_⟩⟩, hx, k⟩
  rw [Nat.mul_one]
  show (xs.map qv).take xs.length = xs.map qv
  exact List.take_of_length_le (by simp)
theorem OwnU.rd {w0 w : World} {v : Value} {xs : List Nat} (h : OwnU w0 w v xs) : RdU w v xs := by
  rcases h.own.2 with ⟨rfl, h0⟩ | ⟨g, cap, cur, rfl, _, hg, hc, hm', hs, ht⟩
  · have : xs = [] := List.eq_nil_of_length_eq_zero h0
    subst this
    exact ⟨none, 0, rfl, Nat.le_refl _, by omega, by simp, fun h => by simp at h⟩
  · refine ⟨some ⟨g, 0, none⟩, cap, rfl, hc, by unfold maxLen at hm'; omega, h.big, fun _ => ⟨g, 0, rfl, fun i hi => ?_⟩⟩
    have c1 := h.own.cells (g := g) rfl i (qv (xs.getD i 0)) (by rw [List.getElem?_map, List.getD_eq_getElem?_getD, List.getElem?_eq_getElem hi]; rfl)
    rw [Addr.add_mid] at c1
    exact c1
theorem OwnU.form {w0 w : World} {v : Value} {xs : List Nat} (h : OwnU w0 w v xs) : ∃ ao cap, v = .slice ao xs.length cap := by
  obtain ⟨ao, cap, e, _⟩ := h.rd
  exact ⟨ao, cap, e⟩

theorem wpList_pushU {ops : Array Oper} {rest : List Oper} {o : Oper} {a : Act} {Q : Exit → Act → World → Prop} (hgd : o.guard = none) (s x : Operand)
    (ho : o.op = .call { callee := .builtin .append, args := #[s, x], argTypes := #[49, 49] }) (hty : o.type = 49)
    (w0 w : World) (v : Value) (xs : List Nat) (H : Nat) (h : OwnU w0 w v xs) (hnew : w.heap[H]? = some (.cells #[.int .u64 0] 26 (0, 0))) (hl : xs.length + 1 ≤ 1000000000000)
    (hs : a.eval s = v) (hx : a.eval x = .slice (some ⟨H, 0, none⟩) 1 1)
    (hK : ∀ g cap w1, Hid (OwnU w0 w1 (.slice (some ⟨g, 0, none⟩) (xs.length + 1) cap) (xs ++ [0])) → Hid (w.grownBy w1 v.ownBlock) → Hid (v.ownBlock = some g ∨ g = w.heap.size) → wpList Tryd.prog ops Q rest (a.put o.dst (.slice (some ⟨g, 0, none⟩) (xs.length + 1) cap)) w1) :
    wpList Tryd.prog ops Q (o :: rest) a w := by
  obtain ⟨i0, hi, hz0, hz1, hz2⟩ := info_parts Tryd.infoU
  obtain ⟨g, cap, w1, hrun, h2, h3, hat, hlt⟩ := run_append_lies (P := Tryd.prog) w 49 49 w0.heap.size 26 i0 (.int .u64 0) 1 8 Tryd.underlying49 hi hz0 hz1 hz2 rfl (by decide)
    v xs.length (xs.map qv) h.own ⟨H, 0, none⟩ 1 1 ([0].map qv) rfl (World.news_of_block hnew) (qv_one [0]) (by decide) (by unfold maxLen; omega) (by omega) h.kept.size _ rfl
  refine wpList_plain hgd fun K hK' => ?_
  unfold Oper.wp execOp
  simp only [ho, hty, resolve, invoke, builtin, Sem.run_bind, Sem.run_pure, Result.andThen_ok, List.map_toArray, List.map_cons, List.map_nil, hs, hx, hrun]
  refine hK' _ _ (hK g cap w1 ⟨?_, ?_, ?_⟩ h3 hat)
  · rw [List.map_append, List.length_append]; exact h2
  · intro z hz
    rcases List.mem_append.1 hz with hz | hz
    · exact h.big z hz
    · simp at hz; omega
  · exact h.kept.grown h3 (by intro k hk; right; exact (h.own.lt k hk).1)
theorem cmpT_pad (a b : List Nat) (m : Nat) : ∀ n, cmpT (a ++ List.replicate m 0) b n = cmpT a b n
  | 0 => rfl
  | n + 1 => by
    have e : (a ++ List.replicate m 0).getD n 0 = a.getD n 0 := by
      rw [List.getD_eq_getElem?_getD, List.getD_eq_getElem?_getD]
      rcases Nat.lt_or_ge n a.length with h | h
      · rw [List.getElem?_append_left h]
      · rw [List.getElem?_append_right h, List.getElem?_eq_none (l := a) h, List.getElem?_replicate]
        split <;> rfl
    unfold cmpT
    rw [e, cmpT_pad a b m n]
theorem powL_len (q : List Nat) : ∀ n a, (powL q n a).length = a.length + n * q.length
  | 0, a => by simp [powL]
  | n + 1, a => by unfold powL; rw [powL_len q n, timesL_len, Nat.add_mul]; omega

set_option maxRecDepth 100000 in
set_option maxHeartbeats 2000000 in
theorem above_any (x k p : Nat) (w : World) (hx : x < 549755813888) (hk : k ≤ 3) (hk1 : 1 ≤ k) (hp : p < 1000) :
    Calls Tryd.prog 17 #[.int .u64 x, .int .u64 k, .int .u64 p] w fun e w' => e = .returned (.bool (aboveL x k p)) ∧ Kept [] w w' := by
  have HAb := hide (rfl : aboveL x k p = aboveL x k p)
  obtain ⟨x0, hx0⟩ : ∃ x0, x % 524288 = x0 := ⟨_, rfl⟩
  obtain ⟨x1, hx1⟩ : ∃ x1, x / 524288 = x1 := ⟨_, rfl⟩
  have e1 : (x : Int).tmod 524288 = x0 := by rw [Int.tmod_eq_emod_of_nonneg (by omega)]; omega
  have e2 : (x : Int) % 524288 = x0 := by omega
  have e3 : (x : Int).tdiv 524288 = x1 := by rw [Int.tdiv_eq_ediv_of_nonneg (by omega)]; omega
  have e4 : (x : Int) / 524288 = x1 := by omega
  have e5 : IntKind.u64.wrap (x1 : Int) = x1 := by simp [IntKind.wrap, IntKind.signed, IntKind.bits]; omega
  go_enter Tryd.func17, Tryd.ntmps17
  obtain ⟨A, hA⟩ : ∃ A, powL [x0, x1] k [1] = A := ⟨_, rfl⟩
  have HA := hide hA
  have hAl : A.length = 1 + 2 * k := by rw [← hA, powL_len]; simp; omega
  obtain ⟨p0, hp0⟩ : ∃ p0, p % 524288 = p0 := ⟨_, rfl⟩
  obtain ⟨p1, hp1⟩ : ∃ p1, p / 524288 = p1 := ⟨_, rfl⟩
  have f1 : (p : Int).tmod 524288 = p0 := by rw [Int.tmod_eq_emod_of_nonneg (by omega)]; omega
  have f2 : (p : Int) % 524288 = p0 := by omega
  have f3 : (p : Int).tdiv 524288 = p1 := by rw [Int.tdiv_eq_ediv_of_nonneg (by omega)]; omega
  have f4 : (p : Int) / 524288 = p1 := by omega
  have f5 : IntKind.u64.wrap (p1 : Int) = p1 := by simp [IntKind.wrap, IntKind.signed, IntKind.bits]; omega
  obtain ⟨B, hB⟩ : ∃ B, powL [65536, 0] (2 * k) [p0, p1] = B := ⟨_, rfl⟩
  have HB := hide hB
  have hBl : B.length = 2 + 4 * k := by rw [← hB, powL_len]; simp; omega
  have HR := hide (by unfold aboveL; simp only; rw [hx0, hx1, hp0, hp1, hA, hB, hAl, hBl, show max (1 + 2 * k) (2 + 4 * k) = 2 + 4 * k by omega] : aboveL x k p = cmpT A B (2 + 4 * k))
  have HAl := hide hAl
  have HBl := hide hBl
  clear hA hB hAl hBl
  have HO0 := hide (OwnU.of (w0 := w) (heap_alloc_new w (.cells (qrow [1]) 26)) rfl (Nat.le_refl _) (by decide) (by decide) ((Kept.refl [] w).alloc _))
  have hkw : IntKind.u64.wrap (2 * (k : Int)) = ((2 * k : Nat) : Int) := by simp [IntKind.wrap, IntKind.signed, IntKind.bits]; omega
  go_wp2_with fail
  go_loopw [7, 8] (fun t7 t8 wr => ∃ (i n : Nat) (c : List Nat), t8 = .int .u64 i ∧ i + n = k ∧ Hid (c.length = 1 + 2 * i) ∧ Hid (powL [x0, x1] n c = A) ∧ Hid (OwnU w wr t7 c)) (fun _ t _ => k - (intOf t).toNat)
  case atStart => exact ⟨0, k, [1], rfl, by omega, hide rfl, HA, HO0⟩
  case round =>
    obtain ⟨i, n, c, rfl, hin, HCL, HC, HO⟩ := hrel
    obtain ⟨ao, cap, rfl⟩ := (unhide HO).form
    cases n with
    | succ n =>
      have hlt' : (i : Int) < k := by omega
      have HC2 := hide (by have h9 := unhide HC; unfold powL at h9; exact h9 : powL [x0, x1] n (timesL c [x0, x1]) = A)
      have HL9 := hide (timesL_len c [x0, x1])
      have HB9 := hide (timesL_lt c [x0, x1])
      have hsz := (unhide HO).kept.size
      go_wp2_with fail
      refine Calls.mono (times_any _ _ c [x0, x1] _ ((unhide HO).rd.old ((Kept.refl [] wr).alloc _)) (RdU.row (heap_alloc_new wr (.cells (qrow [x0, x1]) 26)) rfl (by decide) (by intro z hz; simp at hz; omega)) (by rw [unhide HCL]; simp; omega)) ?_
      rintro e w2 ⟨g, rfl, hg, hh, k2⟩
      have hsz2 : (wr.alloc (.cells (qrow [x0, x1]) 26)).heap.size = wr.heap.size + 1 := Array.size_push _
      have HO2 := hide (OwnU.of (w0 := w) hh (unhide HL9) (Nat.le_trans ((unhide HO).kept.alloc _).size hg) (by rw [unhide HCL]; simp; omega) (unhide HB9) (((unhide HO).kept.alloc _).trans k2 (by simp)))
      clear hh k2
      go_wp2
      refine ⟨⟨i + 1, n, _, by simp, by omega, hide (by rw [unhide HL9, unhide HCL]; simp; omega), HC2, HO2⟩, ?_⟩
      simp [intOf]; omega
    | zero =>
      have hlt' : ¬ (i : Int) < k := by omega
      have HCA := hide (by have h9 := unhide HC; unfold powL at h9; exact h9 : c = A)
      rw [unhide HCA] at HO ⊢
      clear HC HCA
      have HP0 := hide (OwnU.of (w0 := wr) (heap_alloc_new wr (.cells (qrow [p0, p1]) 26)) rfl (Nat.le_refl _) (by simp) (by intro z hz; simp at hz; omega) ((Kept.refl [] wr).alloc _))
      have HAlt := hide (fun g9 hg9 => ((unhide HO).own.lt g9 hg9).2 : ∀ g9, (Value.slice ao A.length cap).ownBlock = some g9 → g9 < wr.heap.size)
      obtain ⟨n4, hn4⟩ : ∃ n4, 2 * k = n4 := ⟨_, rfl⟩
      have hkI : 2 * (k : Int) = (n4 : Int) := by omega
      rw [hn4] at HB hkw
      go_wp2_with fail
      obtain ⟨wv, hwv⟩ : ∃ wv, wv = wr := ⟨_, rfl⟩
      subst hwv
      go_loopw [9, 10] (fun t9 t10 wq => ∃ (j m : Nat) (d : List Nat), t10 = .int .u64 j ∧ j + m = n4 ∧ Hid (d.length = 2 + 2 * j) ∧ Hid (powL [65536, 0] m d = B) ∧ Hid (OwnU wv wq t9 d)) (fun _ t _ => n4 - (intOf t).toNat)
      case atStart => exact ⟨0, n4, [p0, p1], rfl, by omega, hide rfl, HB, HP0⟩
      case round =>
        obtain ⟨j, m, d, rfl, hjm, HDL, HDD, HOD⟩ := hrel
        obtain ⟨bo, capb, rfl⟩ := (unhide HOD).form
        cases m with
        | succ m =>
          have hlt2 : (j : Int) < n4 := by omega
          have HD2 := hide (by have h9 := unhide HDD; unfold powL at h9; exact h9 : powL [65536, 0] m (timesL d [65536, 0]) = B)
          have HL9 := hide (timesL_len d [65536, 0])
          have HB9 := hide (timesL_lt d [65536, 0])
          have hsz := (unhide HOD).kept.size
          go_wp2_with fail
          refine Calls.mono (times_any _ _ d [65536, 0] _ ((unhide HOD).rd.old ((Kept.refl [] wr).alloc _)) (RdU.row (heap_alloc_new wr (.cells (qrow [65536, 0]) 26)) rfl (by decide) (by decide)) (by rw [unhide HDL]; simp; omega)) ?_
          rintro e w2 ⟨g, rfl, hg, hh, k2⟩
          have hsz2 : (wr.alloc (.cells (qrow [65536, 0]) 26)).heap.size = wr.heap.size + 1 := Array.size_push _
          have HO2 := hide (OwnU.of (w0 := wv) hh (unhide HL9) (Nat.le_trans ((unhide HOD).kept.alloc _).size hg) (by rw [unhide HDL]; simp; omega) (unhide HB9) (((unhide HOD).kept.alloc _).trans k2 (by simp)))
          clear hh k2
          go_wp2
          refine ⟨⟨j + 1, m, _, by simp, by omega, hide (by rw [unhide HL9, unhide HDL]; simp; omega), HD2, HO2⟩, ?_⟩
          simp [intOf]; omega
        | zero =>
          have hlt2 : ¬ (j : Int) < n4 := by omega
          have HDB := hide (by have h9 := unhide HDD; unfold powL at h9; exact h9 : d = B)
          rw [unhide HDB] at HOD ⊢
          clear HDD HDB
          have HOA := hide ((unhide HO).pass (unhide HOD).kept)
          have hszB := (unhide HOD).kept.size
          have HRB := hide (unhide HOD).rd
          obtain ⟨gb, hbo, HBge⟩ : ∃ gb, bo = some ⟨gb, 0, none⟩ ∧ Hid (wv.heap.size ≤ gb ∧ gb < wr.heap.size) := by
            rcases (unhide HOD).own.2 with ⟨e9, h9⟩ | ⟨gb, cp, cu, e9, h9, h8, _⟩
            · exfalso; rw [unhide HBl] at h9; omega
            · cases e9
              exact ⟨gb, rfl, hide ⟨h9, (Array.getElem?_eq_some_iff.1 h8).1⟩⟩
          subst hbo
          have HRc := hide (unhide HR)
          go_wp2_with fail
          obtain ⟨wx, hwx⟩ : ∃ wx, wx = wr := ⟨_, rfl⟩
          subst hwx
          go_loopw [7] (fun t7 wz => ∃ (m : Nat) (c' : List Nat), Hid (c' = A ++ List.replicate m 0) ∧ Hid (c'.length ≤ 2 + 4 * k) ∧ Hid (∀ g9, t7.ownBlock = some g9 → g9 ≠ gb) ∧ Hid (OwnU w wz t7 c') ∧ Hid (RdU wz (.slice (some ⟨gb, 0, none⟩) B.length capb) B) ∧ Hid (gb < wz.heap.size)) (fun t _ => 2 + 4 * k - (match t with | .slice _ n _ => n | _ => 0))
          case atStart => exact ⟨0, A, hide (by simp), hide (by rw [unhide HAl]; omega), hide (fun g9 hg9 => by have h8 := unhide HAlt g9 hg9; have h7 := (unhide HBge).1; omega), HOA, HRB, hide (unhide HBge).2⟩
          case round =>
            obtain ⟨m, c', HC', HCl, HNE, HOC, HRz, HGz⟩ := hrel
            obtain ⟨co, capc, rfl⟩ := (unhide HOC).form
            by_cases hll : c'.length < B.length
            · have hll' : (c'.length : Int) < B.length := by omega
              have HN9 := hide (heap_alloc_new wr (.cells #[.int .u64 0] 26))
              have HO9 := hide ((unhide HOC).pass ((Kept.refl [] wr).alloc (.cells #[.int .u64 0] 26)))
              have HR9 := hide ((unhide HRz).old ((Kept.refl [] wr).alloc (.cells #[.int .u64 0] 26)))
              have hszw : (wr.alloc (.cells #[.int .u64 0] 26)).heap.size = wr.heap.size + 1 := Array.size_push _
              go_wp2_with (refine wpList_pushU rfl _ _ rfl rfl w _ _ c' wr.heap.size (unhide HO9) (unhide HN9) (by have h9 := unhide HCl; omega) rfl rfl ?_; intro g1 cap1 w1 HO1 HG1 HA1)
              have HRn := hide (by
                obtain ⟨ao9, cp9, e9, h1, h2, h3, h4⟩ := unhide HR9
                cases e9
                refine ⟨_, _, rfl, h1, h2, h3, fun hp9 => ?_⟩
                obtain ⟨b9, o9, e9, hc9⟩ := h4 hp9
                cases e9
                refine ⟨_, _, rfl, fun q hq => ?_⟩
                have kk : Kept (Value.slice co c'.length capc).ownBlock.toList (wr.alloc (.cells #[.int .u64 0] 26)) w1 := (Kept.refl _ _).grown (unhide HG1) (by intro k hk; left; simp [hk])
                exact kk.cell (hc9 q hq) (by intro hm; exact unhide HNE _ (by simpa using hm) rfl) : RdU w1 (.slice (some ⟨gb, 0, none⟩) B.length capb) B)
              have HNE1 := hide (by
                intro g9 hg9
                simp only [Value.ownBlock, Option.some.injEq] at hg9
                subst hg9
                rcases unhide HA1 with h | h
                · exact unhide HNE _ h
                · have h7 := unhide HGz; rw [h, hszw]; omega : ∀ g9, (Value.slice (some ⟨g1, 0, none⟩) (c'.length + 1) cap1).ownBlock = some g9 → g9 ≠ gb)
              have HGz1 := hide (by have h7 := unhide HGz; have h8 := (unhide HG1).size; rw [hszw] at h8; omega : gb < w1.heap.size)
              refine ⟨⟨m + 1, c' ++ [0], hide (by rw [unhide HC', List.append_assoc, List.replicate_succ']), hide (by simp; have := unhide HBl; omega), HNE1, HO1, HRn, HGz1⟩, ?_⟩
              have h9 := unhide HBl
              simp only
              omega
            · have hll' : ¬ (c'.length : Int) < B.length := by omega
              have hle : c'.length = B.length := by have h9 := unhide HCl; have h8 := unhide HBl; omega
              have hge' : ¬ (B.length : Int) < c'.length := by omega
              have HRf := hide (by rw [unhide HR, unhide HC', cmpT_pad, unhide HBl] : aboveL x k p = cmpT c' B B.length)
              have HRcc := hide (unhide HOC).rd
              have HKz := hide (unhide HOC).kept
              have hB14 : B.length ≤ 14 := by have h8 := unhide HBl; omega
              go_wp2_with fail
              obtain ⟨wy, hwy⟩ : ∃ wy, wy = wr := ⟨_, rfl⟩
              subst hwy
              go_loopw [9] (fun t9 wz => t9 = .slice (some ⟨gb, 0, none⟩) B.length capb ∧ Hid (wz = wy)) (fun _ _ => 0)
              case atStart => exact ⟨rfl, hide rfl⟩
              case round =>
                obtain ⟨rfl, HWW⟩ := hrel
                rw [unhide HWW]
                clear HWW
                have hs1 : IntKind.i64.wrap ((c'.length : Int) - 1) = (c'.length : Int) - 1 := by simp [IntKind.wrap, IntKind.signed, IntKind.bits]; omega
                go_wp2_with fail
                go_loopw [11] (fun t11 wz => ∃ q : Nat, q ≤ B.length ∧ t11 = .int .i64 ((q : Int) - 1) ∧ Hid (cmpT c' B q = aboveL x k p) ∧ Hid (Kept [] wy wz)) (fun t _ => (intOf t + 1).toNat)
                case atStart => exact ⟨B.length, Nat.le_refl _, rfl, hide (unhide HRf).symm, hide (Kept.refl _ _)⟩
                case round =>
                  obtain ⟨q, hq, rfl, HQ, HKq⟩ := hrel
                  cases q with
                  | zero =>
                    have HQ2 := hide (by rw [← unhide HQ]; rfl : aboveL x k p = false)
                    have hneg : ¬ (0 : Int) ≤ ((0 : Nat) : Int) - 1 := by omega
                    go_wp2
                    go_ret
                    exact ⟨by rw [unhide HQ2]; rfl, (unhide HKz).trans (unhide HKq) (by simp)⟩
                  | succ q =>
                    have hq1 : ((q + 1 : Nat) : Int) - 1 = q := by omega
                    rw [hq1]
                    have hqB : (q : Int) < B.length := by omega
                    have hq0 : (0 : Int) ≤ q := by omega
                    obtain ⟨_, _, e8, _, _, _, h8⟩ := id (unhide HRcc)
                    cases e8
                    obtain ⟨ga, oa, rfl, hca⟩ := h8 (by omega)
                    obtain ⟨_, _, e9, _, _, _, h9⟩ := id (unhide HRz)
                    cases e9
                    obtain ⟨gb', ob, eb, hcb⟩ := h9 (by omega)
                    cases eb
                    have cA := (unhide HKq).cell (hca q (by omega)) (by simp)
                    have cB := (unhide HKq).cell (hcb q (by omega)) (by simp)
                    rw [Nat.zero_add] at cB
                    clear hca hcb h8 h9
                    have HQ3 := hide (by have h7 := unhide HQ; unfold cmpT at h7; exact h7 : (if c'.getD q 0 = B.getD q 0 then cmpT c' B q else decide (B.getD q 0 < c'.getD q 0)) = aboveL x k p)
                    generalize c'.getD q 0 = y1 at *
                    generalize B.getD q 0 = y2 at *
                    by_cases hyy : y1 = y2
                    · rw [if_pos hyy] at HQ3
                      subst hyy
                      go_wp2_with fail
                      go_region_held3 (fun w' => w'.cell? ⟨ga, oa + q, none⟩ = some (qv y1) ∧ w'.cell? ⟨gb, q, none⟩ = some (qv y1)) (go_keep) (fail)
                      go_wp2
                      refine ⟨⟨q, by omega, by simp, HQ3, hide (unhide HKq).drew⟩, ?_⟩
                      simp [intOf]
                    · rw [if_neg hyy] at HQ3
                      have hyy' : ((y1 : Int) != y2) = true := by rw [bne_iff_ne]; omega
                      go_wp2_with fail
                      go_region_held3 (fun w' => w'.cell? ⟨ga, oa + q, none⟩ = some (qv y1) ∧ w'.cell? ⟨gb, q, none⟩ = some (qv y2)) (go_keep) (fail)
                      have cA2 := (Kept.refl [] wr).drew.cell cA (by simp)
                      have cB2 := (Kept.refl [] wr).drew.cell cB (by simp)
                      go_wp2_with fail
                      go_region_held3 (fun w' => w'.cell? ⟨ga, oa + q, none⟩ = some (qv y1) ∧ w'.cell? ⟨gb, q, none⟩ = some (qv y2)) (go_keep) (fail)
                      go_wp2
                      go_ret
                      refine ⟨?_, (unhide HKz).trans ((unhide HKq).drew.drew) (by simp)⟩
                      rw [← unhide HQ3]
                      have e7 : decide ((y2 : Int) < y1) = decide (y2 < y1) := by simp
                      rw [← e7]
                      rfl
end Go.Proofs.YtpomkljgjihogaaDoor
