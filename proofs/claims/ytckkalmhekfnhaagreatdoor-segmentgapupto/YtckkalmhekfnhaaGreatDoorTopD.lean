import Derived.Test.YtckkalmhekfnhaaGreatDoorTopC
import Derived.Test.YtckkalmhekfnhaaGreatDoorTopB
import Derived.Deep.RegionHeld3
namespace Go.Proofs.YtckkalmhekfnhaaGreatDoor
open Go.RowKit Go.BigFrame
set_option linter.unusedVariables false
set_option linter.unusedSimpArgs false

/-- Batches with the numbers that go on from i. -/
def numS : Nat → List (List En) → List (Nat × List En)
  | _, [] => []
  | i, es :: r => (i, es) :: numS ((i + es.length) % 18446744073709551616) r
def okS : Nat → List (List En) → Bool
  | _, [] => true
  | i, es :: r => decide (chkB i es = 0) && okS ((i + es.length) % 18446744073709551616) r
def runS (ts : List (Nat × List En)) : List Nat := ts.flatMap fun t => sbB t.1 t.2
/-- The places behind them. -/
def atS : Nat → List (Nat × List En) → List Nat
  | n, [] => []
  | n, t :: r => (n + (sbB t.1 t.2).length) :: atS (n + (sbB t.1 t.2).length) r
theorem runS_app (a b : List (Nat × List En)) : runS (a ++ b) = runS a ++ runS b := by simp [runS]
theorem runS_one (t : Nat × List En) : runS [t] = sbB t.1 t.2 := by simp [runS]
theorem runS_cons (t : Nat × List En) (r : List (Nat × List En)) : runS (t :: r) = sbB t.1 t.2 ++ runS r := by simp [runS]
theorem atS_snoc : ∀ (n : Nat) (D : List (Nat × List En)) (t : Nat × List En), atS n (D ++ [t]) = atS n D ++ [n + (runS (D ++ [t])).length]
  | n, [], t => by simp [atS, runS]
  | n, d :: D, t => by
    rw [List.cons_append, atS, atS_snoc _ D t, runS_cons, atS, List.length_append]
    simp; omega
theorem atS_len : ∀ (n : Nat) (D : List (Nat × List En)), (atS n D).length = D.length
  | _, [] => rfl
  | n, d :: D => by rw [atS, List.length_cons, atS_len _ D, List.length_cons]
theorem Tryz.infoI : (Tryz.prog.info? 3).map (fun i => (i.zero, i.size, i.bytes)) = some (some (.int .i64 0), 1, 8) := by kernel_rfl
def intC (xs : List Nat) : List Value := xs.map fun (x : Nat) => .int .i64 (x : Int)
theorem owns_neB {w : World} {b1 b2 : Nat} {e1 e2 : TypeId} {s1 s2 n1 n2 : Nat} {v1 v2 : Value} {x1 x2 : List Value} (h1 : w.ownsRow b1 e1 s1 v1 n1 x1) (h2 : w.ownsRow b2 e2 s2 v2 n2 x2) (he : e1 ≠ e2) : ∀ b, v1.ownBlock = some b → v2.ownBlock ≠ some b := by
  intro b hb hb2
  rcases h1.2 with ⟨rfl, _⟩ | ⟨g, cap, cur, rfl, _, hg, _⟩
  · simp [Value.ownBlock] at hb
  · rcases h2.2 with ⟨rfl, _⟩ | ⟨g', cap', cur', rfl, _, hg', _⟩
    · simp [Value.ownBlock] at hb2
    · simp only [Value.ownBlock, Option.some.injEq] at hb hb2
      subst hb
      subst hb2
      rw [hg] at hg'
      simp at hg'
      first | exact he hg'.2 | exact he hg'.2.1 | exact he hg'.1
/-- Batches and places that are owned, each batch with memory of its own. -/
structure LaA (w0 w : World) (av tv : Value) (ts : List (Nat × Value × List En)) (xs : List Nat) : Prop where
  own : w.ownsRow w0.heap.size 35 2 av ts.length (cellsB ts)
  ints : w.ownsRow w0.heap.size 3 1 tv xs.length (intC xs)
  rd : ∀ t ∈ ts, ∃ B C, C ≤ w.heap.size ∧ w0.heap.size ≤ B ∧ (∀ b, av.ownBlock = some b ∨ tv.ownBlock = some b → b < B ∨ C ≤ b) ∧ ∀ M w', Kept M w w' → (∀ x ∈ M, x < B ∨ C ≤ x) → RdN w' t.2.1 t.2.2
  sz : w0.heap.size ≤ w.heap.size
theorem LaA.pass {w0 w w' : World} {av tv : Value} {ts : List (Nat × Value × List En)} {xs : List Nat} (h : LaA w0 w av tv ts xs) (k : Kept [] w w') : LaA w0 w' av tv ts xs := by
  refine ⟨k.owns h.own (by simp), k.owns h.ints (by simp), fun t ht => ?_, Nat.le_trans h.sz k.size⟩
  obtain ⟨B, C, h1, h2, h3, h4⟩ := h.rd t ht
  exact ⟨B, C, Nat.le_trans h1 k.size, h2, h3, fun N w2 kN hN => h4 N w2 ((k.mono (M := N) (by simp)).trans kN (fun x hx => Or.inl hx)) hN⟩
theorem LaA.int {w0 w W : World} {av tv : Value} {ts : List (Nat × Value × List En)} {xs : List Nat} (h : LaA w0 w av tv ts xs) {x g n cap : Nat} (hn : n = xs.length + 1)
    (o : W.ownsRow w0.heap.size 3 1 (.slice (some ⟨g, 0, none⟩) n cap) n (intC xs ++ [.int .i64 (x : Int)])) (gr : w.grownBy W tv.ownBlock) (hg : tv.ownBlock = some g ∨ g = w.heap.size) :
    LaA w0 W av (.slice (some ⟨g, 0, none⟩) n cap) ts (xs ++ [x]) := by
  have kW : Kept tv.ownBlock.toList w W := ((Kept.refl _ w)).grown gr (by intro k hk; left; simp [hk])
  refine ⟨kW.owns h.own (fun b hb hm => owns_neB h.own h.ints (by decide) b hb (by simpa using hm)), by rw [List.length_append, List.length_singleton, ← hn]; simpa [intC] using o, fun t ht => ?_, Nat.le_trans h.sz kW.size⟩
  obtain ⟨B, C, h1, h2, h3, h4⟩ := h.rd t ht
  refine ⟨B, C, Nat.le_trans h1 kW.size, h2, fun b hb => ?_, fun N w2 kN hN => h4 (tv.ownBlock.toList ++ N) w2 ((kW.mono (M := tv.ownBlock.toList ++ N) (fun x hx => List.mem_append_left _ hx)).trans kN (fun x hx => Or.inl (by simp [hx]))) (fun x hx => ?_)⟩
  · rcases hb with hb | hb
    · exact h3 b (Or.inl hb)
    · simp only [Value.ownBlock, Option.some.injEq] at hb
      subst hb
      rcases hg with hg | hg
      · exact h3 _ (Or.inr hg)
      · omega
  · rcases List.mem_append.1 hx with hx | hx
    · exact h3 x (Or.inr (by simpa using hx))
    · exact hN x hx
theorem LaA.bat {w0 w W : World} {av tv : Value} {ts : List (Nat × Value × List En)} {xs : List Nat} (h : LaA w0 w av tv ts xs) {pl : Nat} {y : Value} {es : List En} {g n cap : Nat} (hn : n = ts.length + 1)
    (hy : ∃ B C, C ≤ w.heap.size ∧ w0.heap.size ≤ B ∧ (∀ b, av.ownBlock = some b ∨ tv.ownBlock = some b → b < B ∨ C ≤ b) ∧ ∀ M w', Kept M w w' → (∀ x ∈ M, x < B ∨ C ≤ x) → RdN w' y es)
    (o : W.ownsRow w0.heap.size 35 2 (.slice (some ⟨g, 0, none⟩) n cap) n (cellsB ts ++ [.int .u64 (pl : Int), y])) (gr : w.grownBy W av.ownBlock) (hg : av.ownBlock = some g ∨ g = w.heap.size) :
    LaA w0 W (.slice (some ⟨g, 0, none⟩) n cap) tv (ts ++ [(pl, y, es)]) xs := by
  have kW : Kept av.ownBlock.toList w W := ((Kept.refl _ w)).grown gr (by intro k hk; left; simp [hk])
  have key : ∀ t ∈ ts ++ [(pl, y, es)], ∃ B C, C ≤ w.heap.size ∧ w0.heap.size ≤ B ∧ (∀ b, av.ownBlock = some b ∨ tv.ownBlock = some b → b < B ∨ C ≤ b) ∧ ∀ M w', Kept M w w' → (∀ x ∈ M, x < B ∨ C ≤ x) → RdN w' t.2.1 t.2.2 := by
    intro t ht
    rcases List.mem_append.1 ht with ht | ht
    · exact h.rd t ht
    · rw [List.mem_singleton] at ht; subst ht; exact hy
  refine ⟨by rw [cellsB_app, List.length_append, List.length_singleton, ← hn]; exact o, kW.owns h.ints (fun b hb hm => owns_neB h.ints h.own (by decide) b hb (by simpa using hm)), fun t ht => ?_, Nat.le_trans h.sz kW.size⟩
  obtain ⟨B, C, h1, h2, h3, h4⟩ := key t ht
  refine ⟨B, C, Nat.le_trans h1 kW.size, h2, fun b hb => ?_, fun N w2 kN hN => h4 (av.ownBlock.toList ++ N) w2 ((kW.mono (M := av.ownBlock.toList ++ N) (fun x hx => List.mem_append_left _ hx)).trans kN (fun x hx => Or.inl (by simp [hx]))) (fun x hx => ?_)⟩
  · rcases hb with hb | hb
    · simp only [Value.ownBlock, Option.some.injEq] at hb
      subst hb
      rcases hg with hg | hg
      · exact h3 _ (Or.inl hg)
      · omega
    · exact h3 b (Or.inr hb)
  · rcases List.mem_append.1 hx with hx | hx
    · exact h3 x (Or.inl (by simpa using hx))
    · exact hN x hx
theorem LaA.rdB {w0 w : World} {av tv : Value} {ts : List (Nat × Value × List En)} {xs : List Nat} (h : LaA w0 w av tv ts xs) : RdB w av (ts.map fun t => (t.1, t.2.2)) :=
  OwnB.rdB (w0 := w0) ⟨h.own, fun t ht => by obtain ⟨B, C, h1, h2, h3, h4⟩ := h.rd t ht; exact ⟨B, C, h1, h2, fun b hb => h3 b (Or.inl hb), h4⟩, h.sz⟩
/-- The slice value v reads as these numbers. -/
def RdJ (w : World) (v : Value) (xs : List Nat) : Prop := ∃ (b c : Nat), v = .slice (some ⟨b, 0, none⟩) xs.length c ∧ xs.length ≤ c ∧ ∀ i (h : i < xs.length), w.cell? ⟨b, i, none⟩ = some (.int .i64 (xs[i] : Int))
theorem LaA.rdJ {w0 w : World} {av tv : Value} {ts : List (Nat × Value × List En)} {xs : List Nat} (h : LaA w0 w av tv ts xs) (hp : 0 < xs.length) : RdJ w tv xs := by
  rcases h.ints.2 with ⟨rfl, h0⟩ | ⟨g, cap, cur, rfl, _, hg, hc, hm', hs, ht⟩
  · omega
  · refine ⟨g, cap, rfl, hc, fun i hi => ?_⟩
    have c1 := h.ints.cells (g := g) rfl i (.int .i64 (xs[i] : Int)) (by simp [intC, hi])
    rw [Addr.add_mid, Nat.zero_add] at c1
    exact c1
theorem pushI (w : World) (base : Nat) (v : Value) (xs : List Nat) (x : Nat) (H : Nat) (h : w.ownsRow base 3 1 v xs.length (intC xs)) (hnew : w.heap[H]? = some (.cells #[.int .i64 (x : Int)] 3 (0, 0))) (hl : xs.length + 1 ≤ 1000000000000) (hb : base ≤ w.heap.size) :
    ∃ g cap w1, (Builtin.append_ #[61, 61] 61 #[v, .slice (some ⟨H, 0, none⟩) 1 1]).run Tryz.prog w = .ok (.slice (some ⟨g, 0, none⟩) (xs.length + 1) cap) w1 ∧
      w1.ownsRow base 3 1 (.slice (some ⟨g, 0, none⟩) (xs.length + 1) cap) (xs.length + 1) (intC xs ++ [.int .i64 (x : Int)]) ∧ w.grownBy w1 v.ownBlock ∧ (v.ownBlock = some g ∨ g = w.heap.size) := by
  obtain ⟨i0, hi, hz0, hz1, hz2⟩ := info_parts Tryz.infoI
  obtain ⟨g, cap, w1, hr, hown, hgrow, hat, hlt⟩ := run_append_lies (P := Tryz.prog) w 61 61 base 3 i0 (.int .i64 0) 1 8 Tryz.underlying61 hi hz0 hz1 hz2 rfl (by decide)
    v xs.length (intC xs) h ⟨H, 0, none⟩ 1 1 [.int .i64 (x : Int)] rfl (World.news_of_block hnew) (by intro u hu; simp at hu; subst hu; rfl) (by decide) (by unfold maxLen; omega) (by omega) hb _ rfl
  exact ⟨g, cap, w1, hr, hown, hgrow, hat⟩
theorem wpList_pushI {ops : Array Oper} {rest : List Oper} {o : Oper} {a : Act} {Q : Exit → Act → World → Prop} (hgd : o.guard = none) (s x : Operand)
    (ho : o.op = .call { callee := .builtin .append, args := #[s, x], argTypes := #[61, 61] }) (hty : o.type = 61)
    (w : World) (base : Nat) (v : Value) (xs : List Nat) (y : Nat) (H : Nat) (h : w.ownsRow base 3 1 v xs.length (intC xs)) (hnew : w.heap[H]? = some (.cells #[.int .i64 (y : Int)] 3 (0, 0))) (hl : xs.length + 1 ≤ 1000000000000) (hb : base ≤ w.heap.size)
    (hs : a.eval s = v) (hx : a.eval x = .slice (some ⟨H, 0, none⟩) 1 1)
    (hK : ∀ g cap w1, Hid (w1.ownsRow base 3 1 (.slice (some ⟨g, 0, none⟩) (xs.length + 1) cap) (xs.length + 1) (intC xs ++ [.int .i64 (y : Int)])) → Hid (w.grownBy w1 v.ownBlock) → Hid (v.ownBlock = some g ∨ g = w.heap.size) →
      wpList Tryz.prog ops Q rest (a.put o.dst (.slice (some ⟨g, 0, none⟩) (xs.length + 1) cap)) w1) :
    wpList Tryz.prog ops Q (o :: rest) a w := by
  obtain ⟨g, cap, w1, hrun, h2, h3, h4⟩ := pushI w base v xs y H h hnew hl hb
  refine wpList_plain hgd fun K hK' => ?_
  unfold Oper.wp execOp
  simp only [ho, hty, resolve, invoke, builtin, Sem.run_bind, Sem.run_pure, Result.andThen_ok, List.map_toArray, List.map_cons, List.map_nil, hs, hx, hrun]
  exact hK' _ _ (hK g cap w1 h2 h3 h4)
end Go.Proofs.YtckkalmhekfnhaaGreatDoor
namespace Go.Proofs.YtckkalmhekfnhaaGreatDoor
open Go.RowKit Go.BigFrame
set_option linter.unusedVariables false
set_option linter.unusedSimpArgs false

def ldOk (c : Nat) (z : Int) (L : List (List En)) : Bool := wideB z && okS c L
theorem runS_snoc_len {D : List (Nat × List En)} {i : Nat} {es : List En} {n : Nat} (h : (runS D).length ≤ 30018 * n) (hc : chkB i es = 0) (hi : i < 18446744073709551616) : (runS (D ++ [(i, es)])).length ≤ 30018 * (n + 1) := by
  have := batB_lenS hc hi
  rw [runS_app, List.length_append, runS_one, sbB_len hc]
  omega

set_option maxRecDepth 100000 in
set_option maxHeartbeats 4000000 in
theorem laidS_any (a b c : Nat) (z : Int) (v : Value) (bs : List (Nat × List En)) (w : World) (ha : a < 18446744073709551616) (hc : c < 18446744073709551616) (hz : -9223372036854775808 ≤ z ∧ z ≤ 9223372036854775807) (h : RdB w v bs) (hl : bs.length ≤ 1048576) (hes : ∀ t ∈ bs, t.2.length ≤ 1048576) :
    Calls Tryz.prog 25 #[.agg #[.int .u64 a, .int .u64 b, .int .u64 c, .int .i64 z], v] w fun e w' => ∃ pv av tv, e = .returned (.tuple #[pv, av, tv, .bool (ldOk c z (bs.map (·.2)))]) ∧ (ldOk c z (bs.map (·.2)) = true → Rd w' pv (ehB a b c z ++ runS (numS c (bs.map (·.2)))) ∧ RdB w' av (numS c (bs.map (·.2))) ∧ RdJ w' tv (48 :: atS 48 (numS c (bs.map (·.2))))) ∧ Kept [] w w' := by
  obtain ⟨ao, cap, S, rfl, hbs, hcap1, hcap2, hrd, hcl⟩ := h
  have hSl : bs.length = S.length := by rw [hbs]; simp
  have HRD := hide hrd
  have HCL := hide hcl
  have HBS := hide hbs
  have HES := hide hes
  rw [hSl] at hl
  clear hbs hrd hcl hSl hes
  obtain ⟨L, hL⟩ : ∃ L, bs.map (·.2) = L := ⟨_, rfl⟩
  have HLL := hide (by rw [← hL, unhide HBS]; simp : L = S.map (·.2.2))
  rw [hL]
  clear hL
  have HB0 := hide (heap_alloc_new w (.cells #[.int .u64 (a : Int), .int .u64 (b : Int), .int .u64 (c : Int), .int .i64 z] 32))
  have HK0 := hide ((Kept.refl [] w).alloc (.cells #[.int .u64 (a : Int), .int .u64 (b : Int), .int .u64 (c : Int), .int .i64 z] 32))
  obtain ⟨W1, hW1⟩ : ∃ W, w.alloc (.cells #[.int .u64 (a : Int), .int .u64 (b : Int), .int .u64 (c : Int), .int .i64 z] 32) = W := ⟨_, rfl⟩
  rw [hW1] at HB0 HK0
  have HW1 := hide hW1
  clear hW1
  obtain ⟨d0, d1, d2, d3⟩ := hcells (unhide HB0)
  rw [← unhide HW1] at d0 d1 d2 d3
  obtain ⟨OK, hOK⟩ : ∃ OK, ldOk c z L = OK := ⟨_, rfl⟩
  have HOK := hide hOK
  rw [hOK]
  clear hOK
  go_enter Tryz.func25, Tryz.ntmps25
  go_wp2_with fail
  rw [unhide HW1]
  clear d0 d1 d2 d3
  refine Calls.mono (encodeHead_any a b c z W1 ha hz) ?_
  rintro e w2 ⟨v2, rfl, n2, k2⟩
  obtain ⟨a2, m2, c2, rfl, hm2, _⟩ := id n2.1
  have HR2 := hide n2.1
  have HH2 := hide (k2.heap (unhide HB0) (by simp))
  have HK2 := hide ((unhide HK0).trans k2 (by simp))
  clear n2 k2 HB0 HK0
  by_cases hw : wideB z = true
  · rw [show ehE z = 0 by simp [ehE, hw]]
    rw [ehB_len hw] at hm2
    subst hm2
    have HO := hide (by rw [← unhide HOK]; unfold ldOk; rw [hw, Bool.true_and] : OK = okS c L)
    obtain ⟨d0, d1, d2, d3⟩ := hcells (((Kept.refl [] w2).alloc (.cells #[.int .i64 48] 3)).heap (unhide HH2) (by simp))
    go_wp2_with fail
    clear d0 d1 d2 d3
    go_loopw [8, 10, 11, 12, 32] (fun t8 t10 t11 t12 t32 wr => ∃ (k nxt : Nat) (ts : List (Nat × Value × List En)), t32 = .int .i64 (k : Int) ∧ k ≤ S.length ∧ t12 = .int .u64 (nxt : Int) ∧ Hid (nxt < 18446744073709551616 ∧ ts.length = k) ∧ Hid (numS c L = ts.map (fun t => (t.1, t.2.2)) ++ numS nxt (L.drop k)) ∧ Hid (OK = okS nxt (L.drop k)) ∧ Hid (Rd wr t8 (ehB a b c z ++ runS (ts.map fun t => (t.1, t.2.2)))) ∧ Hid (LaA w2 wr t10 t11 ts (48 :: atS 48 (ts.map fun t => (t.1, t.2.2)))) ∧ Hid (Kept [] w wr) ∧ Hid ((runS (ts.map fun t => (t.1, t.2.2))).length ≤ 30018 * k)) (fun _ _ _ _ t _ => S.length - (intOf t).toNat)
    case atStart =>
      refine ⟨0, c, [], rfl, Nat.zero_le _, rfl, hide ⟨hc, rfl⟩, hide (by simp), HO, hide ?_, hide ?_, hide ((unhide HK2).alloc _), hide (by simp [runS])⟩
      · simp only [List.map_nil, runS, List.flatMap_nil, List.append_nil]
        exact (unhide HR2).old ((Kept.refl [] w2).alloc _) (by simp)
      · exact ⟨World.ownsRow_nil _ _ _ _, ⟨rfl, .inr ⟨w2.heap.size, 1, #[.int .i64 48], rfl, Nat.le_refl _, heap_alloc_new _ _, Nat.le_refl _, by decide, rfl, rfl⟩⟩, by simp, by simp⟩
    case round =>
      obtain ⟨k, nxt, ts, rfl, hk, rfl, HN, HD, HOk, HP, HA, HK, HLn⟩ := hrel
      obtain ⟨a8, n8, c8, h8, hl8, _⟩ := id (unhide HP)
      subst h8
      by_cases hkl : k < S.length
      · obtain ⟨b0, off, rfl, hcell⟩ := unhide HCL (by omega)
        obtain ⟨c0, c1⟩ := hcell k hkl
        have HRN := hide (unhide HRD S[k] (List.getElem_mem _))
        have HEL := hide (unhide HES (S[k].1, S[k].2.2) (by rw [unhide HBS]; exact List.mem_map.2 ⟨S[k], List.getElem_mem _, rfl⟩))
        have HDR := hide (by rw [unhide HLL, List.drop_eq_getElem_cons (by simpa using hkl)]; simp : L.drop k = S[k].2.2 :: L.drop (k + 1))
        obtain ⟨f, y, es, hSk⟩ : ∃ f y es, S[k] = (f, y, es) := ⟨_, _, _, rfl⟩
        rw [hSk] at c0 c1 HRN HEL HDR
        simp only at c0 c1 HRN HEL HDR
        clear hSk hcell
        obtain ⟨ay, ny, cy, _, _, hyy, _⟩ := id (unhide HRN)
        subst hyy
        have e0 := (unhide HK).cell c0 (by simp)
        have e1 := (unhide HK).cell c1 (by simp)
        clear c0 c1
        have hlt : (k : Int) < (S.length : Int) := by omega
        have HA1 := hide ((unhide HA).pass ((Kept.refl [] wr).alloc (.cells #[.int .u64 (f : Int), .slice ay ny cy] 35)))
        have HP1 := hide ((unhide HP).old ((Kept.refl [] wr).alloc (.cells #[.int .u64 (f : Int), .slice ay ny cy] 35)) (by simp))
        have HK1 := hide ((unhide HK).alloc (.cells #[.int .u64 (f : Int), .slice ay ny cy] 35))
        have HN1 := hide ((unhide HRN).old (unhide HK1))
        obtain ⟨g0, g1⟩ := bcells (heap_alloc_new wr (.cells #[.int .u64 (f : Int), .slice ay ny cy] 35))
        go_wp2_with fail
        obtain ⟨V1, hV1⟩ : ∃ W, wr.alloc (.cells #[.int .u64 (f : Int), .slice ay ny cy] 35) = W := ⟨_, rfl⟩
        rw [hV1] at HA1 HP1 HK1 HN1 ⊢
        clear hV1 e0 e1 g0 g1
        refine Calls.mono (twinEntries_any _ es V1 (unhide HN1) (unhide HEL)) ?_
        rintro e w3 ⟨v3, rfl, n3, k3⟩
        obtain ⟨a3, n3', c3, _, _, hv3, hl3, _⟩ := id n3.rdN
        subst hv3
        have HL3 := hide hl3
        have HN3 := hide n3
        have HA3 := hide ((unhide HA1).pass k3)
        have HP3 := hide ((unhide HP1).old k3 (by simp))
        have HK3 := hide ((unhide HK1).trans k3 (by simp))
        have HLT := hide (fun b (hb : u10.ownBlock = some b ∨ u11.ownBlock = some b) => by
          rcases hb with hb | hb
          · exact ((unhide HA1).own.lt b hb).2
          · exact ((unhide HA1).ints.lt b hb).2 : ∀ b, u10.ownBlock = some b ∨ u11.ownBlock = some b → b < V1.heap.size)
        have HV13 := hide k3.size
        have HW2 := hide ((unhide HA1).sz)
        clear n3 k3 hl3
        have HC4 := hide (heap_alloc_new w3 (.cells #[.int .u64 (nxt : Int), .slice a3 n3' c3] 35))
        have KC := hide ((Kept.refl [] w3).alloc (.cells #[.int .u64 (nxt : Int), .slice a3 n3' c3] 35))
        obtain ⟨V4, hV4⟩ : ∃ W, w3.alloc (.cells #[.int .u64 (nxt : Int), .slice a3 n3' c3] 35) = W := ⟨_, rfl⟩
        rw [hV4] at HC4 KC
        have HV4 := hide hV4
        clear hV4
        obtain ⟨g0, g1⟩ := bcells (unhide HC4)
        rw [← unhide HV4] at g0 g1
        have hnx := (unhide HN).1
        go_wp2_with fail
        rw [unhide HV4]
        clear g0 g1
        refine Calls.mono (segBatch_any nxt _ es V4 hnx ((unhide HN3).rdN.old (unhide KC))) ?_
        rintro e w5 ⟨v5, rfl, n5, k5⟩
        obtain ⟨a5, n5', c5, rfl, hl5, _⟩ := id n5.1
        have HQ5 := hide n5.1
        have HK35 := hide ((unhide KC).trans k5 (by simp))
        clear n5 hl5
        have HC5 := hide (k5.heap (unhide HC4) (by simp))
        clear k5
        by_cases hck : chkB nxt es = 0
        · rw [hck]
          have HCK := hide hck
          clear hck
          have HBY := hide (by have h9 := unhide HLn; have h10 := (unhide HN).2; rw [List.length_append, ehB_len hw]; omega : (ehB a b c z ++ runS (ts.map fun t => (t.1, t.2.2))).length ≤ 48 + 30018 * S.length)
          have HSL := hide (by rw [sbB_len (unhide HCK)]; have := batB_lenS (unhide HCK) hnx; omega : (sbB nxt es).length ≤ 30018)
          go_wp2_with fail
          refine Calls.mono (join_any _ _ _ (sbB nxt es) w5 ((unhide HP3).old (unhide HK35) (by simp)) (unhide HQ5) (by have := unhide HBY; have := unhide HSL; omega)) ?_
          rintro e w6 ⟨v6, rfl, r6, k6, b6⟩
          obtain ⟨a6, n6, c6, rfl, hl6, _⟩ := id r6
          have HR6 := hide r6
          have HB6 := hide b6
          have HS56 := hide (unhide HK35).size
          have K36 := (unhide HK35).trans k6 (by simp)
          have HA6 := hide ((unhide HA3).pass K36)
          have HK6 := hide ((unhide HK3).trans K36 (by simp))
          have HC6 := hide (k6.heap (unhide HC5) (by simp))
          have HT6 := hide (And.intro K36.size (fun M w' (kk : Kept M w6 w') (hM : ∀ x ∈ M, x < V1.heap.size ∨ w3.heap.size ≤ x) => (unhide HN3).stay (M := M) ((K36.mono (M := M) (by simp)).trans kk (fun x hx => Or.inl hx)) hM) : w3.heap.size ≤ w6.heap.size ∧ ∀ M w', Kept M w6 w' → (∀ x ∈ M, x < V1.heap.size ∨ w3.heap.size ≤ x) → RdN w' (.slice a3 n3' c3) es)
          have HZ6 := hide (k6.size)
          have HL6 := hide hl6
          clear r6 k6 K36 hl6 b6 HC5 HC4 KC HV4 HK35 HP3
          have KA := hide ((Kept.refl [] w6).alloc (.cells #[.int .i64 (n6 : Int)] 3))
          have HA7 := hide ((unhide HA6).pass (unhide KA))
          have HNI := hide (heap_alloc_new w6 (.cells #[.int .i64 (n6 : Int)] 3))
          have HC7 := hide ((unhide KA).heap (unhide HC6) (by simp))
          have HK7 := hide ((unhide HK6).alloc (.cells #[.int .i64 (n6 : Int)] 3))
          have HR7 := hide ((unhide HR6).old (unhide KA) (by simp))
          obtain ⟨X, hX⟩ : ∃ X, (48 :: atS 48 (ts.map fun t => (t.1, t.2.2))) = X := ⟨_, rfl⟩
          have HXL := hide (by rw [← hX, List.length_cons, atS_len, List.length_map, (unhide HN).2] : X.length = k + 1)
          have HX := hide hX
          rw [hX] at HA7
          clear hX
          go_upto_region 16 with (at_builtin; refine wpList_pushI rfl (.tmp 51) (.tmp 54) rfl rfl _ w2.heap.size u11 X n6 w6.heap.size (unhide HA7).ints (unhide HNI) (by rw [unhide HXL]; omega) (unhide HA7).sz rfl rfl ?_; intro gi ci w8 HO8 HG8 HI8)
          have HS67 := hide (by simp : (w6.alloc (.cells #[.int .i64 (n6 : Int)] 3)).heap.size = w6.heap.size + 1)
          have K8 := (Kept.refl (u11.ownBlock.toList) _).grown (unhide HG8) (by intro k hk; left; simp [hk])
          have HA8 := hide ((unhide HA7).int (x := n6) rfl (unhide HO8) (unhide HG8) (unhide HI8))
          have HR8 := hide ((unhide HR7).kept K8 (fun x hx hm => by have h1 := unhide HB6 x hx; have h2 := unhide HLT x (Or.inr (by simpa using hm)); have h3 := unhide HV13; have h4 := unhide HS56; omega))
          have HC8 := hide (K8.heap (unhide HC7) (by intro hm; have h2 := unhide HLT _ (Or.inr (by simpa using hm)); have h3 := unhide HV13; omega))
          have HK8 := hide ((unhide HK7).grown (unhide HG8) (fun k hk => Or.inr (by have h1 := ((unhide HA7).ints.lt k hk).1; have h2 := (unhide HK2).size; omega)))
          have HT8 := hide (fun M w' (kk : Kept M w8 w') (hM : ∀ x ∈ M, x < V1.heap.size ∨ w3.heap.size ≤ x) => (unhide HT6).2 (u11.ownBlock.toList ++ M) w' ((((unhide KA).mono (M := u11.ownBlock.toList ++ M) (by simp)).trans (K8.mono (M := u11.ownBlock.toList ++ M) (fun x hx => List.mem_append_left _ hx)) (fun x hx => Or.inl hx)).trans kk (fun x hx => Or.inl (by simp [hx]))) (fun x hx => by
            rcases List.mem_append.1 hx with hx | hx
            · exact Or.inl (unhide HLT x (Or.inr (by simpa using hx)))
            · exact hM x hx) : ∀ M w', Kept M w8 w' → (∀ x ∈ M, x < V1.heap.size ∨ w3.heap.size ≤ x) → RdN w' (.slice a3 n3' c3) es)
          have HZ8 := hide (by have := K8.size; have := unhide HS67; have := (unhide HT6).1; omega : w3.heap.size ≤ w8.heap.size)
          have HGI := hide (by
            rcases unhide HI8 with h9 | h9
            · exact Or.inl (unhide HLT gi (Or.inr h9))
            · right; have := unhide HS67; have := (unhide HT6).1; omega : gi < V1.heap.size ∨ w3.heap.size ≤ gi)
          clear K8 HO8 HG8 HI8
          have KB := hide ((Kept.refl [] w8).alloc (.cells #[.int .u64 (nxt : Int), .slice a3 n3' c3] 35))
          have HNB := hide (heap_alloc_new w8 (.cells #[.int .u64 (nxt : Int), .slice a3 n3' c3] 35))
          have HA9 := hide ((unhide HA8).pass (unhide KB))
          have HC9 := hide ((unhide KB).heap (unhide HC8) (by simp))
          have HR9 := hide ((unhide HR8).old (unhide KB) (by simp))
          have HK9 := hide ((unhide HK8).alloc (.cells #[.int .u64 (nxt : Int), .slice a3 n3' c3] 35))
          obtain ⟨g0, g1⟩ := bcells (unhide HC8)
          go_upto_region 17 with (at_builtin; refine wpList_pushB rfl (.tmp 56) (.tmp 58) rfl rfl _ w2.heap.size u10 ts nxt (.slice a3 n3' c3) w8.heap.size (unhide HA9).own (unhide HNB) rfl (by rw [(unhide HN).2]; omega) (unhide HA9).sz rfl rfl ?_; intro gb cb w10 HO10 HG10 HI10)
          clear g0 g1
          have K10 := (Kept.refl (u10.ownBlock.toList) _).grown (unhide HG10) (by intro k hk; left; simp [hk])
          have HA10 := hide ((unhide HA9).bat rfl ⟨V1.heap.size, w3.heap.size, Nat.le_trans (unhide HZ8) (unhide KB).size, unhide HW2, (fun b hb => by
            rcases hb with hb | hb
            · exact Or.inl (unhide HLT b (Or.inl hb))
            · simp only [Value.ownBlock, Option.some.injEq] at hb
              subst hb
              exact unhide HGI), fun M w' kk hM => unhide HT8 M w' (((unhide KB).mono (M := M) (by simp)).trans kk (fun x hx => Or.inl hx)) hM⟩ (unhide HO10) (unhide HG10) (unhide HI10))
          have HR10 := hide ((unhide HR9).kept K10 (fun x hx hm => by have h1 := unhide HB6 x hx; have h2 := unhide HLT x (Or.inl (by simpa using hm)); have h3 := unhide HV13; have h4 := unhide HS56; omega))
          have HC10 := hide (K10.heap (unhide HC9) (by intro hm; have h2 := unhide HLT _ (Or.inl (by simpa using hm)); have h3 := unhide HV13; omega))
          have HK10 := hide ((unhide HK9).grown (unhide HG10) (fun k hk => Or.inr (by have h1 := ((unhide HA9).own.lt k hk).1; have h2 := (unhide HK2).size; omega)))
          clear K10 HO10 HG10 HI10
          obtain ⟨g0, g1⟩ := bcells (unhide HC10)
          go_wp2_with fail
          go_roundw
          case rel =>
            refine ⟨k + 1, (nxt + es.length) % 18446744073709551616, ts ++ [(nxt, .slice a3 n3' c3, es)], by simp, by omega, ?_, hide ⟨by omega, by rw [List.length_append, (unhide HN).2]; rfl⟩, hide ?_, hide ?_, hide ?_, hide ?_, HK10, hide ?_⟩
            · have h9 := unhide HL3
              rw [h9, IntKind.wrap_u64]
              simp
            · rw [unhide HD, unhide HDR, numS]
              simp
            · rw [unhide HOk, unhide HDR, okS]
              simp [unhide HCK]
            · have h9 := unhide HR10
              rw [List.append_assoc] at h9
              rw [List.map_append, runS_app]
              simpa [runS_one] using h9
            · have hn6 : n6 = 48 + (runS ((ts.map fun t => (t.1, t.2.2)) ++ [(nxt, es)])).length := by
                rw [← unhide HL6, List.length_append, List.length_append, ehB_len hw, runS_app, List.length_append, runS_one]
                simp only
                omega
              have hxx : 48 :: atS 48 ((ts ++ [(nxt, Value.slice a3 n3' c3, es)]).map fun t => (t.1, t.2.2)) = X ++ [n6] := by
                rw [List.map_append, List.map_singleton, atS_snoc, ← unhide HX, hn6]
                rfl
              rw [hxx]
              exact unhide HA10
            · rw [List.map_append]
              exact runS_snoc_len (unhide HLn) (unhide HCK) hnx
          case measure => simp [intOf]; omega
        · have hck' : ((chkB nxt es : Int) != 0) = true := by rw [bne_iff_ne]; omega
          have HO2 := hide (by rw [unhide HOk, unhide HDR, okS]; simp [hck] : OK = false)
          go_wp2
          refine bodyPost_ret (v := .tuple #[.slice none 0 0, .slice none 0 0, .slice none 0 0, .bool false]) ?_ rfl ⟨.slice none 0 0, .slice none 0 0, .slice none 0 0, by rw [unhide HO2], (by intro h; exact absurd (h.symm.trans (unhide HO2)) (by decide)), (unhide HK3).trans (unhide HK35) (by simp)⟩
          simp [results, Tryz.func25]
      · have hlt : ¬ (k : Int) < (S.length : Int) := by omega
        have hke : k = S.length := by omega
        have HKE := hide (by rw [List.drop_eq_nil_of_le]; rw [unhide HLL, List.length_map]; omega : L.drop k = [])
        have HTT := hide (by rw [unhide HOk, unhide HKE]; rfl : OK = true)
        have HDD := hide (by rw [unhide HD, unhide HKE]; simp [numS] : numS c L = ts.map fun t => (t.1, t.2.2))
        clear hke hkl
        go_wp2
        refine bodyPost_ret (v := .tuple #[.slice a8 n8 c8, u10, u11, .bool true]) ?_ rfl ⟨.slice a8 n8 c8, u10, u11, by rw [unhide HTT], fun _ => ⟨by rw [unhide HDD]; exact unhide HP, by rw [unhide HDD]; exact (unhide HA).rdB, by rw [unhide HDD]; exact (unhide HA).rdJ (by simp)⟩, unhide HK⟩
        simp [results, Tryz.func25]
  · have hw' : wideB z = false := by simpa using hw
    rw [show ehE z = 1 by simp [ehE, hw']]
    have HO := hide (by rw [← unhide HOK]; unfold ldOk; rw [hw', Bool.false_and] : OK = false)
    go_wp2
    refine bodyPost_ret (v := .tuple #[.slice none 0 0, .slice none 0 0, .slice none 0 0, .bool false]) ?_ rfl ⟨.slice none 0 0, .slice none 0 0, .slice none 0 0, by rw [unhide HO], (by intro h; exact absurd (h.symm.trans (unhide HO)) (by decide)), unhide HK2⟩
    simp [results, Tryz.func25]
end Go.Proofs.YtckkalmhekfnhaaGreatDoor
namespace Go.Proofs.YtckkalmhekfnhaaGreatDoor
open Go.RowKit Go.BigFrame
set_option linter.unusedVariables false
set_option linter.unusedSimpArgs false

def endS : Nat → List (List En) → Nat
  | i, [] => i
  | i, es :: r => endS ((i + es.length) % 18446744073709551616) r
theorem numS_len : ∀ (i : Nat) (L : List (List En)), (numS i L).length = L.length
  | _, [] => rfl
  | i, es :: r => by rw [numS, List.length_cons, numS_len _ r, List.length_cons]
theorem runS_len_ge : ∀ (i : Nat) (L : List (List En)), okS i L = true → L.length ≤ (runS (numS i L)).length
  | _, [], _ => by simp
  | i, es :: r, h => by
    rw [okS, Bool.and_eq_true, decide_eq_true_eq] at h
    have := runS_len_ge _ r h.2
    rw [numS, runS_cons, List.length_append, sbB_len h.1, List.length_cons]
    omega
theorem runS_len_le : ∀ (i : Nat) (L : List (List En)), i < 18446744073709551616 → okS i L = true → (runS (numS i L)).length ≤ 30018 * L.length
  | _, [], _, _ => by simp [numS, runS]
  | i, es :: r, hi, h => by
    rw [okS, Bool.and_eq_true, decide_eq_true_eq] at h
    have := runS_len_le _ r (by omega) h.2
    have := batB_lenS h.1 hi
    rw [numS, runS_cons, List.length_append, sbB_len h.1, List.length_cons]
    omega
/-- What was laid is read. -/
theorem rdL_run : ∀ (L : List (List En)) (i g : Nat) (A r : List Nat), i < 18446744073709551616 → okS i L = true → (∀ es ∈ L, byN es) →
    rdL (L.length + g) (A ++ (runS (numS i L) ++ r)) A.length i = (numS i L ++ (rdL g (A ++ (runS (numS i L) ++ r)) (A.length + (runS (numS i L)).length) (endS i L)).1, (rdL g (A ++ (runS (numS i L) ++ r)) (A.length + (runS (numS i L)).length) (endS i L)).2)
  | [], i, g, A, r, _, _, _ => by simp [numS, runS, endS]
  | es :: L, i, g, A, r, hi, h, hb => by
    rw [okS, Bool.and_eq_true, decide_eq_true_eq] at h
    obtain ⟨r1, r2, r3⟩ := rb_laid A (runS (numS ((i + es.length) % 18446744073709551616) L) ++ r) h.1 hi (hb es (by simp))
    have hp : A ++ (runS (numS i (es :: L)) ++ r) = A ++ (sbB i es ++ (runS (numS ((i + es.length) % 18446744073709551616) L) ++ r)) := by rw [numS, runS_cons, List.append_assoc]
    have hp2 : A ++ (sbB i es ++ (runS (numS ((i + es.length) % 18446744073709551616) L) ++ r)) = (A ++ sbB i es) ++ (runS (numS ((i + es.length) % 18446744073709551616) L) ++ r) := by rw [List.append_assoc]
    have ih := rdL_run L ((i + es.length) % 18446744073709551616) g (A ++ sbB i es) r (by omega) h.2 (fun x hx => hb x (by simp [hx]))
    rw [← hp2, List.length_append] at ih
    rw [hp, List.length_cons, show L.length + 1 + g = (L.length + g) + 1 by omega, rdL_yes r1, r2, r3, Int.toNat_natCast, ih]
    rw [numS, runS_cons, List.length_append, endS]
    simp [Nat.add_assoc]
theorem rdL_bounds {p : List Nat} (hb : ∀ x ∈ p, x < 256) : ∀ (g n i : Nat), n ≤ p.length → n ≤ (rdL g p n i).2 ∧ (rdL g p n i).2 ≤ p.length
  | 0, n, i, h => ⟨Nat.le_refl _, h⟩
  | g + 1, n, i, h => by
    by_cases hr : rbOk p n i = true
    · obtain ⟨m, hm, h1, h2⟩ := rb_next hb hr
      have := rdL_bounds hb g m ((i + (rbE p n i).length) % 18446744073709551616) h2
      rw [rdL_yes hr, hm, Int.toNat_natCast]
      exact ⟨by simp only; omega, this.2⟩
    · rw [Bool.not_eq_true] at hr
      rw [rdL_no hr]
      exact ⟨Nat.le_refl _, h⟩
/-- A whole segment, with anything behind it. -/
theorem seg_run {a b c : Nat} {z : Int} {L : List (List En)} (r : List Nat) (ha : a < 18446744073709551616) (hb : b < 18446744073709551616) (hc : c < 18446744073709551616) (hz : wideB z = true) (hk : okS c L = true) (hy : ∀ es ∈ L, byN es) :
    hdC (ehB a b c z ++ (runS (numS c L) ++ r)) = ⟨a, b, c, z.toNat⟩ ∧ sgE (ehB a b c z ++ (runS (numS c L) ++ r)) = 0 ∧ ∃ R g, sgB (ehB a b c z ++ (runS (numS c L) ++ r)) = numS c L ++ R ∧
      (R, sgU (ehB a b c z ++ (runS (numS c L) ++ r))) = rdL g (ehB a b c z ++ (runS (numS c L) ++ r)) (48 + (runS (numS c L)).length) (endS c L) := by
  have h1 := hdF_laid ha hb hc hz (runS (numS c L) ++ r)
  have hX : hdC (ehB a b c z ++ (runS (numS c L) ++ r)) = ⟨a, b, c, z.toNat⟩ := by unfold hdC; rw [h1]; rfl
  have hl : (ehB a b c z ++ (runS (numS c L) ++ r)).length = L.length + ((ehB a b c z ++ (runS (numS c L) ++ r)).length - L.length) := by
    have := runS_len_ge c L hk
    rw [List.length_append, List.length_append]
    omega
  have hr := rdL_run L c ((ehB a b c z ++ (runS (numS c L) ++ r)).length - L.length) (ehB a b c z) r hc hk hy
  rw [← hl, ehB_len hz] at hr
  refine ⟨hX, by unfold sgE; rw [h1]; rfl, (rdL ((ehB a b c z ++ (runS (numS c L) ++ r)).length - L.length) (ehB a b c z ++ (runS (numS c L) ++ r)) (48 + (runS (numS c L)).length) (endS c L)).1, (ehB a b c z ++ (runS (numS c L) ++ r)).length - L.length, ?_, ?_⟩
  · unfold sgB; rw [h1, hX]; simp only [Option.isSome_some, if_true]; rw [hr]
  · unfold sgU; rw [h1, hX]; simp only [Option.isSome_some, if_true]; rw [hr]
theorem seg_whole {a b c : Nat} {z : Int} {L : List (List En)} (ha : a < 18446744073709551616) (hb : b < 18446744073709551616) (hc : c < 18446744073709551616) (hz : wideB z = true) (hk : okS c L = true) (hy : ∀ es ∈ L, byN es) :
    hdC (ehB a b c z ++ runS (numS c L)) = ⟨a, b, c, z.toNat⟩ ∧ sgE (ehB a b c z ++ runS (numS c L)) = 0 ∧ sgB (ehB a b c z ++ runS (numS c L)) = numS c L ∧ sgU (ehB a b c z ++ runS (numS c L)) = 48 + (runS (numS c L)).length := by
  obtain ⟨h1, h2, R, g, h3, h4⟩ := seg_run [] ha hb hc hz hk hy
  rw [List.append_nil] at h1 h2 h3 h4
  have hl : 48 + (runS (numS c L)).length = (ehB a b c z ++ runS (numS c L)).length := by rw [List.length_append, ehB_len hz]
  have h5 : rdL g (ehB a b c z ++ runS (numS c L)) (ehB a b c z ++ runS (numS c L)).length (endS c L) = ([], (ehB a b c z ++ runS (numS c L)).length) := rdL_no (rb_end _ _)
  rw [hl, h5] at h4
  obtain ⟨rfl, h6⟩ := Prod.mk.inj h4
  exact ⟨h1, h2, by rw [h3, List.append_nil], by rw [h6, hl]⟩
theorem RdB.byN {w : World} {v : Value} {bs : List (Nat × List En)} (h : RdB w v bs) : ∀ es ∈ bs.map (·.2), byN es := by
  obtain ⟨ao, cap, ts, _, h2, _, _, h5, _⟩ := h
  intro es he
  rw [h2] at he
  simp only [List.map_map, List.mem_map] at he
  obtain ⟨t, ht, rfl⟩ := he
  exact (h5 t ht).byN
theorem atS_last : ∀ (n : Nat) (D : List (Nat × List En)), (n :: atS n D)[D.length]? = some (n + (runS D).length)
  | n, [] => by simp [runS]
  | n, t :: D => by
    rw [atS, List.length_cons, List.getElem?_cons_succ, atS_last _ D, runS_cons, List.length_append]
    simp [Nat.add_assoc]
end Go.Proofs.YtckkalmhekfnhaaGreatDoor
namespace Go.Proofs.YtckkalmhekfnhaaGreatDoor
open Go.RowKit Go.BigFrame
set_option linter.unusedVariables false
set_option linter.unusedSimpArgs false

theorem numS_take : ∀ (k i : Nat) (L : List (List En)), numS i (L.take k) = (numS i L).take k
  | 0, _, _ => by simp [numS]
  | k + 1, _, [] => by simp [numS]
  | k + 1, i, es :: L => by rw [List.take_succ_cons, numS, numS_take k _ L, numS, List.take_succ_cons]
theorem okS_take : ∀ (k i : Nat) (L : List (List En)), okS i L = true → okS i (L.take k) = true
  | 0, _, _, _ => by simp [okS]
  | k + 1, _, [], _ => by simp [okS]
  | k + 1, i, es :: L, h => by
    rw [okS, Bool.and_eq_true] at h
    rw [List.take_succ_cons, okS, h.1, okS_take k _ L h.2]
    rfl
theorem endS_take : ∀ (k i : Nat) (L : List (List En)) (h : k < L.length), (numS i L)[k]? = some (endS i (L.take k), L[k])
  | 0, i, es :: L, _ => by simp [numS, endS]
  | k + 1, i, es :: L, h => by
    have h' : k < L.length := by simpa using h
    rw [numS, List.getElem?_cons_succ, endS_take k _ L h', List.take_succ_cons, endS]
    simp
theorem okS_mem : ∀ (i : Nat) (L : List (List En)), okS i L = true → ∀ t ∈ numS i L, chkB t.1 t.2 = 0
  | _, [], _, t, ht => by simp [numS] at ht
  | i, es :: L, h, t, ht => by
    rw [okS, Bool.and_eq_true, decide_eq_true_eq] at h
    rw [numS, List.mem_cons] at ht
    rcases ht with rfl | ht
    · exact h.1
    · exact okS_mem _ L h.2 t ht
theorem atS_at : ∀ (k n : Nat) (D : List (Nat × List En)), k ≤ D.length → (n :: atS n D)[k]? = some (n + (runS (D.take k)).length)
  | 0, n, D, _ => by simp [runS]
  | k + 1, n, t :: D, h => by
    have h' : k ≤ D.length := by simpa using h
    rw [atS, List.getElem?_cons_succ, atS_at k _ D h', List.take_succ_cons, runS_cons, List.length_append]
    simp [Nat.add_assoc]
theorem run_take {E : List Nat} {D : List (Nat × List En)} {k : Nat} : (E ++ runS D).take (E.length + (runS (D.take k)).length) = E ++ runS (D.take k) := by
  have e : E ++ runS D = (E ++ runS (D.take k)) ++ runS (D.drop k) := by rw [List.append_assoc, ← runS_app, List.take_append_drop]
  rw [e, ← List.length_append, List.take_left]
theorem run_lt {D : List (Nat × List En)} {k : Nat} (hk : k < D.length) (h : chkB D[k].1 D[k].2 = 0) : (runS (D.take k)).length < (runS D).length := by
  have e : runS D = runS (D.take k) ++ (sbB D[k].1 D[k].2 ++ runS (D.drop (k + 1))) := by
    rw [← runS_cons, ← List.drop_eq_getElem_cons hk, ← runS_app, List.take_append_drop]
  rw [e, List.length_append, List.length_append, sbB_len h]
  omega
/-- A batch whose number is another ends the reading. -/
theorem seg_gap {a b c k f : Nat} {z : Int} {L : List (List En)} {es : List En} (rest : List Nat) (ha : a < 18446744073709551616) (hb : b < 18446744073709551616) (hc : c < 18446744073709551616) (hz : wideB z = true) (hk : okS c L = true) (hy : ∀ es ∈ L, byN es) (hl : k < L.length)
    (hf : f < 18446744073709551616) (hck : chkB f es = 0) (hby : byN es) (hne : f ≠ endS c (L.take k)) :
    hdC (ehB a b c z ++ (runS ((numS c L).take k) ++ (sbB f es ++ rest))) = ⟨a, b, c, z.toNat⟩ ∧ sgE (ehB a b c z ++ (runS ((numS c L).take k) ++ (sbB f es ++ rest))) = 0 ∧ sgB (ehB a b c z ++ (runS ((numS c L).take k) ++ (sbB f es ++ rest))) = (numS c L).take k ∧
      sgU (ehB a b c z ++ (runS ((numS c L).take k) ++ (sbB f es ++ rest))) = 48 + (runS ((numS c L).take k)).length := by
  obtain ⟨h1, h2, R, g, h3, h4⟩ := seg_run (L := L.take k) (sbB f es ++ rest) ha hb hc hz (okS_take k c L hk) (fun x hx => hy x (List.mem_of_mem_take hx))
  rw [numS_take] at h1 h2 h3 h4
  have hlen := batB_lenS hck hf
  have hsb : sbB f es = frB f (batB f es) := by unfold sbB; rw [if_pos hck]
  have hn := nextF_at (ehB a b c z ++ runS ((numS c L).take k)) f (batB f es) rest hf (by omega) (by omega) (batB_byte hby)
  rw [← hsb, List.append_assoc, List.length_append, ehB_len hz] at hn
  have hrb : rbOk (ehB a b c z ++ (runS ((numS c L).take k) ++ (sbB f es ++ rest))) ((48 + (runS ((numS c L).take k)).length : Nat) : Int) (endS c (L.take k)) = false := by
    unfold rbOk
    rw [hn]
    simp [hne]
  rw [rdL_no hrb] at h4
  obtain ⟨rfl, h6⟩ := Prod.mk.inj h4
  exact ⟨h1, h2, by rw [h3, List.append_nil], h6⟩
end Go.Proofs.YtckkalmhekfnhaaGreatDoor
/-
  Laws for drawn regions, by genreg.py. No program.
-/
namespace Go.Proofs.YtckkalmhekfnhaaGreatDoor
open Go Go.RowKit Go.BigFrame
set_option linter.unusedVariables false
set_option linter.unusedSimpArgs false
section
variable {P : Program} {Q : Exit → Act → World → Prop}
theorem wp_gp22 {id : Nat} {o0 o1 o2 o3 o4 o5 o6 o7 o8 o9 o10 o11 o12 o13 o14 o15 o16 o17 o18 o19 o20 o21 : Oper} {a : Act} {w : World} (hm : P.follows .mixedOrders = true) (hs : Region.noSelect #[o0, o1, o2, o3, o4, o5, o6, o7, o8, o9, o10, o11, o12, o13, o14, o15, o16, o17, o18, o19, o20, o21] = true)
    (f0 : Region.free .any #[o0, o1, o2, o3, o4, o5, o6, o7, o8, o9, o10, o11, o12, o13, o14, o15, o16, o17, o18, o19, o20, o21] #[false, false, false, false, false, false, false, false, false, false, false, false, false, false, false, false, false, false, false, false, false, false] 0 = true) (r0 : (Region.ready .any #[o0, o1, o2, o3, o4, o5, o6, o7, o8, o9, o10, o11, o12, o13, o14, o15, o16, o17, o18, o19, o20, o21] #[false, false, false, false, false, false, false, false, false, false, false, false, false, false, false, false, false, false, false, false, false, false]).contains 0 = true)
    (f1 : Region.free .any #[o0, o1, o2, o3, o4, o5, o6, o7, o8, o9, o10, o11, o12, o13, o14, o15, o16, o17, o18, o19, o20, o21] #[true, false, false, false, false, false, false, false, false, false, false, false, false, false, false, false, false, false, false, false, false, false] 1 = true) (r1 : (Region.ready .any #[o0, o1, o2, o3, o4, o5, o6, o7, o8, o9, o10, o11, o12, o13, o14, o15, o16, o17, o18, o19, o20, o21] #[true, false, false, false, false, false, false, false, false, false, false, false, false, false, false, false, false, false, false, false, false, false]).contains 1 = true)
    (f2 : Region.free .any #[o0, o1, o2, o3, o4, o5, o6, o7, o8, o9, o10, o11, o12, o13, o14, o15, o16, o17, o18, o19, o20, o21] #[true, true, false, false, false, false, false, false, false, false, false, false, false, false, false, false, false, false, false, false, false, false] 2 = true) (r2 : (Region.ready .any #[o0, o1, o2, o3, o4, o5, o6, o7, o8, o9, o10, o11, o12, o13, o14, o15, o16, o17, o18, o19, o20, o21] #[true, true, false, false, false, false, false, false, false, false, false, false, false, false, false, false, false, false, false, false, false, false]).contains 2 = true)
    (f3 : Region.free .any #[o0, o1, o2, o3, o4, o5, o6, o7, o8, o9, o10, o11, o12, o13, o14, o15, o16, o17, o18, o19, o20, o21] #[true, true, true, false, false, false, false, false, false, false, false, false, false, false, false, false, false, false, false, false, false, false] 3 = true) (r3 : (Region.ready .any #[o0, o1, o2, o3, o4, o5, o6, o7, o8, o9, o10, o11, o12, o13, o14, o15, o16, o17, o18, o19, o20, o21] #[true, true, true, false, false, false, false, false, false, false, false, false, false, false, false, false, false, false, false, false, false, false]).contains 3 = true)
    (f4 : Region.free .any #[o0, o1, o2, o3, o4, o5, o6, o7, o8, o9, o10, o11, o12, o13, o14, o15, o16, o17, o18, o19, o20, o21] #[true, true, true, true, false, false, false, false, false, false, false, false, false, false, false, false, false, false, false, false, false, false] 4 = true) (r4 : (Region.ready .any #[o0, o1, o2, o3, o4, o5, o6, o7, o8, o9, o10, o11, o12, o13, o14, o15, o16, o17, o18, o19, o20, o21] #[true, true, true, true, false, false, false, false, false, false, false, false, false, false, false, false, false, false, false, false, false, false]).contains 4 = true)
    (f5 : Region.free .any #[o0, o1, o2, o3, o4, o5, o6, o7, o8, o9, o10, o11, o12, o13, o14, o15, o16, o17, o18, o19, o20, o21] #[true, true, true, true, true, false, false, false, false, false, false, false, false, false, false, false, false, false, false, false, false, false] 5 = true) (r5 : (Region.ready .any #[o0, o1, o2, o3, o4, o5, o6, o7, o8, o9, o10, o11, o12, o13, o14, o15, o16, o17, o18, o19, o20, o21] #[true, true, true, true, true, false, false, false, false, false, false, false, false, false, false, false, false, false, false, false, false, false]).contains 5 = true)
    (f6 : Region.free .any #[o0, o1, o2, o3, o4, o5, o6, o7, o8, o9, o10, o11, o12, o13, o14, o15, o16, o17, o18, o19, o20, o21] #[true, true, true, true, true, true, false, false, false, false, false, false, false, false, false, false, false, false, false, false, false, false] 6 = true) (r6 : (Region.ready .any #[o0, o1, o2, o3, o4, o5, o6, o7, o8, o9, o10, o11, o12, o13, o14, o15, o16, o17, o18, o19, o20, o21] #[true, true, true, true, true, true, false, false, false, false, false, false, false, false, false, false, false, false, false, false, false, false]).contains 6 = true)
    (f7 : Region.free .any #[o0, o1, o2, o3, o4, o5, o6, o7, o8, o9, o10, o11, o12, o13, o14, o15, o16, o17, o18, o19, o20, o21] #[true, true, true, true, true, true, true, false, false, false, false, false, false, false, false, false, false, false, false, false, false, false] 7 = true) (r7 : (Region.ready .any #[o0, o1, o2, o3, o4, o5, o6, o7, o8, o9, o10, o11, o12, o13, o14, o15, o16, o17, o18, o19, o20, o21] #[true, true, true, true, true, true, true, false, false, false, false, false, false, false, false, false, false, false, false, false, false, false]).contains 7 = true)
    (f8 : Region.free .any #[o0, o1, o2, o3, o4, o5, o6, o7, o8, o9, o10, o11, o12, o13, o14, o15, o16, o17, o18, o19, o20, o21] #[true, true, true, true, true, true, true, true, false, false, false, false, false, false, false, false, false, false, false, false, false, false] 8 = true) (r8 : (Region.ready .any #[o0, o1, o2, o3, o4, o5, o6, o7, o8, o9, o10, o11, o12, o13, o14, o15, o16, o17, o18, o19, o20, o21] #[true, true, true, true, true, true, true, true, false, false, false, false, false, false, false, false, false, false, false, false, false, false]).contains 8 = true)
    (f9 : Region.free .any #[o0, o1, o2, o3, o4, o5, o6, o7, o8, o9, o10, o11, o12, o13, o14, o15, o16, o17, o18, o19, o20, o21] #[true, true, true, true, true, true, true, true, true, false, false, false, false, false, false, false, false, false, false, false, false, false] 9 = true) (r9 : (Region.ready .any #[o0, o1, o2, o3, o4, o5, o6, o7, o8, o9, o10, o11, o12, o13, o14, o15, o16, o17, o18, o19, o20, o21] #[true, true, true, true, true, true, true, true, true, false, false, false, false, false, false, false, false, false, false, false, false, false]).contains 9 = true)
    (f10 : Region.free .any #[o0, o1, o2, o3, o4, o5, o6, o7, o8, o9, o10, o11, o12, o13, o14, o15, o16, o17, o18, o19, o20, o21] #[true, true, true, true, true, true, true, true, true, true, false, false, false, false, false, false, false, false, false, false, false, false] 10 = true) (r10 : (Region.ready .any #[o0, o1, o2, o3, o4, o5, o6, o7, o8, o9, o10, o11, o12, o13, o14, o15, o16, o17, o18, o19, o20, o21] #[true, true, true, true, true, true, true, true, true, true, false, false, false, false, false, false, false, false, false, false, false, false]).contains 10 = true)
    (f11 : Region.free .any #[o0, o1, o2, o3, o4, o5, o6, o7, o8, o9, o10, o11, o12, o13, o14, o15, o16, o17, o18, o19, o20, o21] #[true, true, true, true, true, true, true, true, true, true, true, false, false, false, false, false, false, false, false, false, false, false] 11 = true) (r11 : (Region.ready .any #[o0, o1, o2, o3, o4, o5, o6, o7, o8, o9, o10, o11, o12, o13, o14, o15, o16, o17, o18, o19, o20, o21] #[true, true, true, true, true, true, true, true, true, true, true, false, false, false, false, false, false, false, false, false, false, false]).contains 11 = true)
    (f12 : Region.free .any #[o0, o1, o2, o3, o4, o5, o6, o7, o8, o9, o10, o11, o12, o13, o14, o15, o16, o17, o18, o19, o20, o21] #[true, true, true, true, true, true, true, true, true, true, true, true, false, false, false, false, false, false, false, false, false, false] 12 = true) (r12 : (Region.ready .any #[o0, o1, o2, o3, o4, o5, o6, o7, o8, o9, o10, o11, o12, o13, o14, o15, o16, o17, o18, o19, o20, o21] #[true, true, true, true, true, true, true, true, true, true, true, true, false, false, false, false, false, false, false, false, false, false]).contains 12 = true)
    (q_ : Region.ready .any #[o0, o1, o2, o3, o4, o5, o6, o7, o8, o9, o10, o11, o12, o13, o14, o15, o16, o17, o18, o19, o20, o21] #[true, true, true, true, true, true, true, true, true, true, true, true, true, false, false, false, false, false, false, false, false, false] = [13, 19])
    (q13_ : Region.ready .any #[o0, o1, o2, o3, o4, o5, o6, o7, o8, o9, o10, o11, o12, o13, o14, o15, o16, o17, o18, o19, o20, o21] #[true, true, true, true, true, true, true, true, true, true, true, true, true, true, false, false, false, false, false, false, false, false] = [14, 19])
    (q19_ : Region.ready .any #[o0, o1, o2, o3, o4, o5, o6, o7, o8, o9, o10, o11, o12, o13, o14, o15, o16, o17, o18, o19, o20, o21] #[true, true, true, true, true, true, true, true, true, true, true, true, true, false, false, false, false, false, false, true, false, false] = [13])
    (q13_14_ : Region.ready .any #[o0, o1, o2, o3, o4, o5, o6, o7, o8, o9, o10, o11, o12, o13, o14, o15, o16, o17, o18, o19, o20, o21] #[true, true, true, true, true, true, true, true, true, true, true, true, true, true, true, false, false, false, false, false, false, false] = [15, 19])
    (f13_14_15_16 : Region.free .any #[o0, o1, o2, o3, o4, o5, o6, o7, o8, o9, o10, o11, o12, o13, o14, o15, o16, o17, o18, o19, o20, o21] #[true, true, true, true, true, true, true, true, true, true, true, true, true, true, true, true, false, false, false, false, false, false] 16 = true) (r13_14_15_16 : (Region.ready .any #[o0, o1, o2, o3, o4, o5, o6, o7, o8, o9, o10, o11, o12, o13, o14, o15, o16, o17, o18, o19, o20, o21] #[true, true, true, true, true, true, true, true, true, true, true, true, true, true, true, true, false, false, false, false, false, false]).contains 16 = true)
    (f13_14_15_17 : Region.free .any #[o0, o1, o2, o3, o4, o5, o6, o7, o8, o9, o10, o11, o12, o13, o14, o15, o16, o17, o18, o19, o20, o21] #[true, true, true, true, true, true, true, true, true, true, true, true, true, true, true, true, true, false, false, false, false, false] 17 = true) (r13_14_15_17 : (Region.ready .any #[o0, o1, o2, o3, o4, o5, o6, o7, o8, o9, o10, o11, o12, o13, o14, o15, o16, o17, o18, o19, o20, o21] #[true, true, true, true, true, true, true, true, true, true, true, true, true, true, true, true, true, false, false, false, false, false]).contains 17 = true)
    (f13_14_15_18 : Region.free .any #[o0, o1, o2, o3, o4, o5, o6, o7, o8, o9, o10, o11, o12, o13, o14, o15, o16, o17, o18, o19, o20, o21] #[true, true, true, true, true, true, true, true, true, true, true, true, true, true, true, true, true, true, false, false, false, false] 18 = true) (r13_14_15_18 : (Region.ready .any #[o0, o1, o2, o3, o4, o5, o6, o7, o8, o9, o10, o11, o12, o13, o14, o15, o16, o17, o18, o19, o20, o21] #[true, true, true, true, true, true, true, true, true, true, true, true, true, true, true, true, true, true, false, false, false, false]).contains 18 = true)
    (q13_19_ : Region.ready .any #[o0, o1, o2, o3, o4, o5, o6, o7, o8, o9, o10, o11, o12, o13, o14, o15, o16, o17, o18, o19, o20, o21] #[true, true, true, true, true, true, true, true, true, true, true, true, true, true, false, false, false, false, false, true, false, false] = [14])
    (q13_14_15_ : Region.ready .any #[o0, o1, o2, o3, o4, o5, o6, o7, o8, o9, o10, o11, o12, o13, o14, o15, o16, o17, o18, o19, o20, o21] #[true, true, true, true, true, true, true, true, true, true, true, true, true, true, true, true, true, true, true, false, false, false] = [19])
    (q13_14_19_ : Region.ready .any #[o0, o1, o2, o3, o4, o5, o6, o7, o8, o9, o10, o11, o12, o13, o14, o15, o16, o17, o18, o19, o20, o21] #[true, true, true, true, true, true, true, true, true, true, true, true, true, true, true, false, false, false, false, true, false, false] = [15])
    (f13_14_19_15_16 : Region.free .any #[o0, o1, o2, o3, o4, o5, o6, o7, o8, o9, o10, o11, o12, o13, o14, o15, o16, o17, o18, o19, o20, o21] #[true, true, true, true, true, true, true, true, true, true, true, true, true, true, true, true, false, false, false, true, false, false] 16 = true) (r13_14_19_15_16 : (Region.ready .any #[o0, o1, o2, o3, o4, o5, o6, o7, o8, o9, o10, o11, o12, o13, o14, o15, o16, o17, o18, o19, o20, o21] #[true, true, true, true, true, true, true, true, true, true, true, true, true, true, true, true, false, false, false, true, false, false]).contains 16 = true)
    (f13_14_19_15_17 : Region.free .any #[o0, o1, o2, o3, o4, o5, o6, o7, o8, o9, o10, o11, o12, o13, o14, o15, o16, o17, o18, o19, o20, o21] #[true, true, true, true, true, true, true, true, true, true, true, true, true, true, true, true, true, false, false, true, false, false] 17 = true) (r13_14_19_15_17 : (Region.ready .any #[o0, o1, o2, o3, o4, o5, o6, o7, o8, o9, o10, o11, o12, o13, o14, o15, o16, o17, o18, o19, o20, o21] #[true, true, true, true, true, true, true, true, true, true, true, true, true, true, true, true, true, false, false, true, false, false]).contains 17 = true)
    (f13_14_19_15_18 : Region.free .any #[o0, o1, o2, o3, o4, o5, o6, o7, o8, o9, o10, o11, o12, o13, o14, o15, o16, o17, o18, o19, o20, o21] #[true, true, true, true, true, true, true, true, true, true, true, true, true, true, true, true, true, true, false, true, false, false] 18 = true) (r13_14_19_15_18 : (Region.ready .any #[o0, o1, o2, o3, o4, o5, o6, o7, o8, o9, o10, o11, o12, o13, o14, o15, o16, o17, o18, o19, o20, o21] #[true, true, true, true, true, true, true, true, true, true, true, true, true, true, true, true, true, true, false, true, false, false]).contains 18 = true)
    (q13_14_15_19_ : Region.ready .any #[o0, o1, o2, o3, o4, o5, o6, o7, o8, o9, o10, o11, o12, o13, o14, o15, o16, o17, o18, o19, o20, o21] #[true, true, true, true, true, true, true, true, true, true, true, true, true, true, true, true, true, true, true, true, false, false] = [20])
    (f13_14_15_19_20_21 : Region.free .any #[o0, o1, o2, o3, o4, o5, o6, o7, o8, o9, o10, o11, o12, o13, o14, o15, o16, o17, o18, o19, o20, o21] #[true, true, true, true, true, true, true, true, true, true, true, true, true, true, true, true, true, true, true, true, true, false] 21 = true) (r13_14_15_19_20_21 : (Region.ready .any #[o0, o1, o2, o3, o4, o5, o6, o7, o8, o9, o10, o11, o12, o13, o14, o15, o16, o17, o18, o19, o20, o21] #[true, true, true, true, true, true, true, true, true, true, true, true, true, true, true, true, true, true, true, true, true, false]).contains 21 = true)
    (q13_14_15_19_20_ : Region.ready .any #[o0, o1, o2, o3, o4, o5, o6, o7, o8, o9, o10, o11, o12, o13, o14, o15, o16, o17, o18, o19, o20, o21] #[true, true, true, true, true, true, true, true, true, true, true, true, true, true, true, true, true, true, true, true, true, true] = [])
    (g13 : o13.guard = none)    (g14 : o14.guard = none)    (g15 : o15.guard = none)    (g19 : o19.guard = none)    (g20 : o20.guard = none)
    (ne19_13 : ∀ d, o19.dst = some d → o13.dst ≠ some d)
    (ne19_14 : ∀ d, o19.dst = some d → o14.dst ≠ some d)
    (ne19_15 : ∀ d, o19.dst = some d → o15.dst ≠ some d)
    (ne19_16 : ∀ d, o19.dst = some d → o16.dst ≠ some d)
    (ne19_17 : ∀ d, o19.dst = some d → o17.dst ≠ some d)
    (ne19_18 : ∀ d, o19.dst = some d → o18.dst ≠ some d)
    (v0 v1 v2 v3 v4 v5 v6 v7 v8 v9 v10 v11 v12 : Value) (A0 A1 A2 A3 A4 A5 A6 A7 A8 A9 A10 A11 A12 : Act)
    (S : World → Prop)
    (I_ : World → Prop)
    (I13_ : Value → World → Prop)
    (I19_ : Value → World → Prop)
    (I13_14_ : Value → Value → World → Prop)
    (I13_19_ : Value → Value → World → Prop)
    (I13_14_15_ : Value → Value → Value → World → Prop)
    (I13_14_19_ : Value → Value → Value → World → Prop)
    (I13_14_15_19_ : Value → Value → Value → Value → World → Prop)
    (I13_14_15_19_20_ : Value → Value → Value → Value → Value → World → Prop)
    (v16 : Value → Value → Value → Value)
    (v17 : Value → Value → Value → Value)
    (v18 : Value → Value → Value → Value)
    (v21 : Value → Value → Value → Value → Value → Value)
    (p0 : a.put o0.dst v0 = A0) (hy0 : YieldsIf P #[o0, o1, o2, o3, o4, o5, o6, o7, o8, o9, o10, o11, o12, o13, o14, o15, o16, o17, o18, o19, o20, o21] S o0 v0 a)
    (p1 : A0.put o1.dst v1 = A1) (hy1 : YieldsIf P #[o0, o1, o2, o3, o4, o5, o6, o7, o8, o9, o10, o11, o12, o13, o14, o15, o16, o17, o18, o19, o20, o21] S o1 v1 A0)
    (p2 : A1.put o2.dst v2 = A2) (hy2 : YieldsIf P #[o0, o1, o2, o3, o4, o5, o6, o7, o8, o9, o10, o11, o12, o13, o14, o15, o16, o17, o18, o19, o20, o21] S o2 v2 A1)
    (p3 : A2.put o3.dst v3 = A3) (hy3 : YieldsIf P #[o0, o1, o2, o3, o4, o5, o6, o7, o8, o9, o10, o11, o12, o13, o14, o15, o16, o17, o18, o19, o20, o21] S o3 v3 A2)
    (p4 : A3.put o4.dst v4 = A4) (hy4 : YieldsIf P #[o0, o1, o2, o3, o4, o5, o6, o7, o8, o9, o10, o11, o12, o13, o14, o15, o16, o17, o18, o19, o20, o21] S o4 v4 A3)
    (p5 : A4.put o5.dst v5 = A5) (hy5 : YieldsIf P #[o0, o1, o2, o3, o4, o5, o6, o7, o8, o9, o10, o11, o12, o13, o14, o15, o16, o17, o18, o19, o20, o21] S o5 v5 A4)
    (p6 : A5.put o6.dst v6 = A6) (hy6 : YieldsIf P #[o0, o1, o2, o3, o4, o5, o6, o7, o8, o9, o10, o11, o12, o13, o14, o15, o16, o17, o18, o19, o20, o21] S o6 v6 A5)
    (p7 : A6.put o7.dst v7 = A7) (hy7 : YieldsIf P #[o0, o1, o2, o3, o4, o5, o6, o7, o8, o9, o10, o11, o12, o13, o14, o15, o16, o17, o18, o19, o20, o21] S o7 v7 A6)
    (p8 : A7.put o8.dst v8 = A8) (hy8 : YieldsIf P #[o0, o1, o2, o3, o4, o5, o6, o7, o8, o9, o10, o11, o12, o13, o14, o15, o16, o17, o18, o19, o20, o21] S o8 v8 A7)
    (p9 : A8.put o9.dst v9 = A9) (hy9 : YieldsIf P #[o0, o1, o2, o3, o4, o5, o6, o7, o8, o9, o10, o11, o12, o13, o14, o15, o16, o17, o18, o19, o20, o21] S o9 v9 A8)
    (p10 : A9.put o10.dst v10 = A10) (hy10 : YieldsIf P #[o0, o1, o2, o3, o4, o5, o6, o7, o8, o9, o10, o11, o12, o13, o14, o15, o16, o17, o18, o19, o20, o21] S o10 v10 A9)
    (p11 : A10.put o11.dst v11 = A11) (hy11 : YieldsIf P #[o0, o1, o2, o3, o4, o5, o6, o7, o8, o9, o10, o11, o12, o13, o14, o15, o16, o17, o18, o19, o20, o21] S o11 v11 A10)
    (p12 : A11.put o12.dst v12 = A12) (hy12 : YieldsIf P #[o0, o1, o2, o3, o4, o5, o6, o7, o8, o9, o10, o11, o12, o13, o14, o15, o16, o17, o18, o19, o20, o21] S o12 v12 A11)
    (i0 : I_ w.drew)
    (hIS : (∀ w', I_  w' → S w') ∧ (∀ (u13 : Value) w', I13_ u13 w' → S w') ∧ (∀ (u19 : Value) w', I19_ u19 w' → S w') ∧ (∀ (u13 u14 : Value) w', I13_14_ u13 u14 w' → S w') ∧ (∀ (u13 u19 : Value) w', I13_19_ u13 u19 w' → S w') ∧ (∀ (u13 u14 u15 : Value) w', I13_14_15_ u13 u14 u15 w' → S w') ∧ (∀ (u13 u14 u19 : Value) w', I13_14_19_ u13 u14 u19 w' → S w') ∧ (∀ (u13 u14 u15 u19 : Value) w', I13_14_15_19_ u13 u14 u15 u19 w' → S w') ∧ (∀ (u13 u14 u15 u19 u20 : Value) w', I13_14_15_19_20_ u13 u14 u15 u19 u20 w' → S w'))
    (s_13 : ∀ w', I_  w' → ∀ K : Act → World → Prop, (∀ (u13 : Value) w2, I13_ u13 w2 → K (A12.put o13.dst u13) w2) → o13.wp P A12 w' K (NoPanic Q))
    (s_19 : ∀ w', I_  w' → ∀ K : Act → World → Prop, (∀ (u19 : Value) w2, I19_ u19 w2 → K (A12.put o19.dst u19) w2) → o19.wp P A12 w' K (NoPanic Q))
    (s13_14 : ∀ (u13 : Value) w', I13_ u13 w' → ∀ K : Act → World → Prop, (∀ (u14 : Value) w2, I13_14_ u13 u14 w2 → K ((A12.put o13.dst u13).put o14.dst u14) w2) → o14.wp P (A12.put o13.dst u13) w' K (NoPanic Q))
    (s13_19 : ∀ (u13 : Value) w', I13_ u13 w' → ∀ K : Act → World → Prop, (∀ (u19 : Value) w2, I13_19_ u13 u19 w2 → K ((A12.put o13.dst u13).put o19.dst u19) w2) → o19.wp P (A12.put o13.dst u13) w' K (NoPanic Q))
    (s19_13 : ∀ (u19 : Value) w', I19_ u19 w' → ∀ K : Act → World → Prop, (∀ (u13 : Value) w2, I13_19_ u13 u19 w2 → K ((A12.put o19.dst u19).put o13.dst u13) w2) → o13.wp P (A12.put o19.dst u19) w' K (NoPanic Q))
    (s13_14_15 : ∀ (u13 u14 : Value) w', I13_14_ u13 u14 w' → ∀ K : Act → World → Prop, (∀ (u15 : Value) w2, I13_14_15_ u13 u14 u15 w2 → K (((A12.put o13.dst u13).put o14.dst u14).put o15.dst u15) w2) → o15.wp P ((A12.put o13.dst u13).put o14.dst u14) w' K (NoPanic Q))
    (s13_14_19 : ∀ (u13 u14 : Value) w', I13_14_ u13 u14 w' → ∀ K : Act → World → Prop, (∀ (u19 : Value) w2, I13_14_19_ u13 u14 u19 w2 → K (((A12.put o13.dst u13).put o14.dst u14).put o19.dst u19) w2) → o19.wp P ((A12.put o13.dst u13).put o14.dst u14) w' K (NoPanic Q))
    (s13_19_14 : ∀ (u13 u19 : Value) w', I13_19_ u13 u19 w' → ∀ K : Act → World → Prop, (∀ (u14 : Value) w2, I13_14_19_ u13 u14 u19 w2 → K (((A12.put o13.dst u13).put o19.dst u19).put o14.dst u14) w2) → o14.wp P ((A12.put o13.dst u13).put o19.dst u19) w' K (NoPanic Q))
    (s13_14_15_19 : ∀ (u13 u14 u15 : Value) w', I13_14_15_ u13 u14 u15 w' → ∀ K : Act → World → Prop, (∀ (u19 : Value) w2, I13_14_15_19_ u13 u14 u15 u19 w2 → K (((((((A12.put o13.dst u13).put o14.dst u14).put o15.dst u15).put o16.dst (v16 u13 u14 u15)).put o17.dst (v17 u13 u14 u15)).put o18.dst (v18 u13 u14 u15)).put o19.dst u19) w2) → o19.wp P ((((((A12.put o13.dst u13).put o14.dst u14).put o15.dst u15).put o16.dst (v16 u13 u14 u15)).put o17.dst (v17 u13 u14 u15)).put o18.dst (v18 u13 u14 u15)) w' K (NoPanic Q))
    (s13_14_19_15 : ∀ (u13 u14 u19 : Value) w', I13_14_19_ u13 u14 u19 w' → ∀ K : Act → World → Prop, (∀ (u15 : Value) w2, I13_14_15_19_ u13 u14 u15 u19 w2 → K ((((A12.put o13.dst u13).put o14.dst u14).put o19.dst u19).put o15.dst u15) w2) → o15.wp P (((A12.put o13.dst u13).put o14.dst u14).put o19.dst u19) w' K (NoPanic Q))
    (s13_14_15_19_20 : ∀ (u13 u14 u15 u19 : Value) w', I13_14_15_19_ u13 u14 u15 u19 w' → ∀ K : Act → World → Prop, (∀ (u20 : Value) w2, I13_14_15_19_20_ u13 u14 u15 u19 u20 w2 → K ((((((((A12.put o13.dst u13).put o14.dst u14).put o15.dst u15).put o16.dst (v16 u13 u14 u15)).put o17.dst (v17 u13 u14 u15)).put o18.dst (v18 u13 u14 u15)).put o19.dst u19).put o20.dst u20) w2) → o20.wp P (((((((A12.put o13.dst u13).put o14.dst u14).put o15.dst u15).put o16.dst (v16 u13 u14 u15)).put o17.dst (v17 u13 u14 u15)).put o18.dst (v18 u13 u14 u15)).put o19.dst u19) w' K (NoPanic Q))
    (y13_14_15_16 : ∀ (u13 u14 u15 : Value) w', I13_14_15_ u13 u14 u15 w' → YieldsIf P #[o0, o1, o2, o3, o4, o5, o6, o7, o8, o9, o10, o11, o12, o13, o14, o15, o16, o17, o18, o19, o20, o21] S o16 (v16 u13 u14 u15) (((A12.put o13.dst u13).put o14.dst u14).put o15.dst u15))
    (y13_14_15_17 : ∀ (u13 u14 u15 : Value) w', I13_14_15_ u13 u14 u15 w' → YieldsIf P #[o0, o1, o2, o3, o4, o5, o6, o7, o8, o9, o10, o11, o12, o13, o14, o15, o16, o17, o18, o19, o20, o21] S o17 (v17 u13 u14 u15) ((((A12.put o13.dst u13).put o14.dst u14).put o15.dst u15).put o16.dst (v16 u13 u14 u15)))
    (y13_14_15_18 : ∀ (u13 u14 u15 : Value) w', I13_14_15_ u13 u14 u15 w' → YieldsIf P #[o0, o1, o2, o3, o4, o5, o6, o7, o8, o9, o10, o11, o12, o13, o14, o15, o16, o17, o18, o19, o20, o21] S o18 (v18 u13 u14 u15) (((((A12.put o13.dst u13).put o14.dst u14).put o15.dst u15).put o16.dst (v16 u13 u14 u15)).put o17.dst (v17 u13 u14 u15)))
    (y13_14_19_15_16 : ∀ (u13 u14 u15 u19 : Value) w', I13_14_15_19_ u13 u14 u15 u19 w' → YieldsIf P #[o0, o1, o2, o3, o4, o5, o6, o7, o8, o9, o10, o11, o12, o13, o14, o15, o16, o17, o18, o19, o20, o21] S o16 (v16 u13 u14 u15) ((((A12.put o13.dst u13).put o14.dst u14).put o15.dst u15).put o19.dst u19))
    (y13_14_19_15_17 : ∀ (u13 u14 u15 u19 : Value) w', I13_14_15_19_ u13 u14 u15 u19 w' → YieldsIf P #[o0, o1, o2, o3, o4, o5, o6, o7, o8, o9, o10, o11, o12, o13, o14, o15, o16, o17, o18, o19, o20, o21] S o17 (v17 u13 u14 u15) (((((A12.put o13.dst u13).put o14.dst u14).put o15.dst u15).put o16.dst (v16 u13 u14 u15)).put o19.dst u19))
    (y13_14_19_15_18 : ∀ (u13 u14 u15 u19 : Value) w', I13_14_15_19_ u13 u14 u15 u19 w' → YieldsIf P #[o0, o1, o2, o3, o4, o5, o6, o7, o8, o9, o10, o11, o12, o13, o14, o15, o16, o17, o18, o19, o20, o21] S o18 (v18 u13 u14 u15) ((((((A12.put o13.dst u13).put o14.dst u14).put o15.dst u15).put o16.dst (v16 u13 u14 u15)).put o17.dst (v17 u13 u14 u15)).put o19.dst u19))
    (y13_14_15_19_20_21 : ∀ (u13 u14 u15 u19 u20 : Value) w', I13_14_15_19_20_ u13 u14 u15 u19 u20 w' → YieldsIf P #[o0, o1, o2, o3, o4, o5, o6, o7, o8, o9, o10, o11, o12, o13, o14, o15, o16, o17, o18, o19, o20, o21] S o21 (v21 u13 u14 u15 u19 u20) ((((((((A12.put o13.dst u13).put o14.dst u14).put o15.dst u15).put o16.dst (v16 u13 u14 u15)).put o17.dst (v17 u13 u14 u15)).put o18.dst (v18 u13 u14 u15)).put o19.dst u19).put o20.dst u20))
    (h : ∀ (u13 u14 u15 u19 u20 : Value) w', I13_14_15_19_20_ u13 u14 u15 u19 u20 w' → Q .normal (((((((((A12.put o13.dst u13).put o14.dst u14).put o15.dst u15).put o16.dst (v16 u13 u14 u15)).put o17.dst (v17 u13 u14 u15)).put o18.dst (v18 u13 u14 u15)).put o19.dst u19).put o20.dst u20).put o21.dst (v21 u13 u14 u15 u19 u20)) w') :
    (Code.region id #[o0, o1, o2, o3, o4, o5, o6, o7, o8, o9, o10, o11, o12, o13, o14, o15, o16, o17, o18, o19, o20, o21] true).wp P Q a w := by
  subst p0 p1 p2 p3 p4 p5 p6 p7 p8 p9 p10 p11 p12
  obtain ⟨z_, z13_, z19_, z13_14_, z13_19_, z13_14_15_, z13_14_19_, z13_14_15_19_, z13_14_15_19_20_⟩ := hIS
  refine wp_region_noPanic ?_
  refine wp_region_held_drew (S := S) hm (z_ _ i0) (fun hH => ?_)
  show wpAnyH P .any #[o0, o1, o2, o3, o4, o5, o6, o7, o8, o9, o10, o11, o12, o13, o14, o15, o16, o17, o18, o19, o20, o21] (NoPanic Q) S 22 #[false, false, false, false, false, false, false, false, false, false, false, false, false, false, false, false, false, false, false, false, false, false] a w.drew
  refine wpAnyH_take (i := 0) (oi := o0) rfl hs f0 r0 (fun _ _ _ h => h) hy0 hH ?_
  refine wpAnyH_take (i := 1) (oi := o1) rfl hs f1 r1 (fun _ _ _ h => h) hy1 hH ?_
  refine wpAnyH_take (i := 2) (oi := o2) rfl hs f2 r2 (fun _ _ _ h => h) hy2 hH ?_
  refine wpAnyH_take (i := 3) (oi := o3) rfl hs f3 r3 (fun _ _ _ h => h) hy3 hH ?_
  refine wpAnyH_take (i := 4) (oi := o4) rfl hs f4 r4 (fun _ _ _ h => h) hy4 hH ?_
  refine wpAnyH_take (i := 5) (oi := o5) rfl hs f5 r5 (fun _ _ _ h => h) hy5 hH ?_
  refine wpAnyH_take (i := 6) (oi := o6) rfl hs f6 r6 (fun _ _ _ h => h) hy6 hH ?_
  refine wpAnyH_take (i := 7) (oi := o7) rfl hs f7 r7 (fun _ _ _ h => h) hy7 hH ?_
  refine wpAnyH_take (i := 8) (oi := o8) rfl hs f8 r8 (fun _ _ _ h => h) hy8 hH ?_
  refine wpAnyH_take (i := 9) (oi := o9) rfl hs f9 r9 (fun _ _ _ h => h) hy9 hH ?_
  refine wpAnyH_take (i := 10) (oi := o10) rfl hs f10 r10 (fun _ _ _ h => h) hy10 hH ?_
  refine wpAnyH_take (i := 11) (oi := o11) rfl hs f11 r11 (fun _ _ _ h => h) hy11 hH ?_
  refine wpAnyH_take (i := 12) (oi := o12) rfl hs f12 r12 (fun _ _ _ h => h) hy12 hH ?_
  generalize (((((((((((((a.put o0.dst v0).put o1.dst v1).put o2.dst v2).put o3.dst v3).put o4.dst v4).put o5.dst v5).put o6.dst v6).put o7.dst v7).put o8.dst v8).put o9.dst v9).put o10.dst v10).put o11.dst v11).put o12.dst v12) = B at *
  have wa13 : ∀ y, Region.wanted o13 y = true := fun y => by unfold Region.wanted; rw [g13]
  have wa14 : ∀ y, Region.wanted o14 y = true := fun y => by unfold Region.wanted; rw [g14]
  have wa15 : ∀ y, Region.wanted o15 y = true := fun y => by unfold Region.wanted; rw [g15]
  have wa19 : ∀ y, Region.wanted o19 y = true := fun y => by unfold Region.wanted; rw [g19]
  have wa20 : ∀ y, Region.wanted o20 y = true := fun y => by unfold Region.wanted; rw [g20]
  have t13_14_15_19_20_ : ∀ (u13 u14 u15 u19 u20 : Value) w', I13_14_15_19_20_ u13 u14 u15 u19 u20 w' → wpAnyH P .any #[o0, o1, o2, o3, o4, o5, o6, o7, o8, o9, o10, o11, o12, o13, o14, o15, o16, o17, o18, o19, o20, o21] (NoPanic Q) S 0 #[true, true, true, true, true, true, true, true, true, true, true, true, true, true, true, true, true, true, true, true, true, true] (((((((((B.put o13.dst u13).put o14.dst u14).put o15.dst u15).put o16.dst (v16 u13 u14 u15)).put o17.dst (v17 u13 u14 u15)).put o18.dst (v18 u13 u14 u15)).put o19.dst u19).put o20.dst u20).put o21.dst (v21 u13 u14 u15 u19 u20)) w' := by
    intro u13 u14 u15 u19 u20 w0 i0
    exact ⟨q13_14_15_19_20_, NoPanic.normal (h u13 u14 u15 u19 u20 w0 i0)⟩
  have t13_14_15_19_ : ∀ (u13 u14 u15 u19 : Value) w', I13_14_15_19_ u13 u14 u15 u19 w' → wpAnyH P .any #[o0, o1, o2, o3, o4, o5, o6, o7, o8, o9, o10, o11, o12, o13, o14, o15, o16, o17, o18, o19, o20, o21] (NoPanic Q) S 2 #[true, true, true, true, true, true, true, true, true, true, true, true, true, true, true, true, true, true, true, true, false, false] (((((((B.put o13.dst u13).put o14.dst u14).put o15.dst u15).put o16.dst (v16 u13 u14 u15)).put o17.dst (v17 u13 u14 u15)).put o18.dst (v18 u13 u14 u15)).put o19.dst u19) w' := by
    intro u13 u14 u15 u19 w0 i0
    refine wpAnyH_ready (rs := [20]) q13_14_15_19_ (by simp) (AllReadyH.cons (o := o20) rfl (fun K hK => ?_) AllReadyH.nil)
    · rw [if_pos (wa20 _)]
      refine s13_14_15_19_20 u13 u14 u15 u19 w0 i0 K (fun u20 w1 i1 => hK.out _ _ (z13_14_15_19_20_ u13 u14 u15 u19 u20 w1 i1) (fun _ => ?_))
      clear hK
      refine wpAnyH_take (i := 21) (oi := o21) rfl hs f13_14_15_19_20_21 r13_14_15_19_20_21 (fun _ _ _ h => h) (y13_14_15_19_20_21 u13 u14 u15 u19 u20 w1 i1) (z13_14_15_19_20_ u13 u14 u15 u19 u20 w1 i1) ?_
      exact t13_14_15_19_20_ u13 u14 u15 u19 u20 w1 i1
  have t13_14_19_ : ∀ (u13 u14 u19 : Value) w', I13_14_19_ u13 u14 u19 w' → wpAnyH P .any #[o0, o1, o2, o3, o4, o5, o6, o7, o8, o9, o10, o11, o12, o13, o14, o15, o16, o17, o18, o19, o20, o21] (NoPanic Q) S 6 #[true, true, true, true, true, true, true, true, true, true, true, true, true, true, true, false, false, false, false, true, false, false] (((B.put o13.dst u13).put o14.dst u14).put o19.dst u19) w' := by
    intro u13 u14 u19 w0 i0
    refine wpAnyH_ready (rs := [15]) q13_14_19_ (by simp) (AllReadyH.cons (o := o15) rfl (fun K hK => ?_) AllReadyH.nil)
    · rw [if_pos (wa15 _)]
      refine s13_14_19_15 u13 u14 u19 w0 i0 K (fun u15 w1 i1 => hK.out _ _ (z13_14_15_19_ u13 u14 u15 u19 w1 i1) (fun _ => ?_))
      clear hK
      rw [Act.put_comm _ _ _ ne19_15]
      refine wpAnyH_take (i := 16) (oi := o16) rfl hs f13_14_19_15_16 r13_14_19_15_16 (fun _ _ _ h => h) (y13_14_19_15_16 u13 u14 u15 u19 w1 i1) (z13_14_15_19_ u13 u14 u15 u19 w1 i1) ?_
      rw [Act.put_comm _ _ _ ne19_16]
      refine wpAnyH_take (i := 17) (oi := o17) rfl hs f13_14_19_15_17 r13_14_19_15_17 (fun _ _ _ h => h) (y13_14_19_15_17 u13 u14 u15 u19 w1 i1) (z13_14_15_19_ u13 u14 u15 u19 w1 i1) ?_
      rw [Act.put_comm _ _ _ ne19_17]
      refine wpAnyH_take (i := 18) (oi := o18) rfl hs f13_14_19_15_18 r13_14_19_15_18 (fun _ _ _ h => h) (y13_14_19_15_18 u13 u14 u15 u19 w1 i1) (z13_14_15_19_ u13 u14 u15 u19 w1 i1) ?_
      rw [Act.put_comm _ _ _ ne19_18]
      exact t13_14_15_19_ u13 u14 u15 u19 w1 i1
  have t13_14_15_ : ∀ (u13 u14 u15 : Value) w', I13_14_15_ u13 u14 u15 w' → wpAnyH P .any #[o0, o1, o2, o3, o4, o5, o6, o7, o8, o9, o10, o11, o12, o13, o14, o15, o16, o17, o18, o19, o20, o21] (NoPanic Q) S 3 #[true, true, true, true, true, true, true, true, true, true, true, true, true, true, true, true, true, true, true, false, false, false] ((((((B.put o13.dst u13).put o14.dst u14).put o15.dst u15).put o16.dst (v16 u13 u14 u15)).put o17.dst (v17 u13 u14 u15)).put o18.dst (v18 u13 u14 u15)) w' := by
    intro u13 u14 u15 w0 i0
    refine wpAnyH_ready (rs := [19]) q13_14_15_ (by simp) (AllReadyH.cons (o := o19) rfl (fun K hK => ?_) AllReadyH.nil)
    · rw [if_pos (wa19 _)]
      refine s13_14_15_19 u13 u14 u15 w0 i0 K (fun u19 w1 i1 => hK.out _ _ (z13_14_15_19_ u13 u14 u15 u19 w1 i1) (fun _ => ?_))
      clear hK
      exact t13_14_15_19_ u13 u14 u15 u19 w1 i1
  have t13_19_ : ∀ (u13 u19 : Value) w', I13_19_ u13 u19 w' → wpAnyH P .any #[o0, o1, o2, o3, o4, o5, o6, o7, o8, o9, o10, o11, o12, o13, o14, o15, o16, o17, o18, o19, o20, o21] (NoPanic Q) S 7 #[true, true, true, true, true, true, true, true, true, true, true, true, true, true, false, false, false, false, false, true, false, false] ((B.put o13.dst u13).put o19.dst u19) w' := by
    intro u13 u19 w0 i0
    refine wpAnyH_ready (rs := [14]) q13_19_ (by simp) (AllReadyH.cons (o := o14) rfl (fun K hK => ?_) AllReadyH.nil)
    · rw [if_pos (wa14 _)]
      refine s13_19_14 u13 u19 w0 i0 K (fun u14 w1 i1 => hK.out _ _ (z13_14_19_ u13 u14 u19 w1 i1) (fun _ => ?_))
      clear hK
      rw [Act.put_comm _ _ _ ne19_14]
      exact t13_14_19_ u13 u14 u19 w1 i1
  have t13_14_ : ∀ (u13 u14 : Value) w', I13_14_ u13 u14 w' → wpAnyH P .any #[o0, o1, o2, o3, o4, o5, o6, o7, o8, o9, o10, o11, o12, o13, o14, o15, o16, o17, o18, o19, o20, o21] (NoPanic Q) S 7 #[true, true, true, true, true, true, true, true, true, true, true, true, true, true, true, false, false, false, false, false, false, false] ((B.put o13.dst u13).put o14.dst u14) w' := by
    intro u13 u14 w0 i0
    refine wpAnyH_ready (rs := [15, 19]) q13_14_ (by simp) (AllReadyH.cons (o := o15) rfl (fun K hK => ?_) (AllReadyH.cons (o := o19) rfl (fun K hK => ?_) AllReadyH.nil))
    · rw [if_pos (wa15 _)]
      refine s13_14_15 u13 u14 w0 i0 K (fun u15 w1 i1 => hK.out _ _ (z13_14_15_ u13 u14 u15 w1 i1) (fun _ => ?_))
      clear hK
      refine wpAnyH_take (i := 16) (oi := o16) rfl hs f13_14_15_16 r13_14_15_16 (fun _ _ _ h => h) (y13_14_15_16 u13 u14 u15 w1 i1) (z13_14_15_ u13 u14 u15 w1 i1) ?_
      refine wpAnyH_take (i := 17) (oi := o17) rfl hs f13_14_15_17 r13_14_15_17 (fun _ _ _ h => h) (y13_14_15_17 u13 u14 u15 w1 i1) (z13_14_15_ u13 u14 u15 w1 i1) ?_
      refine wpAnyH_take (i := 18) (oi := o18) rfl hs f13_14_15_18 r13_14_15_18 (fun _ _ _ h => h) (y13_14_15_18 u13 u14 u15 w1 i1) (z13_14_15_ u13 u14 u15 w1 i1) ?_
      exact t13_14_15_ u13 u14 u15 w1 i1
    · rw [if_pos (wa19 _)]
      refine s13_14_19 u13 u14 w0 i0 K (fun u19 w1 i1 => hK.out _ _ (z13_14_19_ u13 u14 u19 w1 i1) (fun _ => ?_))
      clear hK
      exact t13_14_19_ u13 u14 u19 w1 i1
  have t19_ : ∀ (u19 : Value) w', I19_ u19 w' → wpAnyH P .any #[o0, o1, o2, o3, o4, o5, o6, o7, o8, o9, o10, o11, o12, o13, o14, o15, o16, o17, o18, o19, o20, o21] (NoPanic Q) S 8 #[true, true, true, true, true, true, true, true, true, true, true, true, true, false, false, false, false, false, false, true, false, false] (B.put o19.dst u19) w' := by
    intro u19 w0 i0
    refine wpAnyH_ready (rs := [13]) q19_ (by simp) (AllReadyH.cons (o := o13) rfl (fun K hK => ?_) AllReadyH.nil)
    · rw [if_pos (wa13 _)]
      refine s19_13 u19 w0 i0 K (fun u13 w1 i1 => hK.out _ _ (z13_19_ u13 u19 w1 i1) (fun _ => ?_))
      clear hK
      rw [Act.put_comm _ _ _ ne19_13]
      exact t13_19_ u13 u19 w1 i1
  have t13_ : ∀ (u13 : Value) w', I13_ u13 w' → wpAnyH P .any #[o0, o1, o2, o3, o4, o5, o6, o7, o8, o9, o10, o11, o12, o13, o14, o15, o16, o17, o18, o19, o20, o21] (NoPanic Q) S 8 #[true, true, true, true, true, true, true, true, true, true, true, true, true, true, false, false, false, false, false, false, false, false] (B.put o13.dst u13) w' := by
    intro u13 w0 i0
    refine wpAnyH_ready (rs := [14, 19]) q13_ (by simp) (AllReadyH.cons (o := o14) rfl (fun K hK => ?_) (AllReadyH.cons (o := o19) rfl (fun K hK => ?_) AllReadyH.nil))
    · rw [if_pos (wa14 _)]
      refine s13_14 u13 w0 i0 K (fun u14 w1 i1 => hK.out _ _ (z13_14_ u13 u14 w1 i1) (fun _ => ?_))
      clear hK
      exact t13_14_ u13 u14 w1 i1
    · rw [if_pos (wa19 _)]
      refine s13_19 u13 w0 i0 K (fun u19 w1 i1 => hK.out _ _ (z13_19_ u13 u19 w1 i1) (fun _ => ?_))
      clear hK
      exact t13_19_ u13 u19 w1 i1
  have t_ : ∀ w', I_  w' → wpAnyH P .any #[o0, o1, o2, o3, o4, o5, o6, o7, o8, o9, o10, o11, o12, o13, o14, o15, o16, o17, o18, o19, o20, o21] (NoPanic Q) S 9 #[true, true, true, true, true, true, true, true, true, true, true, true, true, false, false, false, false, false, false, false, false, false] B w' := by
    intro w0 i0
    refine wpAnyH_ready (rs := [13, 19]) q_ (by simp) (AllReadyH.cons (o := o13) rfl (fun K hK => ?_) (AllReadyH.cons (o := o19) rfl (fun K hK => ?_) AllReadyH.nil))
    · rw [if_pos (wa13 _)]
      refine s_13  w0 i0 K (fun u13 w1 i1 => hK.out _ _ (z13_ u13 w1 i1) (fun _ => ?_))
      clear hK
      exact t13_ u13 w1 i1
    · rw [if_pos (wa19 _)]
      refine s_19  w0 i0 K (fun u19 w1 i1 => hK.out _ _ (z19_ u19 w1 i1) (fun _ => ?_))
      clear hK
      exact t19_ u19 w1 i1
  exact t_ w.drew i0

end
end Go.Proofs.YtckkalmhekfnhaaGreatDoor
