import Derived.Test.YtckkalmhekfnhaaGreatDoorTopB
import Derived.Test.YtckkalmhekfnhaaGreatDoorTopC
import Derived.Test.YtckkalmhekfnhaaGreatDoorTopA
import Derived.Test.YtckkalmhekfnhaaGreatDoorQTail
import Derived.Deep.MidRow
import Derived.Test.YtckkalmhekfnhaaGreatDoorRBlob
import Derived.Test.YtckkalmhekfnhaaGreatDoorERead
import Derived.Deep.RegionHeld3
namespace Go.Proofs.YtckkalmhekfnhaaGreatDoor
open Go.RowKit Go.BigFrame
set_option linter.unusedVariables false
set_option linter.unusedSimpArgs false

/-- Batches with the numbers that go on from i. -/
def numS : Nat → List (List En) → List (Nat × List En)
  | _, [] => []
  | i, es :: r => (i, es) :: numS ((i + es.length) % 18446744073709551616) r
def okS : Nat → List (List En) → Bool
  | _, [] => true
  | i, es :: r => decide (chkB i es = 0) && okS ((i + es.length) % 18446744073709551616) r
def runS (ts : List (Nat × List En)) : List Nat := ts.flatMap fun t => sbB t.1 t.2
/-- The places behind them. -/
def atS : Nat → List (Nat × List En) → List Nat
  | n, [] => []
  | n, t :: r => (n + (sbB t.1 t.2).length) :: atS (n + (sbB t.1 t.2).length) r
theorem runS_app (a b : List (Nat × List En)) : runS (a ++ b) = runS a ++ runS b := by simp [runS]
theorem runS_one (t : Nat × List En) : runS [t] = sbB t.1 t.2 := by simp [runS]
theorem runS_cons (t : Nat × List En) (r : List (Nat × List En)) : runS (t :: r) = sbB t.1 t.2 ++ runS r := by simp [runS]
theorem atS_snoc : ∀ (n : Nat) (D : List (Nat × List En)) (t : Nat × List En), atS n (D ++ [t]) = atS n D ++ [n + (runS (D ++ [t])).length]
  | n, [], t => by simp [atS, runS]
  | n, d :: D, t => by
    rw [List.cons_append, atS, atS_snoc _ D t, runS_cons, atS, List.length_append]
    simp; omega
theorem atS_len : ∀ (n : Nat) (D : List (Nat × List En)), (atS n D).length = D.length
  | _, [] => rfl
  | n, d :: D => by rw [atS, List.length_cons, atS_len _ D, List.length_cons]
theorem Tryz.infoI : (Tryz.prog.info? 3).map (fun i => (i.zero, i.size, i.bytes)) = some (some (.int .i64 0), 1, 8) := by kernel_rfl
def intC (xs : List Nat) : List Value := xs.map fun (x : Nat) => .int .i64 (x : Int)
theorem owns_neB {w : World} {b1 b2 : Nat} {e1 e2 : TypeId} {s1 s2 n1 n2 : Nat} {v1 v2 : Value} {x1 x2 : List Value} (h1 : w.ownsRow b1 e1 s1 v1 n1 x1) (h2 : w.ownsRow b2 e2 s2 v2 n2 x2) (he : e1 ≠ e2) : ∀ b, v1.ownBlock = some b → v2.ownBlock ≠ some b := by
  intro b hb hb2
  rcases h1.2 with ⟨rfl, _⟩ | ⟨g, cap, cur, rfl, _, hg, _⟩
  · simp [Value.ownBlock] at hb
  · rcases h2.2 with ⟨rfl, _⟩ | ⟨g', cap', cur', rfl, _, hg', _⟩
    · simp [Value.ownBlock] at hb2
    · simp only [Value.ownBlock, Option.some.injEq] at hb hb2
      subst hb
      subst hb2
      rw [hg] at hg'
      simp at hg'
      first | exact he hg'.2 | exact he hg'.2.1 | exact he hg'.1
/-- Batches and places that are owned, each batch with memory of its own. -/
structure LaA (w0 w : World) (av tv : Value) (ts : List (Nat × Value × List En)) (xs : List Nat) : Prop where
  own : w.ownsRow w0.heap.size 35 2 av ts.length (cellsB ts)
  ints : w.ownsRow w0.heap.size 3 1 tv xs.length (intC xs)
  rd : ∀ t ∈ ts, ∃ B C, C ≤ w.heap.size ∧ w0.heap.size ≤ B ∧ (∀ b, av.ownBlock = some b ∨ tv.ownBlock = some b → b < B ∨ C ≤ b) ∧ ∀ M w', Kept M w w' → (∀ x ∈ M, x < B ∨ C ≤ x) → RdN w' t.2.1 t.2.2
  sz : w0.heap.size ≤ w.heap.size
theorem LaA.pass {w0 w w' : World} {av tv : Value} {ts : List (Nat × Value × List En)} {xs : List Nat} (h : LaA w0 w av tv ts xs) (k : Kept [] w w') : LaA w0 w' av tv ts xs := by
  refine ⟨k.owns h.own (by simp), k.owns h.ints (by simp), fun t ht => ?_, Nat.le_trans h.sz k.size⟩
  obtain ⟨B, C, h1, h2, h3, h4⟩ := h.rd t ht
  exact ⟨B, C, Nat.le_trans h1 k.size, h2, h3, fun N w2 kN hN => h4 N w2 ((k.mono (M := N) (by simp)).trans kN (fun x hx => Or.inl hx)) hN⟩
theorem LaA.int {w0 w W : World} {av tv : Value} {ts : List (Nat × Value × List En)} {xs : List Nat} (h : LaA w0 w av tv ts xs) {x g n cap : Nat} (hn : n = xs.length + 1)
    (o : W.ownsRow w0.heap.size 3 1 (.slice (some ⟨g, 0, none⟩) n cap) n (intC xs ++ [.int .i64 (x : Int)])) (gr : w.grownBy W tv.ownBlock) (hg : tv.ownBlock = some g ∨ g = w.heap.size) :
    LaA w0 W av (.slice (some ⟨g, 0, none⟩) n cap) ts (xs ++ [x]) := by
  have kW : Kept tv.ownBlock.toList w W := ((Kept.refl _ w)).grown gr (by intro k hk; left; simp [hk])
  refine ⟨kW.owns h.own (fun b hb hm => owns_neB h.own h.ints (by decide) b hb (by simpa using hm)), by rw [List.length_append, List.length_singleton, ← hn]; simpa [intC] using o, fun t ht => ?_, Nat.le_trans h.sz kW.size⟩
  obtain ⟨B, C, h1, h2, h3, h4⟩ := h.rd t ht
  refine ⟨B, C, Nat.le_trans h1 kW.size, h2, fun b hb => ?_, fun N w2 kN hN => h4 (tv.ownBlock.toList ++ N) w2 ((kW.mono (M := tv.ownBlock.toList ++ N) (fun x hx => List.mem_append_left _ hx)).trans kN (fun x hx => Or.inl (by simp [hx]))) (fun x hx => ?_)⟩
  · rcases hb with hb | hb
    · exact h3 b (Or.inl hb)
    · simp only [Value.ownBlock, Option.some.injEq] at hb
      subst hb
      rcases hg with hg | hg
      · exact h3 _ (Or.inr hg)
      · omega
  · rcases List.mem_append.1 hx with hx | hx
    · exact h3 x (Or.inr (by simpa using hx))
    · exact hN x hx
theorem LaA.bat {w0 w W : World} {av tv : Value} {ts : List (Nat × Value × List En)} {xs : List Nat} (h : LaA w0 w av tv ts xs) {pl : Nat} {y : Value} {es : List En} {g n cap : Nat} (hn : n = ts.length + 1)
    (hy : ∃ B C, C ≤ w.heap.size ∧ w0.heap.size ≤ B ∧ (∀ b, av.ownBlock = some b ∨ tv.ownBlock = some b → b < B ∨ C ≤ b) ∧ ∀ M w', Kept M w w' → (∀ x ∈ M, x < B ∨ C ≤ x) → RdN w' y es)
    (o : W.ownsRow w0.heap.size 35 2 (.slice (some ⟨g, 0, none⟩) n cap) n (cellsB ts ++ [.int .u64 (pl : Int), y])) (gr : w.grownBy W av.ownBlock) (hg : av.ownBlock = some g ∨ g = w.heap.size) :
    LaA w0 W (.slice (some ⟨g, 0, none⟩) n cap) tv (ts ++ [(pl, y, es)]) xs := by
  have kW : Kept av.ownBlock.toList w W := ((Kept.refl _ w)).grown gr (by intro k hk; left; simp [hk])
  have key : ∀ t ∈ ts ++ [(pl, y, es)], ∃ B C, C ≤ w.heap.size ∧ w0.heap.size ≤ B ∧ (∀ b, av.ownBlock = some b ∨ tv.ownBlock = some b → b < B ∨ C ≤ b) ∧ ∀ M w', Kept M w w' → (∀ x ∈ M, x < B ∨ C ≤ x) → RdN w' t.2.1 t.2.2 := by
    intro t ht
    rcases List.mem_append.1 ht with ht | ht
    · exact h.rd t ht
    · rw [List.mem_singleton] at ht; subst ht; exact hy
  refine ⟨by rw [cellsB_app, List.length_append, List.length_singleton, ← hn]; exact o, kW.owns h.ints (fun b hb hm => owns_neB h.ints h.own (by decide) b hb (by simpa using hm)), fun t ht => ?_, Nat.le_trans h.sz kW.size⟩
  obtain ⟨B, C, h1, h2, h3, h4⟩ := key t ht
  refine ⟨B, C, Nat.le_trans h1 kW.size, h2, fun b hb => ?_, fun N w2 kN hN => h4 (av.ownBlock.toList ++ N) w2 ((kW.mono (M := av.ownBlock.toList ++ N) (fun x hx => List.mem_append_left _ hx)).trans kN (fun x hx => Or.inl (by simp [hx]))) (fun x hx => ?_)⟩
  · rcases hb with hb | hb
    · simp only [Value.ownBlock, Option.some.injEq] at hb
      subst hb
      rcases hg with hg | hg
      · exact h3 _ (Or.inl hg)
      · omega
    · exact h3 b (Or.inr hb)
  · rcases List.mem_append.1 hx with hx | hx
    · exact h3 x (Or.inl (by simpa using hx))
    · exact hN x hx
theorem LaA.rdB {w0 w : World} {av tv : Value} {ts : List (Nat × Value × List En)} {xs : List Nat} (h : LaA w0 w av tv ts xs) : RdB w av (ts.map fun t => (t.1, t.2.2)) :=
  OwnB.rdB (w0 := w0) ⟨h.own, fun t ht => by obtain ⟨B, C, h1, h2, h3, h4⟩ := h.rd t ht; exact ⟨B, C, h1, h2, fun b hb => h3 b (Or.inl hb), h4⟩, h.sz⟩
/-- The slice value v reads as these numbers. -/
def RdJ (w : World) (v : Value) (xs : List Nat) : Prop := ∃ (b c : Nat), v = .slice (some ⟨b, 0, none⟩) xs.length c ∧ xs.length ≤ c ∧ ∀ i (h : i < xs.length), w.cell? ⟨b, i, none⟩ = some (.int .i64 (xs[i] : Int))
theorem LaA.rdJ {w0 w : World} {av tv : Value} {ts : List (Nat × Value × List En)} {xs : List Nat} (h : LaA w0 w av tv ts xs) (hp : 0 < xs.length) : RdJ w tv xs := by
  rcases h.ints.2 with ⟨rfl, h0⟩ | ⟨g, cap, cur, rfl, _, hg, hc, hm', hs, ht⟩
  · omega
  · refine ⟨g, cap, rfl, hc, fun i hi => ?_⟩
    have c1 := h.ints.cells (g := g) rfl i (.int .i64 (xs[i] : Int)) (by simp [intC, hi])
    rw [Addr.add_mid, Nat.zero_add] at c1
    exact c1
theorem pushI (w : World) (base : Nat) (v : Value) (xs : List Nat) (x : Nat) (H : Nat) (h : w.ownsRow base 3 1 v xs.length (intC xs)) (hnew : w.heap[H]? = some (.cells #[.int .i64 (x : Int)] 3 (0, 0))) (hl : xs.length + 1 ≤ 1000000000000) (hb : base ≤ w.heap.size) :
    ∃ g cap w1, (Builtin.append_ #[61, 61] 61 #[v, .slice (some ⟨H, 0, none⟩) 1 1]).run Tryz.prog w = .ok (.slice (some ⟨g, 0, none⟩) (xs.length + 1) cap) w1 ∧
      w1.ownsRow base 3 1 (.slice (some ⟨g, 0, none⟩) (xs.length + 1) cap) (xs.length + 1) (intC xs ++ [.int .i64 (x : Int)]) ∧ w.grownBy w1 v.ownBlock ∧ (v.ownBlock = some g ∨ g = w.heap.size) := by
  obtain ⟨i0, hi, hz0, hz1, hz2⟩ := info_parts Tryz.infoI
  obtain ⟨g, cap, w1, hr, hown, hgrow, hat, hlt⟩ := run_append_lies (P := Tryz.prog) w 61 61 base 3 i0 (.int .i64 0) 1 8 Tryz.underlying61 hi hz0 hz1 hz2 rfl (by decide)
    v xs.length (intC xs) h ⟨H, 0, none⟩ 1 1 [.int .i64 (x : Int)] rfl (World.news_of_block hnew) (by intro u hu; simp at hu; subst hu; rfl) (by decide) (by unfold maxLen; omega) (by omega) hb _ rfl
  exact ⟨g, cap, w1, hr, hown, hgrow, hat⟩
theorem wpList_pushI {ops : Array Oper} {rest : List Oper} {o : Oper} {a : Act} {Q : Exit → Act → World → Prop} (hgd : o.guard = none) (s x : Operand)
    (ho : o.op = .call { callee := .builtin .append, args := #[s, x], argTypes := #[61, 61] }) (hty : o.type = 61)
    (w : World) (base : Nat) (v : Value) (xs : List Nat) (y : Nat) (H : Nat) (h : w.ownsRow base 3 1 v xs.length (intC xs)) (hnew : w.heap[H]? = some (.cells #[.int .i64 (y : Int)] 3 (0, 0))) (hl : xs.length + 1 ≤ 1000000000000) (hb : base ≤ w.heap.size)
    (hs : a.eval s = v) (hx : a.eval x = .slice (some ⟨H, 0, none⟩) 1 1)
    (hK : ∀ g cap w1, Hid (w1.ownsRow base 3 1 (.slice (some ⟨g, 0, none⟩) (xs.length + 1) cap) (xs.length + 1) (intC xs ++ [.int .i64 (y : Int)])) → Hid (w.grownBy w1 v.ownBlock) → Hid (v.ownBlock = some g ∨ g = w.heap.size) →
      wpList Tryz.prog ops Q rest (a.put o.dst (.slice (some ⟨g, 0, none⟩) (xs.length + 1) cap)) w1) :
    wpList Tryz.prog ops Q (o :: rest) a w := by
  obtain ⟨g, cap, w1, hrun, h2, h3, h4⟩ := pushI w base v xs y H h hnew hl hb
  refine wpList_plain hgd fun K hK' => ?_
  unfold Oper.wp execOp
  simp only [ho, hty, resolve, invoke, builtin, Sem.run_bind, Sem.run_pure, Result.andThen_ok, List.map_toArray, List.map_cons, List.map_nil, hs, hx, hrun]
  exact hK' _ _ (hK g cap w1 h2 h3 h4)
end Go.Proofs.YtckkalmhekfnhaaGreatDoor
namespace Go.Proofs.YtckkalmhekfnhaaGreatDoor
open Go.RowKit Go.BigFrame
set_option linter.unusedVariables false
set_option linter.unusedSimpArgs false

def ldOk (c : Nat) (z : Int) (L : List (List En)) : Bool := wideB z && okS c L
theorem runS_snoc_len {D : List (Nat × List En)} {i : Nat} {es : List En} {n : Nat} (h : (runS D).length ≤ 30018 * n) (hc : chkB i es = 0) (hi : i < 18446744073709551616) : (runS (D ++ [(i, es)])).length ≤ 30018 * (n + 1) := by
  have := batB_lenS hc hi
  rw [runS_app, List.length_append, runS_one, sbB_len hc]
  omega

set_option maxRecDepth 100000 in
set_option maxHeartbeats 4000000 in
theorem laidS_any (a b c : Nat) (z : Int) (v : Value) (bs : List (Nat × List En)) (w : World) (ha : a < 18446744073709551616) (hc : c < 18446744073709551616) (hz : -9223372036854775808 ≤ z ∧ z ≤ 9223372036854775807) (h : RdB w v bs) (hl : bs.length ≤ 1048576) (hes : ∀ t ∈ bs, t.2.length ≤ 1048576) :
    Calls Tryz.prog 25 #[.agg #[.int .u64 a, .int .u64 b, .int .u64 c, .int .i64 z], v] w fun e w' => ∃ pv av tv, e = .returned (.tuple #[pv, av, tv, .bool (ldOk c z (bs.map (·.2)))]) ∧ (ldOk c z (bs.map (·.2)) = true → Rd w' pv (ehB a b c z ++ runS (numS c (bs.map (·.2)))) ∧ RdB w' av (numS c (bs.map (·.2))) ∧ RdJ w' tv (48 :: atS 48 (numS c (bs.map (·.2))))) ∧ Kept [] w w' := by
  obtain ⟨ao, cap, S, rfl, hbs, hcap1, hcap2, hrd, hcl⟩ := h
  have hSl : bs.length = S.length := by rw [hbs]; simp
  have HRD := hide hrd
  have HCL := hide hcl
  have HBS := hide hbs
  have HES := hide hes
  rw [hSl] at hl
  clear hbs hrd hcl hSl hes
  obtain ⟨L, hL⟩ : ∃ L, bs.map (·.2) = L := ⟨_, rfl⟩
  have HLL := hide (by rw [← hL, unhide HBS]; simp : L = S.map (·.2.2))
  rw [hL]
  clear hL
  have HB0 := hide (heap_alloc_new w (.cells #[.int .u64 (a : Int), .int .u64 (b : Int), .int .u64 (c : Int), .int .i64 z] 32))
  have HK0 := hide ((Kept.refl [] w).alloc (.cells #[.int .u64 (a : Int), .int .u64 (b : Int), .int .u64 (c : Int), .int .i64 z] 32))
  obtain ⟨W1, hW1⟩ : ∃ W, w.alloc (.cells #[.int .u64 (a : Int), .int .u64 (b : Int), .int .u64 (c : Int), .int .i64 z] 32) = W := ⟨_, rfl⟩
  rw [hW1] at HB0 HK0
  have HW1 := hide hW1
  clear hW1
  obtain ⟨d0, d1, d2, d3⟩ := hcells (unhide HB0)
  rw [← unhide HW1] at d0 d1 d2 d3
  obtain ⟨OK, hOK⟩ : ∃ OK, ldOk c z L = OK := ⟨_, rfl⟩
  have HOK := hide hOK
  rw [hOK]
  clear hOK
  go_enter Tryz.func25, Tryz.ntmps25
  go_wp2_with fail
  rw [unhide HW1]
  clear d0 d1 d2 d3
  refine Calls.mono (encodeHead_any a b c z W1 ha hz) ?_
  rintro e w2 ⟨v2, rfl, n2, k2⟩
  obtain ⟨a2, m2, c2, rfl, hm2, _⟩ := id n2.1
  have HR2 := hide n2.1
  have HH2 := hide (k2.heap (unhide HB0) (by simp))
  have HK2 := hide ((unhide HK0).trans k2 (by simp))
  clear n2 k2 HB0 HK0
  by_cases hw : wideB z = true
  · rw [show ehE z = 0 by simp [ehE, hw]]
    rw [ehB_len hw] at hm2
    subst hm2
    have HO := hide (by rw [← unhide HOK]; unfold ldOk; rw [hw, Bool.true_and] : OK = okS c L)
    obtain ⟨d0, d1, d2, d3⟩ := hcells (((Kept.refl [] w2).alloc (.cells #[.int .i64 48] 3)).heap (unhide HH2) (by simp))
    go_wp2_with fail
    clear d0 d1 d2 d3
    go_loopw [8, 10, 11, 12, 32] (fun t8 t10 t11 t12 t32 wr => ∃ (k nxt : Nat) (ts : List (Nat × Value × List En)), t32 = .int .i64 (k : Int) ∧ k ≤ S.length ∧ t12 = .int .u64 (nxt : Int) ∧ Hid (nxt < 18446744073709551616 ∧ ts.length = k) ∧ Hid (numS c L = ts.map (fun t => (t.1, t.2.2)) ++ numS nxt (L.drop k)) ∧ Hid (OK = okS nxt (L.drop k)) ∧ Hid (Rd wr t8 (ehB a b c z ++ runS (ts.map fun t => (t.1, t.2.2)))) ∧ Hid (LaA w2 wr t10 t11 ts (48 :: atS 48 (ts.map fun t => (t.1, t.2.2)))) ∧ Hid (Kept [] w wr) ∧ Hid ((runS (ts.map fun t => (t.1, t.2.2))).length ≤ 30018 * k)) (fun _ _ _ _ t _ => S.length - (intOf t).toNat)
    case atStart =>
      refine ⟨0, c, [], rfl, Nat.zero_le _, rfl, hide ⟨hc, rfl⟩, hide (by simp), HO, hide ?_, hide ?_, hide ((unhide HK2).alloc _), hide (by simp [runS])⟩
      · simp only [List.map_nil, runS, List.flatMap_nil, List.append_nil]
        exact (unhide HR2).old ((Kept.refl [] w2).alloc _) (by simp)
      · exact ⟨World.ownsRow_nil _ _ _ _, ⟨rfl, .inr ⟨w2.heap.size, 1, #[.int .i64 48], rfl, Nat.le_refl _, heap_alloc_new _ _, Nat.le_refl _, by decide, rfl, rfl⟩⟩, by simp, by simp⟩
    case round =>
      obtain ⟨k, nxt, ts, rfl, hk, rfl, HN, HD, HOk, HP, HA, HK, HLn⟩ := hrel
      obtain ⟨a8, n8, c8, h8, hl8, _⟩ := id (unhide HP)
      subst h8
      by_cases hkl : k < S.length
      · obtain ⟨b0, off, rfl, hcell⟩ := unhide HCL (by omega)
        obtain ⟨c0, c1⟩ := hcell k hkl
        have HRN := hide (unhide HRD S[k] (List.getElem_mem _))
        have HEL := hide (unhide HES (S[k].1, S[k].2.2) (by rw [unhide HBS]; exact List.mem_map.2 ⟨S[k], List.getElem_mem _, rfl⟩))
        have HDR := hide (by rw [unhide HLL, List.drop_eq_getElem_cons (by simpa using hkl)]; simp : L.drop k = S[k].2.2 :: L.drop (k + 1))
        obtain ⟨f, y, es, hSk⟩ : ∃ f y es, S[k] = (f, y, es) := ⟨_, _, _, rfl⟩
        rw [hSk] at c0 c1 HRN HEL HDR
        simp only at c0 c1 HRN HEL HDR
        clear hSk hcell
        obtain ⟨ay, ny, cy, _, _, hyy, _⟩ := id (unhide HRN)
        subst hyy
        have e0 := (unhide HK).cell c0 (by simp)
        have e1 := (unhide HK).cell c1 (by simp)
        clear c0 c1
        have hlt : (k : Int) < (S.length : Int) := by omega
        have HA1 := hide ((unhide HA).pass ((Kept.refl [] wr).alloc (.cells #[.int .u64 (f : Int), .slice ay ny cy] 35)))
        have HP1 := hide ((unhide HP).old ((Kept.refl [] wr).alloc (.cells #[.int .u64 (f : Int), .slice ay ny cy] 35)) (by simp))
        have HK1 := hide ((unhide HK).alloc (.cells #[.int .u64 (f : Int), .slice ay ny cy] 35))
        have HN1 := hide ((unhide HRN).old (unhide HK1))
        obtain ⟨g0, g1⟩ := bcells (heap_alloc_new wr (.cells #[.int .u64 (f : Int), .slice ay ny cy] 35))
        go_wp2_with fail
        obtain ⟨V1, hV1⟩ : ∃ W, wr.alloc (.cells #[.int .u64 (f : Int), .slice ay ny cy] 35) = W := ⟨_, rfl⟩
        rw [hV1] at HA1 HP1 HK1 HN1 ⊢
        clear hV1 e0 e1 g0 g1
        refine Calls.mono (twinEntries_any _ es V1 (unhide HN1) (unhide HEL)) ?_
        rintro e w3 ⟨v3, rfl, n3, k3⟩
        obtain ⟨a3, n3', c3, _, _, hv3, hl3, _⟩ := id n3.rdN
        subst hv3
        have HL3 := hide hl3
        have HN3 := hide n3
        have HA3 := hide ((unhide HA1).pass k3)
        have HP3 := hide ((unhide HP1).old k3 (by simp))
        have HK3 := hide ((unhide HK1).trans k3 (by simp))
        have HLT := hide (fun b (hb : u10.ownBlock = some b ∨ u11.ownBlock = some b) => by
          rcases hb with hb | hb
          · exact ((unhide HA1).own.lt b hb).2
          · exact ((unhide HA1).ints.lt b hb).2 : ∀ b, u10.ownBlock = some b ∨ u11.ownBlock = some b → b < V1.heap.size)
        have HV13 := hide k3.size
        have HW2 := hide ((unhide HA1).sz)
        clear n3 k3 hl3
        have HC4 := hide (heap_alloc_new w3 (.cells #[.int .u64 (nxt : Int), .slice a3 n3' c3] 35))
        have KC := hide ((Kept.refl [] w3).alloc (.cells #[.int .u64 (nxt : Int), .slice a3 n3' c3] 35))
        obtain ⟨V4, hV4⟩ : ∃ W, w3.alloc (.cells #[.int .u64 (nxt : Int), .slice a3 n3' c3] 35) = W := ⟨_, rfl⟩
        rw [hV4] at HC4 KC
        have HV4 := hide hV4
        clear hV4
        obtain ⟨g0, g1⟩ := bcells (unhide HC4)
        rw [← unhide HV4] at g0 g1
        have hnx := (unhide HN).1
        go_wp2_with fail
        rw [unhide HV4]
        clear g0 g1
        refine Calls.mono (segBatch_any nxt _ es V4 hnx ((unhide HN3).rdN.old (unhide KC))) ?_
        rintro e w5 ⟨v5, rfl, n5, k5⟩
        obtain ⟨a5, n5', c5, rfl, hl5, _⟩ := id n5.1
        have HQ5 := hide n5.1
        have HK35 := hide ((unhide KC).trans k5 (by simp))
        clear n5 hl5
        have HC5 := hide (k5.heap (unhide HC4) (by simp))
        clear k5
        by_cases hck : chkB nxt es = 0
        · rw [hck]
          have HCK := hide hck
          clear hck
          have HBY := hide (by have h9 := unhide HLn; have h10 := (unhide HN).2; rw [List.length_append, ehB_len hw]; omega : (ehB a b c z ++ runS (ts.map fun t => (t.1, t.2.2))).length ≤ 48 + 30018 * S.length)
          have HSL := hide (by rw [sbB_len (unhide HCK)]; have := batB_lenS (unhide HCK) hnx; omega : (sbB nxt es).length ≤ 30018)
          go_wp2_with fail
          refine Calls.mono (join_any _ _ _ (sbB nxt es) w5 ((unhide HP3).old (unhide HK35) (by simp)) (unhide HQ5) (by have := unhide HBY; have := unhide HSL; omega)) ?_
          rintro e w6 ⟨v6, rfl, r6, k6, b6⟩
          obtain ⟨a6, n6, c6, rfl, hl6, _⟩ := id r6
          have HR6 := hide r6
          have HB6 := hide b6
          have HS56 := hide (unhide HK35).size
          have K36 := (unhide HK35).trans k6 (by simp)
          have HA6 := hide ((unhide HA3).pass K36)
          have HK6 := hide ((unhide HK3).trans K36 (by simp))
          have HC6 := hide (k6.heap (unhide HC5) (by simp))
          have HT6 := hide (And.intro K36.size (fun M w' (kk : Kept M w6 w') (hM : ∀ x ∈ M, x < V1.heap.size ∨ w3.heap.size ≤ x) => (unhide HN3).stay (M := M) ((K36.mono (M := M) (by simp)).trans kk (fun x hx => Or.inl hx)) hM) : w3.heap.size ≤ w6.heap.size ∧ ∀ M w', Kept M w6 w' → (∀ x ∈ M, x < V1.heap.size ∨ w3.heap.size ≤ x) → RdN w' (.slice a3 n3' c3) es)
          have HZ6 := hide (k6.size)
          have HL6 := hide hl6
          clear r6 k6 K36 hl6 b6 HC5 HC4 KC HV4 HK35 HP3
          have KA := hide ((Kept.refl [] w6).alloc (.cells #[.int .i64 (n6 : Int)] 3))
          have HA7 := hide ((unhide HA6).pass (unhide KA))
          have HNI := hide (heap_alloc_new w6 (.cells #[.int .i64 (n6 : Int)] 3))
          have HC7 := hide ((unhide KA).heap (unhide HC6) (by simp))
          have HK7 := hide ((unhide HK6).alloc (.cells #[.int .i64 (n6 : Int)] 3))
          have HR7 := hide ((unhide HR6).old (unhide KA) (by simp))
          obtain ⟨X, hX⟩ : ∃ X, (48 :: atS 48 (ts.map fun t => (t.1, t.2.2))) = X := ⟨_, rfl⟩
          have HXL := hide (by rw [← hX, List.length_cons, atS_len, List.length_map, (unhide HN).2] : X.length = k + 1)
          have HX := hide hX
          rw [hX] at HA7
          clear hX
          go_upto_region 16 with (at_builtin; refine wpList_pushI rfl (.tmp 51) (.tmp 54) rfl rfl _ w2.heap.size u11 X n6 w6.heap.size (unhide HA7).ints (unhide HNI) (by rw [unhide HXL]; omega) (unhide HA7).sz rfl rfl ?_; intro gi ci w8 HO8 HG8 HI8)
          have HS67 := hide (by simp : (w6.alloc (.cells #[.int .i64 (n6 : Int)] 3)).heap.size = w6.heap.size + 1)
          have K8 := (Kept.refl (u11.ownBlock.toList) _).grown (unhide HG8) (by intro k hk; left; simp [hk])
          have HA8 := hide ((unhide HA7).int (x := n6) rfl (unhide HO8) (unhide HG8) (unhide HI8))
          have HR8 := hide ((unhide HR7).kept K8 (fun x hx hm => by have h1 := unhide HB6 x hx; have h2 := unhide HLT x (Or.inr (by simpa using hm)); have h3 := unhide HV13; have h4 := unhide HS56; omega))
          have HC8 := hide (K8.heap (unhide HC7) (by intro hm; have h2 := unhide HLT _ (Or.inr (by simpa using hm)); have h3 := unhide HV13; omega))
          have HK8 := hide ((unhide HK7).grown (unhide HG8) (fun k hk => Or.inr (by have h1 := ((unhide HA7).ints.lt k hk).1; have h2 := (unhide HK2).size; omega)))
          have HT8 := hide (fun M w' (kk : Kept M w8 w') (hM : ∀ x ∈ M, x < V1.heap.size ∨ w3.heap.size ≤ x) => (unhide HT6).2 (u11.ownBlock.toList ++ M) w' ((((unhide KA).mono (M := u11.ownBlock.toList ++ M) (by simp)).trans (K8.mono (M := u11.ownBlock.toList ++ M) (fun x hx => List.mem_append_left _ hx)) (fun x hx => Or.inl hx)).trans kk (fun x hx => Or.inl (by simp [hx]))) (fun x hx => by
            rcases List.mem_append.1 hx with hx | hx
            · exact Or.inl (unhide HLT x (Or.inr (by simpa using hx)))
            · exact hM x hx) : ∀ M w', Kept M w8 w' → (∀ x ∈ M, x < V1.heap.size ∨ w3.heap.size ≤ x) → RdN w' (.slice a3 n3' c3) es)
          have HZ8 := hide (by have := K8.size; have := unhide HS67; have := (unhide HT6).1; omega : w3.heap.size ≤ w8.heap.size)
          have HGI := hide (by
            rcases unhide HI8 with h9 | h9
            · exact Or.inl (unhide HLT gi (Or.inr h9))
            · right; have := unhide HS67; have := (unhide HT6).1; omega : gi < V1.heap.size ∨ w3.heap.size ≤ gi)
          clear K8 HO8 HG8 HI8
          have KB := hide ((Kept.refl [] w8).alloc (.cells #[.int .u64 (nxt : Int), .slice a3 n3' c3] 35))
          have HNB := hide (heap_alloc_new w8 (.cells #[.int .u64 (nxt : Int), .slice a3 n3' c3] 35))
          have HA9 := hide ((unhide HA8).pass (unhide KB))
          have HC9 := hide ((unhide KB).heap (unhide HC8) (by simp))
          have HR9 := hide ((unhide HR8).old (unhide KB) (by simp))
          have HK9 := hide ((unhide HK8).alloc (.cells #[.int .u64 (nxt : Int), .slice a3 n3' c3] 35))
          obtain ⟨g0, g1⟩ := bcells (unhide HC8)
          go_upto_region 17 with (at_builtin; refine wpList_pushB rfl (.tmp 56) (.tmp 58) rfl rfl _ w2.heap.size u10 ts nxt (.slice a3 n3' c3) w8.heap.size (unhide HA9).own (unhide HNB) rfl (by rw [(unhide HN).2]; omega) (unhide HA9).sz rfl rfl ?_; intro gb cb w10 HO10 HG10 HI10)
          clear g0 g1
          have K10 := (Kept.refl (u10.ownBlock.toList) _).grown (unhide HG10) (by intro k hk; left; simp [hk])
          have HA10 := hide ((unhide HA9).bat rfl ⟨V1.heap.size, w3.heap.size, Nat.le_trans (unhide HZ8) (unhide KB).size, unhide HW2, (fun b hb => by
            rcases hb with hb | hb
            · exact Or.inl (unhide HLT b (Or.inl hb))
            · simp only [Value.ownBlock, Option.some.injEq] at hb
              subst hb
              exact unhide HGI), fun M w' kk hM => unhide HT8 M w' (((unhide KB).mono (M := M) (by simp)).trans kk (fun x hx => Or.inl hx)) hM⟩ (unhide HO10) (unhide HG10) (unhide HI10))
          have HR10 := hide ((unhide HR9).kept K10 (fun x hx hm => by have h1 := unhide HB6 x hx; have h2 := unhide HLT x (Or.inl (by simpa using hm)); have h3 := unhide HV13; have h4 := unhide HS56; omega))
          have HC10 := hide (K10.heap (unhide HC9) (by intro hm; have h2 := unhide HLT _ (Or.inl (by simpa using hm)); have h3 := unhide HV13; omega))
          have HK10 := hide ((unhide HK9).grown (unhide HG10) (fun k hk => Or.inr (by have h1 := ((unhide HA9).own.lt k hk).1; have h2 := (unhide HK2).size; omega)))
          clear K10 HO10 HG10 HI10
          obtain ⟨g0, g1⟩ := bcells (unhide HC10)
          go_wp2_with fail
          go_roundw
          case rel =>
            refine ⟨k + 1, (nxt + es.length) % 18446744073709551616, ts ++ [(nxt, .slice a3 n3' c3, es)], by simp, by omega, ?_, hide ⟨by omega, by rw [List.length_append, (unhide HN).2]; rfl⟩, hide ?_, hide ?_, hide ?_, hide ?_, HK10, hide ?_⟩
            · have h9 := unhide HL3
              rw [h9, IntKind.wrap_u64]
              simp
            · rw [unhide HD, unhide HDR, numS]
              simp
            · rw [unhide HOk, unhide HDR, okS]
              simp [unhide HCK]
            · have h9 := unhide HR10
              rw [List.append_assoc] at h9
              rw [List.map_append, runS_app]
              simpa [runS_one] using h9
            · have hn6 : n6 = 48 + (runS ((ts.map fun t => (t.1, t.2.2)) ++ [(nxt, es)])).length := by
                rw [← unhide HL6, List.length_append, List.length_append, ehB_len hw, runS_app, List.length_append, runS_one]
                simp only
                omega
              have hxx : 48 :: atS 48 ((ts ++ [(nxt, Value.slice a3 n3' c3, es)]).map fun t => (t.1, t.2.2)) = X ++ [n6] := by
                rw [List.map_append, List.map_singleton, atS_snoc, ← unhide HX, hn6]
                rfl
              rw [hxx]
              exact unhide HA10
            · rw [List.map_append]
              exact runS_snoc_len (unhide HLn) (unhide HCK) hnx
          case measure => simp [intOf]; omega
        · have hck' : ((chkB nxt es : Int) != 0) = true := by rw [bne_iff_ne]; omega
          have HO2 := hide (by rw [unhide HOk, unhide HDR, okS]; simp [hck] : OK = false)
          go_wp2
          refine bodyPost_ret (v := .tuple #[.slice none 0 0, .slice none 0 0, .slice none 0 0, .bool false]) ?_ rfl ⟨.slice none 0 0, .slice none 0 0, .slice none 0 0, by rw [unhide HO2], (by intro h; exact absurd (h.symm.trans (unhide HO2)) (by decide)), (unhide HK3).trans (unhide HK35) (by simp)⟩
          simp [results, Tryz.func25]
      · have hlt : ¬ (k : Int) < (S.length : Int) := by omega
        have hke : k = S.length := by omega
        have HKE := hide (by rw [List.drop_eq_nil_of_le]; rw [unhide HLL, List.length_map]; omega : L.drop k = [])
        have HTT := hide (by rw [unhide HOk, unhide HKE]; rfl : OK = true)
        have HDD := hide (by rw [unhide HD, unhide HKE]; simp [numS] : numS c L = ts.map fun t => (t.1, t.2.2))
        clear hke hkl
        go_wp2
        refine bodyPost_ret (v := .tuple #[.slice a8 n8 c8, u10, u11, .bool true]) ?_ rfl ⟨.slice a8 n8 c8, u10, u11, by rw [unhide HTT], fun _ => ⟨by rw [unhide HDD]; exact unhide HP, by rw [unhide HDD]; exact (unhide HA).rdB, by rw [unhide HDD]; exact (unhide HA).rdJ (by simp)⟩, unhide HK⟩
        simp [results, Tryz.func25]
  · have hw' : wideB z = false := by simpa using hw
    rw [show ehE z = 1 by simp [ehE, hw']]
    have HO := hide (by rw [← unhide HOK]; unfold ldOk; rw [hw', Bool.false_and] : OK = false)
    go_wp2
    refine bodyPost_ret (v := .tuple #[.slice none 0 0, .slice none 0 0, .slice none 0 0, .bool false]) ?_ rfl ⟨.slice none 0 0, .slice none 0 0, .slice none 0 0, by rw [unhide HO], (by intro h; exact absurd (h.symm.trans (unhide HO)) (by decide)), unhide HK2⟩
    simp [results, Tryz.func25]
end Go.Proofs.YtckkalmhekfnhaaGreatDoor
namespace Go.Proofs.YtckkalmhekfnhaaGreatDoor
open Go.RowKit Go.BigFrame
set_option linter.unusedVariables false
set_option linter.unusedSimpArgs false

theorem run_loadS {P : Program} {o : Oper} {a : Act} (ty : TypeId) (x : Operand) (ho : o.op = .load ty x) (ad : Addr) (hx : a.eval x = .pointer (some ad)) (w : World) (v : Value) (e : TypeId) (hu : P.underlying ty = some (.slice e)) (hc : w.cell? ad = some v) :
    (execOp a.eval o).run P w = .ok (.value v) w := by
  have h2 : (isAgg ty).run P w = .ok false w := by
    unfold isAgg
    rw [Sem.run_bind, run_underlying hu w]; simp
  unfold execOp
  simp only [ho, hx, Instr.loadAt, Instr.sureAddr, Sem.run_bind, Sem.run_pure, Result.andThen_ok, loadVar, h2]
  simp [go_sem, hc]
theorem range4 {w : World} {g : Nat} {x0 x1 x2 x3 : Value} (h : w.cell? ⟨g, 0, none⟩ = some x0 ∧ w.cell? ⟨g, 1, none⟩ = some x1 ∧ w.cell? ⟨g, 2, none⟩ = some x2 ∧ w.cell? ⟨g, 3, none⟩ = some x3) : w.rangeAt g 0 [x0, x1, x2, x3] := by
  intro j u hj
  match j with
  | 0 => simp only [List.getElem?_cons_zero, Option.some.injEq] at hj; subst hj; exact h.1
  | 1 => simp only [List.getElem?_cons_succ, List.getElem?_cons_zero, Option.some.injEq] at hj; subst hj; exact h.2.1
  | 2 => simp only [List.getElem?_cons_succ, List.getElem?_cons_zero, Option.some.injEq] at hj; subst hj; exact h.2.2.1
  | 3 => simp only [List.getElem?_cons_succ, List.getElem?_cons_zero, Option.some.injEq] at hj; subst hj; exact h.2.2.2
  | j + 4 => simp at hj
theorem range2 {w : World} {g off : Nat} {x0 x1 : Value} (h0 : w.cell? ⟨g, off, none⟩ = some x0) (h1 : w.cell? ⟨g, off + 1, none⟩ = some x1) : w.rangeAt g off [x0, x1] := by
  intro j u hj
  match j with
  | 0 => simp only [List.getElem?_cons_zero, Option.some.injEq] at hj; subst hj; exact h0
  | 1 => simp only [List.getElem?_cons_succ, List.getElem?_cons_zero, Option.some.injEq] at hj; subst hj; exact h1
  | j + 2 => simp at hj
theorem RdB.at {w : World} {ao : Option Addr} {n c : Nat} {bs : List (Nat × List En)} (h : RdB w (.slice ao n c) bs) (i : Nat) (hi : i < bs.length) : ∃ b off y, ao = some ⟨b, off, none⟩ ∧ w.cell? ⟨b, off + i * 2, none⟩ = some (.int .u64 (bs[i].1 : Int)) ∧ w.cell? ⟨b, off + i * 2 + 1, none⟩ = some y ∧ RdN w y bs[i].2 := by
  obtain ⟨ao', cap, ts, h1, h2, h3, h4, h5, h6⟩ := h
  cases h1
  have hl : bs.length = ts.length := by rw [h2]; simp
  obtain ⟨b, off, rfl, hc⟩ := h6 (by omega)
  have hi' : i < ts.length := by omega
  obtain ⟨c1, c2⟩ := hc i hi'
  have e1 : bs[i] = (ts[i].1, ts[i].2.2) := by simp [h2]
  exact ⟨b, off, ts[i].2.1, rfl, by rw [e1]; exact c1, c2, by rw [e1]; exact h5 _ (List.getElem_mem _)⟩
theorem RdB.shape {w : World} {v : Value} {bs : List (Nat × List En)} (h : RdB w v bs) : ∃ ao c, v = .slice ao bs.length c ∧ bs.length ≤ c ∧ c ≤ 9223372036854775807 := by
  obtain ⟨ao, cap, ts, rfl, h2, h3, h4, _⟩ := h
  have hl : bs.length = ts.length := by rw [h2]; simp
  exact ⟨ao, cap, by rw [hl], by omega, h4⟩

set_option maxRecDepth 100000 in
set_option maxHeartbeats 4000000 in
theorem begins_any (a b c : Nat) (z : Int) (sv av tv : Value) (Bs Ds : List (Nat × List En)) (xs : List Nat) (k : Nat) (w : World) (hs : RdB w sv Bs) (ha : RdB w av Ds) (ht : RdJ w tv xs) (hB : Bs = Ds.take k) (hk : k ≤ Ds.length) (hkx : k < xs.length) (hxs : xs.length ≤ 9223372036854775807) :
    Calls Tryz.prog 26 #[.agg #[.int .u64 a, .int .u64 b, .int .u64 c, .int .i64 z, sv, .int .i64 (xs[k] : Nat)], .agg #[.int .u64 a, .int .u64 b, .int .u64 c, .int .i64 z], av, .int .i64 k, tv] w fun e w' => e = .returned (.bool true) ∧ Kept [] w w' := by
  have HS := hide hs
  have HA := hide ha
  obtain ⟨aS, cs, rfl, hcs1, hcs2⟩ := hs.shape
  obtain ⟨aa, ca, rfl, hca1, hca2⟩ := ha.shape
  obtain ⟨bt, ct, rfl, hct, hcell⟩ := ht
  have hBl : Bs.length = k := by rw [hB, List.length_take]; omega
  have HBl := hide hBl
  have HB := hide hB
  obtain ⟨U, hU⟩ : ∃ U, xs[k] = U := ⟨_, rfl⟩
  have HX := hide (by rw [← hU]; exact hcell k hkx : w.cell? ⟨bt, k, none⟩ = some (.int .i64 (U : Int)))
  rw [hU]
  rw [hBl]
  clear hs ha hcell hU hB
  have hcs3 : k ≤ cs := by omega
  clear hBl hcs1
  have HQ0 := hide (scells (((Kept.refl [] (w.alloc (.cells #[.int .u64 (a : Int), .int .u64 (b : Int), .int .u64 (c : Int), .int .i64 z, .slice aS k cs, .int .i64 (U : Int)] 51))).alloc (.cells #[.int .u64 (a : Int), .int .u64 (b : Int), .int .u64 (c : Int), .int .i64 z] 32)).heap (heap_alloc_new w (.cells #[.int .u64 (a : Int), .int .u64 (b : Int), .int .u64 (c : Int), .int .i64 z, .slice aS k cs, .int .i64 (U : Int)] 51)) (by simp)))
  have HH0 := hide (hcells (alloc_at w (.cells #[.int .u64 (a : Int), .int .u64 (b : Int), .int .u64 (c : Int), .int .i64 z, .slice aS k cs, .int .i64 (U : Int)] 51) (.cells #[.int .u64 (a : Int), .int .u64 (b : Int), .int .u64 (c : Int), .int .i64 z] 32)))
  have HK0 := hide (((Kept.refl [] w).alloc (.cells #[.int .u64 (a : Int), .int .u64 (b : Int), .int .u64 (c : Int), .int .i64 z, .slice aS k cs, .int .i64 (U : Int)] 51)).alloc (.cells #[.int .u64 (a : Int), .int .u64 (b : Int), .int .u64 (c : Int), .int .i64 z] 32))
  go_enter Tryz.func26, Tryz.ntmps26
  go_upto_region 1 with fail
  obtain ⟨W0, hW0⟩ : ∃ W, (w.alloc (.cells #[.int .u64 (a : Int), .int .u64 (b : Int), .int .u64 (c : Int), .int .i64 z, .slice aS k cs, .int .i64 (U : Int)] 51)).alloc (.cells #[.int .u64 (a : Int), .int .u64 (b : Int), .int .u64 (c : Int), .int .i64 z] 32) = W := ⟨_, rfl⟩
  rw [hW0] at HQ0 HH0 HK0 ⊢
  clear hW0
  have hnp : ∀ p : Prop, (∀ w', Kept [] W0 w' → p) = p := fun p => propext ⟨fun h => h W0 (Kept.refl [] W0), fun h _ _ => h⟩
  have HR1 := hide (range4 ⟨(unhide HQ0).1, (unhide HQ0).2.1, (unhide HQ0).2.2.1, (unhide HQ0).2.2.2.1⟩)
  have HR2 := hide (range4 (unhide HH0))
  refine wp_region_keep (by kernel_rfl) (by kernel_rfl) ?_
  iterate 1 (go_big_quiet_step (fail))
  refine wpQuiet_mid rfl 32 _ rfl w.heap.size 0 rfl [.int .u64 (a : Int), .int .u64 (b : Int), .int .u64 (c : Int), .int .i64 z] _ (fun w' hw' => rangeE_kept (unhide HR1) hw' (by simp)) Tryz.underlying32 rfl Tryz.size_head ?_
  simp only [Act.put, List.setIfInBounds_toArray, List.set_cons_succ, List.set_cons_zero]
  refine wpQuiet_mid rfl 32 _ rfl (w.heap.size + 1) 0 rfl [.int .u64 (a : Int), .int .u64 (b : Int), .int .u64 (c : Int), .int .i64 z] _ (fun w' hw' => rangeE_kept (unhide HR2) hw' (by simp)) Tryz.underlying32 rfl Tryz.size_head ?_
  simp only [Act.put, List.setIfInBounds_toArray, List.set_cons_succ, List.set_cons_zero]
  refine wpQuiet_val rfl (.bool false) (fun w' _ => by go_simp) ?_
  simp only [Act.put, List.setIfInBounds_toArray, List.set_cons_succ, List.set_cons_zero]
  iterate 2 (go_big_quiet_step (fail))
  refine wpQuiet_val rfl (.slice aS k cs) (fun w' hw' => run_loadS 49 _ rfl ⟨w.heap.size, 4, none⟩ rfl w' _ _ Tryz.underlying49 (hw'.cell (unhide HQ0).2.2.2.2.1 (by simp))) ?_
  simp only [Act.put, List.setIfInBounds_toArray, List.set_cons_succ, List.set_cons_zero]
  iterate 6 (go_big_quiet_step (fail))
  refine wpQuiet_val rfl (.int .i64 (U : Int)) (fun w' hw' => run_load1 3 _ rfl ⟨w.heap.size, 5, none⟩ rfl w' _ .i64 (by kernel_rfl) (hw'.cell (unhide HQ0).2.2.2.2.2 (by simp))) ?_
  simp only [Act.put, List.setIfInBounds_toArray, List.set_cons_succ, List.set_cons_zero]
  iterate 3 (go_big_quiet_step (fail))
  refine wpQuiet_val rfl (.int .i64 (U : Int)) (fun w' hw' => run_load1 3 _ rfl ⟨bt, k, none⟩ (by simp [go_sem]) w' _ .i64 (by kernel_rfl) (((unhide HK0).trans hw' (by simp)).cell (unhide HX) (by simp))) ?_
  simp only [Act.put, List.setIfInBounds_toArray, List.set_cons_succ, List.set_cons_zero]
  repeat (go_big_quiet_step (fail))
  refine wpQuiet_nil ?_
  intro w6 hw6
  have HK6 := hide ((unhide HK0).trans hw6 (by simp))
  have HS4 := hide (hw6.cell (unhide HQ0).2.2.2.2.1 (by simp))
  clear hw6 hnp HR1 HR2 HH0
  go_wp2_with fail
  go_loopw [11] (fun t11 wr => ∃ i : Nat, t11 = .int .i64 (i : Int) ∧ i ≤ k ∧ Hid (Kept [] w wr) ∧ Hid (wr.cell? ⟨w.heap.size, 4, none⟩ = some (.slice aS k cs))) (fun t _ => k - (intOf t).toNat)
  case atStart => exact ⟨0, rfl, Nat.zero_le _, HK6, HS4⟩
  case round =>
    obtain ⟨i, rfl, hi, HKr, HSr⟩ := hrel
    by_cases hik : i < k
    · have hlt : (i : Int) < (k : Int) := by omega
      obtain ⟨b1, o1, y1, h1, p0, p1, hy1⟩ := ((unhide HS).old (unhide HKr)).at i (by rw [unhide HBl]; exact hik)
      obtain ⟨b2, o2, y2, h2, q0, q1, hy2⟩ := ((unhide HA).old (unhide HKr)).at i (by omega)
      subst h1
      subst h2
      have hel : Bs[i]'(by rw [unhide HBl]; exact hik) = Ds[i]'(by omega) := by simp [unhide HB]
      rw [hel] at p0 hy1
      clear hel
      generalize Ds[i] = t at p0 hy1 q0 hy2
      obtain ⟨a1, n1, c1, _, _, hv1, _⟩ := id hy1
      subst hv1
      obtain ⟨a2, n2, c2, _, _, hv2, _⟩ := id hy2
      subst hv2
      have HG1 := hide (range2 p0 p1)
      have HG2 := hide (range2 q0 q1)
      have HY := hide (fun w' (kk : Kept [] wr w') => (sameBatch_any t.1 t.1 _ _ t.2 t.2 w' (hy1.old kk) (hy2.old kk)).mono (fun e w2 (h2 : _ ∧ _) => (⟨h2.1, kk.trans h2.2 (by simp)⟩ : _ ∧ Kept [] wr w2)))
      rw [show (decide (t.1 = t.1) && decide (t.2 = t.2)) = true by simp] at HY
      clear p0 p1 q0 q1 hy1 hy2
      have hnp : ∀ p : Prop, (∀ w', Kept [] wr w' → p) = p := fun p => propext ⟨fun h => h wr (Kept.refl [] wr), fun h _ _ => h⟩
      go_upto_region 6 with fail
      refine wp_region_keep (by kernel_rfl) (by kernel_rfl) ?_
      iterate 1 (go_big_quiet_step (fail))
      refine wpQuiet_val rfl (.slice (some ⟨b1, o1, none⟩) k cs) (fun w' hw' => run_loadS 49 _ rfl ⟨w.heap.size, 4, none⟩ rfl w' _ _ Tryz.underlying49 (hw'.cell (unhide HSr) (by simp))) ?_
      simp only [Act.put, List.setIfInBounds_toArray, List.set_cons_succ, List.set_cons_zero]
      iterate 2 (go_big_quiet_step (fail))
      refine wpQuiet_mid rfl 35 _ rfl b1 (o1 + i * 2) rfl [.int .u64 (t.1 : Int), .slice a1 n1 c1] _ (fun w' hw' => rangeE_kept (unhide HG1) hw' (by simp)) Tryz.underlying35 rfl Tryz.size_batch9 ?_
      simp only [Act.put, List.setIfInBounds_toArray, List.set_cons_succ, List.set_cons_zero]
      iterate 3 (go_big_quiet_step (fail))
      refine wpQuiet_mid rfl 35 _ rfl b2 (o2 + i * 2) rfl [.int .u64 (t.1 : Int), .slice a2 n2 c2] _ (fun w' hw' => rangeE_kept (unhide HG2) hw' (by simp)) Tryz.underlying35 rfl Tryz.size_batch9 ?_
      simp only [Act.put, List.setIfInBounds_toArray, List.set_cons_succ, List.set_cons_zero]
      go_big_quiet_want
      go_big_quiet_op
      apply Exists.intro
      refine ⟨fun w' hw' => ?_, ?_⟩
      · exact unhide HY w' hw'
      go_big_quiet_on
      repeat (go_big_quiet_step (fail))
      refine wpQuiet_nil ?_
      intro w7 hw7
      have HK7 := hide ((unhide HKr).trans hw7 (by simp))
      have HS7 := hide (hw7.cell (unhide HSr) (by simp))
      clear hw7 hnp
      go_wp2
      go_roundw
      case rel => exact ⟨i + 1, by simp, by omega, HK7, HS7⟩
      case measure => simp [intOf]; omega
    · have hlt : ¬ (i : Int) < (k : Int) := by omega
      go_wp2
      go_ret
      exact ⟨rfl, unhide HKr⟩
end Go.Proofs.YtckkalmhekfnhaaGreatDoor
namespace Go.Proofs.YtckkalmhekfnhaaGreatDoor
open Go.RowKit Go.BigFrame
set_option linter.unusedVariables false
set_option linter.unusedSimpArgs false

theorem run_loadRow {P : Program} {o : Oper} {a : Act} (ty : TypeId) (x : Operand) (ho : o.op = .load ty x) (g : Nat) (hx : a.eval x = .pointer (some ⟨g, 0, none⟩)) (w : World) (t : TypeId) (cs : Array Value) (fr : Nat × Nat) (d : TypeDesc) (hg : w.heap[g]? = some (.cells cs t fr))
    (hu : P.underlying ty = some d) (hd : (match d with | .struct _ | .array _ _ => true | _ => false) = true) (hi : (P.info? ty).map (·.size) = some cs.size) : (execOp a.eval o).run P w = .ok (.value (.agg cs)) w := by
  have := run_loadVar_row (P := P) w g t ty cs fr d hg hu hd hi
  unfold execOp
  simp only [ho, hx, Instr.loadAt, Instr.sureAddr, Sem.run_bind, Sem.run_pure, Result.andThen_ok, this]
/-- head's variables: the frame, the result, the head, the reader. -/
structure TH (w W : World) (pl : Nat) (gv : Value) (a b c d i e : Nat) : Prop where
  f : W.heap[w.heap.size]? = some (.cells #[.int .u64 (pl : Int), gv] 91 (0, 0))
  z : W.heap[w.heap.size + 1]? = some (.cells #[.int .u64 0, .int .u64 0, .int .u64 0, .int .i64 0] 41 (0, 0))
  h : W.heap[w.heap.size + 1 + 1]? = some (.cells #[.int .u64 (a : Int), .int .u64 (b : Int), .int .u64 (c : Int), .int .i64 (d : Int)] 41 (0, 0))
  r : W.heap[w.heap.size + 1 + 1 + 1]? = some (.cells #[gv, .int .i64 (i : Int), .int .i64 (e : Int)] 139 (0, 0))
  kept : Kept [] w W
theorem TH.old {w W W' : World} {pl a b c d i e : Nat} {gv : Value} (h : TH w W pl gv a b c d i e) (q : Kept [] W W') : TH w W' pl gv a b c d i e :=
  ⟨q.heap h.f (by simp), q.heap h.z (by simp), q.heap h.h (by simp), q.heap h.r (by simp), h.kept.trans q (by simp)⟩
theorem TH.setR {w W : World} {pl a b c d i e : Nat} {gv : Value} (h : TH w W pl gv a b c d i e) (i' e' : Nat) :
    TH w (((W.setCell ⟨w.heap.size + 1 + 1 + 1, 0, none⟩ gv).setCell ⟨w.heap.size + 1 + 1 + 1, 1, none⟩ (.int .i64 (i' : Int))).setCell ⟨w.heap.size + 1 + 1 + 1, 2, none⟩ (.int .i64 (e' : Int))) pl gv a b c d i' e' := by
  have q := eput3_kept (Kept.refl [w.heap.size + 1 + 1 + 1] W) (w.heap.size + 1 + 1 + 1) (Or.inl (by simp)) gv (.int .i64 (i' : Int)) (.int .i64 (e' : Int))
  exact ⟨q.heap h.f (by intro hm; have := List.mem_singleton.1 hm; omega), q.heap h.z (by intro hm; have := List.mem_singleton.1 hm; omega), q.heap h.h (by intro hm; have := List.mem_singleton.1 hm; omega), eput3_heap h.r _ _ _, eput3_kept h.kept _ (Or.inr (by omega)) _ _ _⟩
theorem TH.setH {w W : World} {pl a b c d i e : Nat} {gv : Value} (h : TH w W pl gv a b c d i e) (j : Nat) (u : Value) (a' b' c' d' : Nat) (hj : (#[.int .u64 (a : Int), .int .u64 (b : Int), .int .u64 (c : Int), .int .i64 (d : Int)] : Array Value).setIfInBounds j u = #[.int .u64 (a' : Int), .int .u64 (b' : Int), .int .u64 (c' : Int), .int .i64 (d' : Int)]) :
    TH w (W.setCell ⟨w.heap.size + 1 + 1, j, none⟩ u) pl gv a' b' c' d' i e := by
  have q := (Kept.refl [w.heap.size + 1 + 1] W).setCell (p := ⟨w.heap.size + 1 + 1, j, none⟩) (Or.inl (by simp)) u
  exact ⟨q.heap h.f (by intro hm; have := List.mem_singleton.1 hm; omega), q.heap h.z (by intro hm; have := List.mem_singleton.1 hm; omega), by rw [← hj]; exact heap_setCell_same W _ j _ 41 _ h.h, q.heap h.r (by intro hm; have := List.mem_singleton.1 hm; omega), h.kept.setCell (Or.inr (by show w.heap.size ≤ w.heap.size + 1 + 1; omega)) _⟩
theorem TH.start (w : World) (pl : Nat) (gv : Value) : TH w ((((w.alloc (.cells #[.int .u64 (pl : Int), gv] 91)).alloc (.cells #[.int .u64 0, .int .u64 0, .int .u64 0, .int .i64 0] 41)).alloc (.cells #[.int .u64 0, .int .u64 0, .int .u64 0, .int .i64 0] 41)).alloc (.cells #[gv, .int .i64 0, .int .i64 0] 139)) pl gv 0 0 0 0 0 0 := by
  have h3 := heap_alloc3e w (.cells #[.int .u64 (pl : Int), gv] 91) (.cells #[.int .u64 0, .int .u64 0, .int .u64 0, .int .i64 0] 41) (.cells #[.int .u64 0, .int .u64 0, .int .u64 0, .int .i64 0] 41)
  have h4 := heap_alloc_new (((w.alloc (.cells #[.int .u64 (pl : Int), gv] 91)).alloc (.cells #[.int .u64 0, .int .u64 0, .int .u64 0, .int .i64 0] 41)).alloc (.cells #[.int .u64 0, .int .u64 0, .int .u64 0, .int .i64 0] 41)) (.cells #[gv, .int .i64 0, .int .i64 0] 139)
  have q := (Kept.refl [] (((w.alloc (.cells #[.int .u64 (pl : Int), gv] 91)).alloc (.cells #[.int .u64 0, .int .u64 0, .int .u64 0, .int .i64 0] 41)).alloc (.cells #[.int .u64 0, .int .u64 0, .int .u64 0, .int .i64 0] 41))).alloc (.cells #[gv, .int .i64 0, .int .i64 0] 139)
  exact ⟨q.heap h3.1 (by simp), q.heap h3.2.1 (by simp), q.heap h3.2.2 (by simp), by simpa using h4, ((((Kept.refl [] w).alloc _).alloc _).alloc _).alloc _⟩

set_option maxRecDepth 100000 in
set_option maxHeartbeats 2000000 in
theorem refHead_any (pl : Nat) (v : Value) (pay : List Nat) (w : World) (hv : Rd w v pay) (hpl : pl < 18446744073709551616) (hl : pay.length ≤ 65535) :
    Calls Tryz.prog 45 #[.agg #[.int .u64 pl, v]] w fun e w' => ∃ a b c d : Nat, e = .returned (.tuple #[.agg #[.int .u64 a, .int .u64 b, .int .u64 c, .int .i64 d], .bool (payH pl pay)]) ∧ (payH pl pay = true → a = beL ((pay.drop 5).take 8) ∧ b = beL ((pay.drop 13).take 8) ∧ c = beL ((pay.drop 21).take 8) ∧ d = pay.getD 29 0) ∧ Kept [] w w' := by
  have H := hide hv
  obtain ⟨a1, n1, c1, hv1, hn1, _⟩ := id hv
  subst hv1
  subst hn1
  have HBY := hide hv.byte
  clear hv
  obtain ⟨PH, hPH⟩ : ∃ PH, payH pl pay = PH := ⟨_, rfl⟩
  have HP0 := hide hPH
  rw [hPH]
  clear hPH
  go_enter Tryz.func45, Tryz.ntmps45
  have HT0 := hide (TH.start w pl (.slice a1 pay.length c1))
  go_wp2_with fail
  refine Calls.mono (takeRaw_any a1 c1 pay 0 0 5 _ (by exact (unhide H).old (unhide HT0).kept (by simp)) (by omega) (by omega)) ?_
  rintro r w1 ⟨rv, rfl, _, k1, _⟩
  have hli1 := rRaw_le (p := pay) (i := 0) (e := 0) (n := 5) (by omega)
  obtain ⟨x, hx⟩ : ∃ x, rRaw pay 0 0 5 = x := ⟨_, rfl⟩
  have HX0 := hide hx
  rw [hx] at hli1 ⊢
  clear hx
  obtain ⟨raw, i0, e0⟩ := x
  simp only at hli1 ⊢
  have HT1 := hide ((unhide HT0).old k1)
  clear k1 HT0
  obtain ⟨⟨s0, s1, s2⟩, t0, t1, t2⟩ := three (unhide HT1).r
  have HTA := hide ((unhide HT1).setR i0 e0)
  go_wp2_with fail
  clear s0 s1 s2 t0 t1 t2 HT1
  obtain ⟨WA, hWA⟩ : ∃ W, (((w1.setCell ⟨w.heap.size + 1 + 1 + 1, 0, none⟩ (.slice a1 pay.length c1)).setCell ⟨w.heap.size + 1 + 1 + 1, 1, none⟩ (.int .i64 (i0 : Int))).setCell ⟨w.heap.size + 1 + 1 + 1, 2, none⟩ (.int .i64 (e0 : Int))) = W := ⟨_, rfl⟩
  rw [hWA] at HTA ⊢
  clear hWA
  refine Calls.mono (takeWide_any a1 c1 pay i0 e0 8 WA ((unhide H).old (unhide HTA).kept (by simp)) hli1 (by omega)) ?_
  rintro r v1 ⟨rfl, k2⟩
  have hli2 := rNum_le (e := e0) (n := 8) hli1
  obtain ⟨x, hx⟩ : ∃ x, rNum pay i0 e0 8 = x := ⟨_, rfl⟩
  have HX1 := hide hx
  rw [hx] at hli2 ⊢
  clear hx
  obtain ⟨a, i1, e1⟩ := x
  simp only at hli2 ⊢
  have HU1 := hide ((unhide HTA).old k2)
  clear k2 HTA
  obtain ⟨⟨s0, s1, s2⟩, t0, t1, t2⟩ := three (unhide HU1).r
  have hc0 : v1.cell? ⟨w.heap.size + 1 + 1, 0, none⟩ = some (.int .u64 0) := by rw [cell_of_row _ _ _ _ _ _ (unhide HU1).h]; rfl
  have hf0 : v1.frozen? ⟨w.heap.size + 1 + 1, 0, none⟩ = false := frozen_of_row _ _ _ _ _ (unhide HU1).h
  have HV1 := hide (((unhide HU1).setH 0 (.int .u64 (a : Int)) a 0 0 0 rfl).setR i1 e1)
  go_wp2_with fail
  clear s0 s1 s2 t0 t1 t2 hc0 hf0 HU1
  obtain ⟨W1, hW⟩ : ∃ W, ((((v1.setCell ⟨w.heap.size + 1 + 1, 0, none⟩ (.int .u64 (a : Int))).setCell ⟨w.heap.size + 1 + 1 + 1, 0, none⟩ (.slice a1 pay.length c1)).setCell ⟨w.heap.size + 1 + 1 + 1, 1, none⟩ (.int .i64 (i1 : Int))).setCell ⟨w.heap.size + 1 + 1 + 1, 2, none⟩ (.int .i64 (e1 : Int))) = W := ⟨_, rfl⟩
  rw [hW] at HV1 ⊢
  clear hW
  refine Calls.mono (takeWide_any a1 c1 pay i1 e1 8 W1 ((unhide H).old (unhide HV1).kept (by simp)) hli2 (by omega)) ?_
  rintro r v2 ⟨rfl, k2⟩
  have hli3 := rNum_le (e := e1) (n := 8) hli2
  obtain ⟨x, hx⟩ : ∃ x, rNum pay i1 e1 8 = x := ⟨_, rfl⟩
  have HX2 := hide hx
  rw [hx] at hli3 ⊢
  clear hx
  obtain ⟨b, i2, e2⟩ := x
  simp only at hli3 ⊢
  have HU2 := hide ((unhide HV1).old k2)
  clear k2 HV1
  obtain ⟨⟨s0, s1, s2⟩, t0, t1, t2⟩ := three (unhide HU2).r
  have hc0 : v2.cell? ⟨w.heap.size + 1 + 1, 1, none⟩ = some (.int .u64 0) := by rw [cell_of_row _ _ _ _ _ _ (unhide HU2).h]; rfl
  have hf0 : v2.frozen? ⟨w.heap.size + 1 + 1, 1, none⟩ = false := frozen_of_row _ _ _ _ _ (unhide HU2).h
  have HV2 := hide (((unhide HU2).setH 1 (.int .u64 (b : Int)) a b 0 0 rfl).setR i2 e2)
  go_wp2_with fail
  clear s0 s1 s2 t0 t1 t2 hc0 hf0 HU2
  obtain ⟨W2, hW⟩ : ∃ W, ((((v2.setCell ⟨w.heap.size + 1 + 1, 1, none⟩ (.int .u64 (b : Int))).setCell ⟨w.heap.size + 1 + 1 + 1, 0, none⟩ (.slice a1 pay.length c1)).setCell ⟨w.heap.size + 1 + 1 + 1, 1, none⟩ (.int .i64 (i2 : Int))).setCell ⟨w.heap.size + 1 + 1 + 1, 2, none⟩ (.int .i64 (e2 : Int))) = W := ⟨_, rfl⟩
  rw [hW] at HV2 ⊢
  clear hW
  refine Calls.mono (takeWide_any a1 c1 pay i2 e2 8 W2 ((unhide H).old (unhide HV2).kept (by simp)) hli3 (by omega)) ?_
  rintro r v3 ⟨rfl, k2⟩
  have hli4 := rNum_le (e := e2) (n := 8) hli3
  obtain ⟨x, hx⟩ : ∃ x, rNum pay i2 e2 8 = x := ⟨_, rfl⟩
  have HX3 := hide hx
  rw [hx] at hli4 ⊢
  clear hx
  obtain ⟨c, i3, e3⟩ := x
  simp only at hli4 ⊢
  have HU3 := hide ((unhide HV2).old k2)
  clear k2 HV2
  obtain ⟨⟨s0, s1, s2⟩, t0, t1, t2⟩ := three (unhide HU3).r
  have hc0 : v3.cell? ⟨w.heap.size + 1 + 1, 2, none⟩ = some (.int .u64 0) := by rw [cell_of_row _ _ _ _ _ _ (unhide HU3).h]; rfl
  have hf0 : v3.frozen? ⟨w.heap.size + 1 + 1, 2, none⟩ = false := frozen_of_row _ _ _ _ _ (unhide HU3).h
  have HV3 := hide (((unhide HU3).setH 2 (.int .u64 (c : Int)) a b c 0 rfl).setR i3 e3)
  go_wp2_with fail
  clear s0 s1 s2 t0 t1 t2 hc0 hf0 HU3
  obtain ⟨W3, hW⟩ : ∃ W, ((((v3.setCell ⟨w.heap.size + 1 + 1, 2, none⟩ (.int .u64 (c : Int))).setCell ⟨w.heap.size + 1 + 1 + 1, 0, none⟩ (.slice a1 pay.length c1)).setCell ⟨w.heap.size + 1 + 1 + 1, 1, none⟩ (.int .i64 (i3 : Int))).setCell ⟨w.heap.size + 1 + 1 + 1, 2, none⟩ (.int .i64 (e3 : Int))) = W := ⟨_, rfl⟩
  rw [hW] at HV3 ⊢
  clear hW
  refine Calls.mono (takeWide_any a1 c1 pay i3 e3 1 W3 ((unhide H).old (unhide HV3).kept (by simp)) hli4 (by omega)) ?_
  rintro r v4 ⟨rfl, k2⟩
  have hdl : (rNum pay i3 e3 1).1 < 256 := rNum_byte (unhide HBY)
  obtain ⟨x, hx⟩ : ∃ x, rNum pay i3 e3 1 = x := ⟨_, rfl⟩
  have HX4 := hide hx
  rw [hx] at hdl ⊢
  clear hx
  obtain ⟨d, i4, e4⟩ := x
  simp only at hdl ⊢
  have HU4 := hide ((unhide HV3).old k2)
  clear k2 HV3
  obtain ⟨⟨s0, s1, s2⟩, t0, t1, t2⟩ := three (unhide HU4).r
  have hc0 : v4.cell? ⟨w.heap.size + 1 + 1, 3, none⟩ = some (.int .i64 0) := by rw [cell_of_row _ _ _ _ _ _ (unhide HU4).h]; rfl
  have hf0 : v4.frozen? ⟨w.heap.size + 1 + 1, 3, none⟩ = false := frozen_of_row _ _ _ _ _ (unhide HU4).h
  have HV4 := hide (((unhide HU4).setR i4 e4).setH 3 (.int .i64 (d : Int)) a b c d rfl)
  have hcv : IntKind.i64.wrap (d : Int) = d := wrap_small hdl
  go_upto_region 9 with fail
  clear s0 s1 s2 t0 t1 t2 hc0 hf0 HU4
  obtain ⟨W, hW⟩ : ∃ W, ((((v4.setCell ⟨w.heap.size + 1 + 1 + 1, 0, none⟩ (.slice a1 pay.length c1)).setCell ⟨w.heap.size + 1 + 1 + 1, 1, none⟩ (.int .i64 (i4 : Int))).setCell ⟨w.heap.size + 1 + 1 + 1, 2, none⟩ (.int .i64 (e4 : Int))).setCell ⟨w.heap.size + 1 + 1, 3, none⟩ (.int .i64 (d : Int))) = W := ⟨_, rfl⟩
  rw [hW] at HV4 ⊢
  clear hW hcv
  have HCH := hide (headChain (unhide HX0) (unhide HX1) (unhide HX2) (unhide HX3) (unhide HX4))
  have HAL := hide (rNum_lt (unhide HX1))
  have HBL := hide (rNum_lt (unhide HX2))
  have HCL := hide (rNum_lt (unhide HX3))
  clear HX0 HX1 HX2 HX3 HX4 hli1 hli2 hli3 hli4
  have HC9 := hide (fun w' (k : Kept [] W w') => by
    have h9 := (unhide HV4).old k
    refine ⟨?_, ?_, h9.h, ?_, ?_⟩
    · rw [cell_of_row _ _ _ _ _ _ h9.r]; rfl
    · rw [cell_of_row _ _ _ _ _ _ h9.h]; rfl
    · rw [cell_of_row _ _ _ _ _ _ h9.f]; rfl
    · rw [cell_of_row _ _ _ _ _ _ h9.f]; rfl : ∀ w', Kept [] W w' → w'.cell? ⟨w.heap.size + 1 + 1 + 1, 2, none⟩ = some (.int .i64 (e4 : Int)) ∧ w'.cell? ⟨w.heap.size + 1 + 1, 3, none⟩ = some (.int .i64 (d : Int)) ∧ w'.heap[w.heap.size + 1 + 1]? = some (.cells #[.int .u64 (a : Int), .int .u64 (b : Int), .int .u64 (c : Int), .int .i64 (d : Int)] 41 (0, 0)) ∧ w'.cell? ⟨w.heap.size, 0, none⟩ = some (.int .u64 (pl : Int)) ∧ w'.cell? ⟨w.heap.size, 1, none⟩ = some (.slice a1 pay.length c1))
  have HEND := hide (fun (w9 : World) (k : Kept [] W w9) => (unhide HV4).old k)
  have hnp : ∀ p : Prop, (∀ w', Kept [] W w' → p) = p := fun p => propext ⟨fun h => h W (Kept.refl [] W), fun h _ _ => h⟩
  by_cases he : e4 = 0
  · subst he
    obtain ⟨h30, ea, eb, ec, ed⟩ := (unhide HCH).1 rfl
    have HPH := hide (by rw [← unhide HP0]; exact head_ok (pl := pl) (unhide HBY) hpl h30 hl ea eb ec ed : PH = (wideB (d : Int) && decide (frB a (headB a b c d) = frB pl pay)))
    have HVV := hide (⟨ea, eb, ec, by rw [ed]; exact beL_one (unhide HBY) (by omega)⟩ : a = beL ((pay.drop 5).take 8) ∧ b = beL ((pay.drop 13).take 8) ∧ c = beL ((pay.drop 21).take 8) ∧ d = pay.getD 29 0)
    have HC := hide (unhide HC9)
    clear ea eb ec ed h30 HCH HC9
    rw [show (((0 : Nat) : Int)) = 0 from rfl] at HC
    by_cases hw : wideB (d : Int) = true
    · rw [hw, Bool.true_and] at HPH
      have HWD := hide hw
      clear hw hnp
      refine wp_hd19 (by kernel_rfl) (by kernel_rfl) (by kernel_rfl) (by kernel_rfl) (by kernel_rfl) (by kernel_rfl) (by kernel_rfl) (by kernel_rfl) (by kernel_rfl) (by kernel_rfl) (by kernel_rfl) (by kernel_rfl) (by kernel_rfl) (by kernel_rfl) (by kernel_rfl) (by kernel_rfl) (by kernel_rfl) (by kernel_rfl) (by kernel_rfl) (by kernel_rfl) (by kernel_rfl) (by kernel_rfl) (by kernel_rfl) (by kernel_rfl) (by kernel_rfl) (by kernel_rfl) (by kernel_rfl) (by kernel_rfl) (by kernel_rfl) (by kernel_rfl) (by kernel_rfl) (by kernel_rfl) (by kernel_rfl) (by kernel_rfl) (by kernel_rfl) (by kernel_rfl) (by kernel_rfl) (by simp) (by simp) (by simp) (by simp)
        (.pointer (some ⟨w.heap.size + 1 + 1 + 1, 2, none⟩)) (.int .i64 0) (.bool true) (.bool true) (.pointer (some ⟨w.heap.size + 1 + 1, 3, none⟩)) (.int .i64 (d : Int)) _ _ _ _ _ _
        (fun w' => Kept [] W w')
        (fun w' => Kept [] W w')
        (fun u6 w' => u6 = .bool true ∧ Kept [] W w')
        (fun u6 u10 w' => u6 = .bool true ∧ Kept [] W w' ∧ Rd w' u10 (frB a (headB a b c d)))
        (fun u6 u10 u15 w' => u6 = .bool true ∧ Kept [] W w' ∧ Rd w' u10 (frB a (headB a b c d)) ∧ Rd w' u15 (frB pl pay))
        (fun u6 u10 u15 u16 w' => u6 = .bool true ∧ u16 = .bool PH ∧ Kept [] W w')
        (fun u6 => .bool true) (fun u6 => .bool true) (fun u6 => .agg #[.int .u64 (a : Int), .int .u64 (b : Int), .int .u64 (c : Int), .int .i64 (d : Int)]) (fun u6 => .pointer (some ⟨w.heap.size, 0, none⟩)) (fun u6 => .int .u64 (pl : Int)) (fun u6 => .pointer (some ⟨w.heap.size, 1, none⟩)) (fun u6 => .slice a1 pay.length c1) (fun u6 u10 u15 u16 => u16) (fun u6 u10 u15 u16 => u16)
        (by simp only [Act.put, List.setIfInBounds_toArray, List.set_cons_zero, List.set_cons_succ]; rfl) (by exact Or.inl ⟨by rfl, fun W' hW' => by go_simp⟩)
        (by simp only [Act.put, List.setIfInBounds_toArray, List.set_cons_zero, List.set_cons_succ]; rfl) (by exact Or.inl ⟨by rfl, fun W' hW' => run_load1 3 _ rfl ⟨w.heap.size + 1 + 1 + 1, 2, none⟩ rfl W' _ .i64 (by kernel_rfl) (unhide HC W' hW').1⟩)
        (by simp only [Act.put, List.setIfInBounds_toArray, List.set_cons_zero, List.set_cons_succ]; rfl) (by exact Or.inl ⟨by rfl, fun W' hW' => by go_simp⟩)
        (by simp only [Act.put, List.setIfInBounds_toArray, List.set_cons_zero, List.set_cons_succ]; rfl) (by exact Or.inl ⟨by rfl, fun W' hW' => by go_simp⟩)
        (by simp only [Act.put, List.setIfInBounds_toArray, List.set_cons_zero, List.set_cons_succ]; rfl) (by exact Or.inl ⟨by rfl, fun W' hW' => by go_simp⟩)
        (by simp only [Act.put, List.setIfInBounds_toArray, List.set_cons_zero, List.set_cons_succ]; rfl) (by exact Or.inl ⟨by rfl, fun W' hW' => run_load1 3 _ rfl ⟨w.heap.size + 1 + 1, 3, none⟩ rfl W' _ .i64 (by kernel_rfl) (unhide HC W' hW').2.1⟩)
        ((Kept.refl [] W).drew)
        ⟨fun w' h => h, fun u6 w' h => h.2, fun u6 u10 w' h => h.2.1, fun u6 u10 u15 w' h => h.2.1, fun u6 u10 u15 u16 w' h => h.2.2⟩
        (by rfl) (by intros; simp only [Act.put, List.setIfInBounds_toArray, List.set_cons_zero, List.set_cons_succ]; rfl) (by intros; simp only [Act.put, List.setIfInBounds_toArray, List.set_cons_zero, List.set_cons_succ]; rfl) (by intros; simp only [Act.put, List.setIfInBounds_toArray, List.set_cons_zero, List.set_cons_succ]; rfl)
        (by
          rintro w' k0 K hK
          refine wp_callN rfl Tryz.call36 [.int .i64 (d : Int)] rfl (wide5_any (d : Int) w') ?_
          rintro e w2 ⟨rfl, rfl⟩
          exact ⟨_, rfl, hK _ _ ⟨by rw [unhide HWD], k0⟩⟩)
        (by
          rintro u6 w' ⟨rfl, k0⟩ K hK
          simp only [Act.put, List.setIfInBounds_toArray, List.set_cons_zero, List.set_cons_succ] at hK ⊢
          refine wp_callN rfl Tryz.call37 [.agg #[.int .u64 (a : Int), .int .u64 (b : Int), .int .u64 (c : Int), .int .i64 (d : Int)]] rfl (headBytes_any a b c (d : Int) w' (unhide HAL) (unhide HBL) (unhide HCL) (by omega)) ?_
          rintro e w2 ⟨v2, rfl, r2, k2⟩
          exact ⟨_, rfl, hK _ _ ⟨trivial, k0.trans k2 (by simp), r2⟩⟩)
        (by
          rintro u6 u10 w' ⟨rfl, k0, r10⟩ K hK
          simp only [Act.put, List.setIfInBounds_toArray, List.set_cons_zero, List.set_cons_succ] at hK ⊢
          refine wp_callN rfl Tryz.call41 [.int .u64 (pl : Int), .slice a1 pay.length c1] rfl (refLaid_any pl _ pay w' ((unhide H).old ((unhide HV4).kept.trans k0 (by simp)) (by simp)) hpl (by omega)) ?_
          rintro e w2 ⟨v2, rfl, r2, k2, _⟩
          exact ⟨_, rfl, hK _ _ ⟨trivial, k0.trans k2 (by simp), r10.old k2 (by simp), r2⟩⟩)
        (by
          rintro u6 u10 u15 w' ⟨rfl, k0, r10, r15⟩ K hK
          simp only [Act.put, List.setIfInBounds_toArray, List.set_cons_zero, List.set_cons_succ] at hK ⊢
          refine wp_callN rfl Tryz.call20 [u10, u15] rfl (same_any u10 u15 _ _ w' r10 r15) ?_
          rintro e w2 ⟨rfl, n2, rfl⟩
          exact ⟨_, rfl, hK _ _ ⟨trivial, by rw [unhide HPH], k0.drewN n2⟩⟩)
        (by rintro u6 w' ⟨rfl, k0⟩; simp only [Act.put, List.setIfInBounds_toArray, List.set_cons_zero, List.set_cons_succ]; exact Or.inl ⟨by rfl, fun W' hW' => by go_simp⟩)
        (by rintro u6 w' ⟨rfl, k0⟩; simp only [Act.put, List.setIfInBounds_toArray, List.set_cons_zero, List.set_cons_succ]; exact Or.inl ⟨by rfl, fun W' hW' => by go_simp⟩)
        (by rintro u6 w' ⟨rfl, k0⟩; simp only [Act.put, List.setIfInBounds_toArray, List.set_cons_zero, List.set_cons_succ]; exact Or.inl ⟨by rfl, fun W' hW' => run_loadRow 41 _ rfl (w.heap.size + 1 + 1) rfl W' 41 _ (0, 0) _ (unhide HC W' hW').2.2.1 Tryz.underlying41 rfl Tryz.size_rhead⟩)
        (by rintro u6 w' ⟨rfl, k0⟩; simp only [Act.put, List.setIfInBounds_toArray, List.set_cons_zero, List.set_cons_succ]; exact Or.inl ⟨by rfl, fun W' hW' => by go_simp⟩)
        (by rintro u6 w' ⟨rfl, k0⟩; simp only [Act.put, List.setIfInBounds_toArray, List.set_cons_zero, List.set_cons_succ]; exact Or.inl ⟨by rfl, fun W' hW' => run_load1 22 _ rfl ⟨w.heap.size, 0, none⟩ rfl W' _ .u64 Tryz.underlying22 (unhide HC W' hW').2.2.2.1⟩)
        (by rintro u6 w' ⟨rfl, k0⟩; simp only [Act.put, List.setIfInBounds_toArray, List.set_cons_zero, List.set_cons_succ]; exact Or.inl ⟨by rfl, fun W' hW' => by go_simp⟩)
        (by rintro u6 w' ⟨rfl, k0⟩; simp only [Act.put, List.setIfInBounds_toArray, List.set_cons_zero, List.set_cons_succ]; exact Or.inl ⟨by rfl, fun W' hW' => run_loadS 36 _ rfl ⟨w.heap.size, 1, none⟩ rfl W' _ _ Tryz.underlying36 (unhide HC W' hW').2.2.2.2⟩)
        (by rintro u6 u10 u15 u16 w' ⟨rfl, rfl, k0⟩; simp only [Act.put, List.setIfInBounds_toArray, List.set_cons_zero, List.set_cons_succ]; exact Or.inl ⟨by rfl, fun W' hW' => by go_simp⟩)
        (by rintro u6 u10 u15 u16 w' ⟨rfl, rfl, k0⟩; simp only [Act.put, List.setIfInBounds_toArray, List.set_cons_zero, List.set_cons_succ]; exact Or.inl ⟨by rfl, fun W' hW' => by go_simp⟩)
        ?_
      rintro u6 u10 u15 u16 w9 ⟨rfl, rfl, k9⟩
      simp only [Act.put, List.setIfInBounds_toArray, List.set_cons_zero, List.set_cons_succ]
      have HT9 := hide (unhide HEND w9 k9)
      clear k9 HC
      obtain ⟨d0, d1, d2, d3⟩ := hcells (unhide HT9).h
      obtain ⟨x0, x1, x2, x3⟩ := hcells (unhide HT9).z
      obtain ⟨f0, f1, f2, f3⟩ := hfroz (unhide HT9).z
      go_wp2
      refine bodyPost_ret (v := .tuple #[.agg #[.int .u64 (a : Int), .int .u64 (b : Int), .int .u64 (c : Int), .int .i64 (d : Int)], .bool PH]) ?_ rfl ⟨a, b, c, d, rfl, fun _ => unhide HVV, put4_kept (unhide HT9).kept (w.heap.size + 1) (by omega) _ _ _ _⟩
      exact results_cell_tmp rfl _ _ (w.heap.size + 1) _ #[.int .u64 (a : Int), .int .u64 (b : Int), .int .u64 (c : Int), .int .i64 (d : Int)] (0, 0) _ rfl (put4_heap (unhide HT9).z _ _ _ _) Tryz.underlying41 rfl Tryz.size_rhead _ rfl
    · rw [Bool.not_eq_true] at hw
      rw [hw, Bool.false_and] at HPH
      have HWD := hide hw
      obtain rfl : PH = false := unhide HPH
      clear hw HPH
      have HY := hide (fun w' (k0 : Kept [] W w') => (wide5_any (d : Int) w').mono (fun e w2 (h2 : _ ∧ _) => (⟨by rw [h2.1, unhide HWD], by rw [h2.2]; exact k0⟩ : e = .returned (.bool false) ∧ Kept [] W w2)))
      refine wp_region_keep (by kernel_rfl) (by kernel_rfl) ?_
      iterate 1 (go_big_quiet_step (fail))
      refine wpQuiet_val rfl (.int .i64 0) (fun w' hw' => run_load1 3 _ rfl ⟨w.heap.size + 1 + 1 + 1, 2, none⟩ rfl w' _ .i64 (by kernel_rfl) (unhide HC w' hw').1) ?_
      simp only [Act.put, List.setIfInBounds_toArray, List.set_cons_succ, List.set_cons_zero]
      iterate 3 (go_big_quiet_step (fail))
      refine wpQuiet_val rfl (.int .i64 (d : Int)) (fun w' hw' => run_load1 3 _ rfl ⟨w.heap.size + 1 + 1, 3, none⟩ rfl w' _ .i64 (by kernel_rfl) (unhide HC w' hw').2.1) ?_
      simp only [Act.put, List.setIfInBounds_toArray, List.set_cons_succ, List.set_cons_zero]
      go_big_quiet_want
      go_big_quiet_op
      apply Exists.intro
      refine ⟨fun w' hw' => ?_, ?_⟩
      · exact unhide HY w' hw'
      go_big_quiet_on
      repeat (go_big_quiet_step (fail))
      refine wpQuiet_nil ?_
      intro w9 k9
      have HT9 := hide (unhide HEND w9 k9)
      clear k9 HC hnp
      obtain ⟨d0, d1, d2, d3⟩ := hcells (unhide HT9).h
      obtain ⟨x0, x1, x2, x3⟩ := hcells (unhide HT9).z
      obtain ⟨f0, f1, f2, f3⟩ := hfroz (unhide HT9).z
      go_wp2
      refine bodyPost_ret (v := .tuple #[.agg #[.int .u64 (a : Int), .int .u64 (b : Int), .int .u64 (c : Int), .int .i64 (d : Int)], .bool false]) ?_ rfl ⟨a, b, c, d, rfl, (fun h => nomatch h), put4_kept (unhide HT9).kept (w.heap.size + 1) (by omega) _ _ _ _⟩
      exact results_cell_tmp rfl _ _ (w.heap.size + 1) _ #[.int .u64 (a : Int), .int .u64 (b : Int), .int .u64 (c : Int), .int .i64 (d : Int)] (0, 0) _ rfl (put4_heap (unhide HT9).z _ _ _ _) Tryz.underlying41 rfl Tryz.size_rhead _ rfl
  · obtain rfl : PH = false := by rw [← unhide HP0]; exact head_short (pl := pl) ((unhide HCH).2 he)
    have he' : ((e4 : Int) == 0) = false := by rw [beq_eq_false_iff_ne]; omega
    refine wp_region_keep (by kernel_rfl) (by kernel_rfl) ?_
    iterate 1 (go_big_quiet_step (fail))
    refine wpQuiet_val rfl (.int .i64 (e4 : Int)) (fun w' hw' => run_load1 3 _ rfl ⟨w.heap.size + 1 + 1 + 1, 2, none⟩ rfl w' _ .i64 (by kernel_rfl) (unhide HC9 w' hw').1) ?_
    simp only [Act.put, List.setIfInBounds_toArray, List.set_cons_succ, List.set_cons_zero]
    refine wpQuiet_val rfl (.bool false) (fun w' _ => by unfold execOp; go_simp; try omega) ?_
    simp only [Act.put, List.setIfInBounds_toArray, List.set_cons_succ, List.set_cons_zero]
    repeat (go_big_quiet_step (fail))
    refine wpQuiet_nil ?_
    intro w9 k9
    have HT9 := hide (unhide HEND w9 k9)
    clear k9 HC9 hnp
    obtain ⟨d0, d1, d2, d3⟩ := hcells (unhide HT9).h
    obtain ⟨x0, x1, x2, x3⟩ := hcells (unhide HT9).z
    obtain ⟨f0, f1, f2, f3⟩ := hfroz (unhide HT9).z
    go_wp2
    refine bodyPost_ret (v := .tuple #[.agg #[.int .u64 (a : Int), .int .u64 (b : Int), .int .u64 (c : Int), .int .i64 (d : Int)], .bool false]) ?_ rfl ⟨a, b, c, d, rfl, (fun h => nomatch h), put4_kept (unhide HT9).kept (w.heap.size + 1) (by omega) _ _ _ _⟩
    exact results_cell_tmp rfl _ _ (w.heap.size + 1) _ #[.int .u64 (a : Int), .int .u64 (b : Int), .int .u64 (c : Int), .int .i64 (d : Int)] (0, 0) _ rfl (put4_heap (unhide HT9).z _ _ _ _) Tryz.underlying41 rfl Tryz.size_rhead _ rfl
end Go.Proofs.YtckkalmhekfnhaaGreatDoor
namespace Go.Proofs.YtckkalmhekfnhaaGreatDoor
open Go.RowKit
set_option linter.unusedVariables false
set_option linter.unusedSimpArgs false
attribute [local go_sem ↓] Go.wp_at_zero Go.wp_at_succ

set_option maxRecDepth 100000 in
set_option maxHeartbeats 4000000 in
theorem takeBlob_any (ao : Option Addr) (c : Nat) (p : List Nat) (i e : Nat) (n : Int) (w : World) (h : Rd w (.slice ao p.length c) p) (hi : i ≤ p.length) (hn : -9223372036854775808 ≤ n ∧ n ≤ 9223372036854775807) :
    Calls Tryz.prog 121 #[rrV (.slice ao p.length c) i e, .int .i64 n] w fun r w' => ∃ rv, r = .returned (.tuple #[rv, rrV (.slice ao p.length c) (rBlob p i e n).2.1 (rBlob p i e n).2.2]) ∧ Rd w' rv (rBlob p i e n).1 ∧ Kept [] w w' ∧ ∀ x ∈ blk rv, w.heap.size ≤ x := by
  have hl := h.len
  have HR := hide h
  by_cases he : e = 0
  · subst he
    have HVdef := hide (by simp only [rBlob, ne_eq, not_true_eq_false, if_false] : rBlob p i 0 n = if n < 0 then ([], i, 1) else if (fuv (p.drop i) 0 0).2 = 0 then ([], i, 3) else if n < (fuv (p.drop i) 0 0).1 then ([], i, 2) else if (p.drop i).length - (fuv (p.drop i) 0 0).2 < (fuv (p.drop i) 0 0).1 then ([], i, 3) else (((p.drop i).drop (fuv (p.drop i) 0 0).2).take (fuv (p.drop i) 0 0).1, i + ((fuv (p.drop i) 0 0).2 + (fuv (p.drop i) 0 0).1), 0))
    have HU0 := hide (by simp [rUvar] : rUvar p i 0 = if (fuv (p.drop i) 0 0).2 = 0 then (0, i, 3) else ((fuv (p.drop i) 0 0).1, i + (fuv (p.drop i) 0 0).2, 0))
    have hfl := fuv_le (p.drop i) 0 0
    have hfx := fuv_lt (p.drop i) 0 0 (by decide) (by decide)
    obtain ⟨x, s, hx⟩ : ∃ x s, fuv (p.drop i) 0 0 = (x, s) := ⟨_, _, rfl⟩
    rw [hx] at HVdef HU0 hfl hfx
    simp only [Nat.zero_add, List.length_drop] at HVdef HU0 hfl hfx
    have hx' : (x : Int) ≤ 18446744073709551615 := by omega
    clear hx h
    by_cases hn0 : n < 0
    · have HV := hide (by rw [unhide HVdef, if_pos hn0] : rBlob p i 0 n = ([], i, 1))
      go_enter Tryz.func121, Tryz.ntmps121
      go_wp2_with fail
      refine (fault_any _ p.length c i 0 1 _).mono ?_
      rintro r w1 ⟨rfl, k1⟩
      obtain ⟨⟨c0, c1, c2⟩, f0, f1, f2⟩ := three (k1.heap (heap_alloc2_new w _ _) (by simp))
      have HK1 := hide ((((Kept.refl [] w).alloc _).alloc _).trans k1 (by simp))
      clear k1
      go_wp2
      refine bodyPost_ret (v := .tuple #[.slice none 0 0, rrV (.slice ao p.length c) i 1]) (by simp [results, Tryz.results121, go_sem, c0, c1, c2]) rfl ?_
      rw [unhide HV]
      exact ⟨_, rfl, Rd.nil _, (((unhide HK1).setCell (by simp) _).setCell (by simp) _).setCell (by simp) _, by simp [blk]⟩
    · obtain ⟨mo, rfl⟩ : ∃ mo : Nat, n = mo := ⟨n.toNat, by omega⟩
      have HV2 := hide (by rw [unhide HVdef, if_neg hn0] : rBlob p i 0 mo = if s = 0 then ([], i, 3) else if (mo : Int) < x then ([], i, 2) else if p.length - i - s < x then ([], i, 3) else (((p.drop i).drop s).take x, i + (s + x), 0))
      have hmo : (0 : Int) ≤ mo := by omega
      have hmo2 : (mo : Int) ≤ 9223372036854775807 := hn.2
      clear HVdef
      by_cases hs0 : s = 0
      · have HV := hide (by rw [unhide HV2, if_pos hs0] : rBlob p i 0 mo = ([], i, 3))
        have HU := hide (by rw [unhide HU0, if_pos hs0] : rUvar p i 0 = (0, i, 3))
        go_enter Tryz.func121, Tryz.ntmps121
        go_wp2_with fail
        refine (takeUvar_any ao c p i 0 _ (by exact (unhide HR).old (((Kept.refl [] w).alloc _).alloc _) (by simp)) hi).mono ?_
        rintro r w1 ⟨rfl, k1⟩
        rw [unhide HU]
        simp only
        obtain ⟨⟨b0, b1, b2⟩, g0, g1, g2⟩ := three (k1.heap (heap_alloc2_old w _ _) (by simp))
        obtain ⟨⟨c0, c1, c2⟩, f0, f1, f2⟩ := three (k1.heap (heap_alloc2_new w _ _) (by simp))
        have HK1 := hide ((((Kept.refl [] w).alloc _).alloc _).trans k1 (by simp))
        have hB0 := hide (k1.heap (heap_alloc2_old w _ _) (by simp))
        have hB1 := hide (k1.heap (heap_alloc2_new w _ _) (by simp))
        have hsz1 : w.heap.size + 1 < w1.heap.size := by have := k1.size; simp at this; omega
        have hsz0 : w.heap.size < w1.heap.size := by omega
        clear k1
        go_wp2_with fail
        refine (fault_any _ p.length c i 0 3 _).mono ?_
        rintro r w2 ⟨rfl, k2⟩
        obtain ⟨⟨d0, d1, d2⟩, e0, e1, e2⟩ := three (k2.heap (Below.heap_alloc w1 _ _ hsz1 ▸ unhide hB1 : (w1.alloc _).heap[w.heap.size + 1]? = _) (by simp))
        have HK2 := hide (((unhide HK1).alloc _).trans k2 (by simp))
        clear k2
        go_wp2
        refine bodyPost_ret (v := .tuple #[.slice none 0 0, rrV (.slice ao p.length c) i 3]) (by simp [results, Tryz.results121, go_sem, d0, d1, d2]) rfl ?_
        rw [unhide HV]
        exact ⟨_, rfl, Rd.nil _, (((unhide HK2).setCell (by simp) _).setCell (by simp) _).setCell (by simp) _, by simp [blk]⟩
      · have HU := hide (by rw [unhide HU0, if_neg hs0] : rUvar p i 0 = (x, i + s, 0))
        by_cases hm : (mo : Int) < x
        · have HV := hide (by rw [unhide HV2, if_neg hs0, if_pos hm] : rBlob p i 0 mo = ([], i, 2))
          go_enter Tryz.func121, Tryz.ntmps121
          go_wp2_with fail
          refine (takeUvar_any ao c p i 0 _ (by exact (unhide HR).old (((Kept.refl [] w).alloc _).alloc _) (by simp)) hi).mono ?_
          rintro r w1 ⟨rfl, k1⟩
          rw [unhide HU]
          simp only
          obtain ⟨⟨b0, b1, b2⟩, g0, g1, g2⟩ := three (k1.heap (heap_alloc2_old w _ _) (by simp))
          obtain ⟨⟨c0, c1, c2⟩, f0, f1, f2⟩ := three (k1.heap (heap_alloc2_new w _ _) (by simp))
          have HK1 := hide ((((Kept.refl [] w).alloc _).alloc _).trans k1 (by simp))
          have hB0 := hide (k1.heap (heap_alloc2_old w _ _) (by simp))
          have hB1 := hide (k1.heap (heap_alloc2_new w _ _) (by simp))
          have hsz1 : w.heap.size + 1 < w1.heap.size := by have := k1.size; simp at this; omega
          have hsz0 : w.heap.size < w1.heap.size := by omega
          clear k1
          go_wp2_with fail
          refine (fault_any _ p.length c i 0 2 _).mono ?_
          rintro r w2 ⟨rfl, k2⟩
          obtain ⟨⟨d0, d1, d2⟩, e0, e1, e2⟩ := three (k2.heap (Below.heap_alloc w1 _ _ hsz1 ▸ unhide hB1 : (w1.alloc _).heap[w.heap.size + 1]? = _) (by simp))
          have HK2 := hide (((unhide HK1).alloc _).trans k2 (by simp))
          clear k2
          go_wp2
          refine bodyPost_ret (v := .tuple #[.slice none 0 0, rrV (.slice ao p.length c) i 2]) (by simp [results, Tryz.results121, go_sem, d0, d1, d2]) rfl ?_
          rw [unhide HV]
          exact ⟨_, rfl, Rd.nil _, (((unhide HK2).setCell (by simp) _).setCell (by simp) _).setCell (by simp) _, by simp [blk]⟩
        · by_cases hlt : p.length - i - s < x
          · have HV := hide (by rw [unhide HV2, if_neg hs0, if_neg hm, if_pos hlt] : rBlob p i 0 mo = ([], i, 3))
            have hlt' : (p.length : Int) - ((i : Int) + s) < x := by omega
            go_enter Tryz.func121, Tryz.ntmps121
            go_wp2_with fail
            refine (takeUvar_any ao c p i 0 _ (by exact (unhide HR).old (((Kept.refl [] w).alloc _).alloc _) (by simp)) hi).mono ?_
            rintro r w1 ⟨rfl, k1⟩
            rw [unhide HU]
            simp only
            obtain ⟨⟨b0, b1, b2⟩, g0, g1, g2⟩ := three (k1.heap (heap_alloc2_old w _ _) (by simp))
            obtain ⟨⟨c0, c1, c2⟩, f0, f1, f2⟩ := three (k1.heap (heap_alloc2_new w _ _) (by simp))
            have HK1 := hide ((((Kept.refl [] w).alloc _).alloc _).trans k1 (by simp))
            have hB0 := hide (k1.heap (heap_alloc2_old w _ _) (by simp))
            have hB1 := hide (k1.heap (heap_alloc2_new w _ _) (by simp))
            have hsz1 : w.heap.size + 1 < w1.heap.size := by have := k1.size; simp at this; omega
            have hsz0 : w.heap.size < w1.heap.size := by omega
            clear k1
            go_wp2_with fail
            refine (fault_any _ p.length c i 0 3 _).mono ?_
            rintro r w2 ⟨rfl, k2⟩
            obtain ⟨⟨d0, d1, d2⟩, e0, e1, e2⟩ := three (k2.heap (Below.heap_alloc w1 _ _ hsz1 ▸ unhide hB1 : (w1.alloc _).heap[w.heap.size + 1]? = _) (by simp))
            have HK2 := hide (((unhide HK1).alloc _).trans k2 (by simp))
            clear k2
            go_wp2
            refine bodyPost_ret (v := .tuple #[.slice none 0 0, rrV (.slice ao p.length c) i 3]) (by simp [results, Tryz.results121, go_sem, d0, d1, d2]) rfl ?_
            rw [unhide HV]
            exact ⟨_, rfl, Rd.nil _, (((unhide HK2).setCell (by simp) _).setCell (by simp) _).setCell (by simp) _, by simp [blk]⟩
          · have HV := hide (by rw [unhide HV2, if_neg hs0, if_neg hm, if_neg hlt] : rBlob p i 0 mo = (((p.drop i).drop s).take x, i + (s + x), 0))
            have hlt' : ¬ (p.length : Int) - ((i : Int) + s) < x := by omega
            have hx47 : (x : Int) ≤ 140737488355328 := by omega
            have HRR := hide (by have h2 : ¬ (p.length : Int) - ((i + s : Nat) : Int) < (x : Int) := (by omega); simp only [rRaw, ne_eq, not_true_eq_false, if_false]; rw [if_neg (by omega), if_neg h2]; simp : rRaw p (i + s) 0 x = ((p.drop (i + s)).take x, i + s + x, 0))
            go_enter Tryz.func121, Tryz.ntmps121
            go_wp2_with fail
            refine (takeUvar_any ao c p i 0 _ (by exact (unhide HR).old (((Kept.refl [] w).alloc _).alloc _) (by simp)) hi).mono ?_
            rintro r w1 ⟨rfl, k1⟩
            rw [unhide HU]
            simp only
            obtain ⟨⟨b0, b1, b2⟩, g0, g1, g2⟩ := three (k1.heap (heap_alloc2_old w _ _) (by simp))
            obtain ⟨⟨c0, c1, c2⟩, f0, f1, f2⟩ := three (k1.heap (heap_alloc2_new w _ _) (by simp))
            have HK1 := hide ((((Kept.refl [] w).alloc _).alloc _).trans k1 (by simp))
            have hB0 := hide (k1.heap (heap_alloc2_old w _ _) (by simp))
            have hB1 := hide (k1.heap (heap_alloc2_new w _ _) (by simp))
            have hsz1 : w.heap.size + 1 < w1.heap.size := by have := k1.size; simp at this; omega
            have hsz0 : w.heap.size < w1.heap.size := by omega
            clear k1
            go_wp2_with fail
            rw [show ((i : Int) + s) = ((i + s : Nat) : Int) from by omega]
            refine (takeRaw_any ao c p (i + s) 0 (x : Int) _ (by exact ((unhide HR).old (unhide HK1) (by simp)).old ((Kept.refl [] w1).alloc _) (by simp)) (by omega) (by omega)).mono ?_
            rintro r w2 ⟨rv, rfl, hr2, k2, hb2⟩
            rw [unhide HRR] at hr2 ⊢
            simp only at hr2
            obtain ⟨⟨d0, d1, d2⟩, e0, e1, e2⟩ := three (k2.heap (Below.heap_alloc w1 _ _ hsz1 ▸ unhide hB1 : (w1.alloc _).heap[w.heap.size + 1]? = _) (by simp))
            have HK2 := hide (((unhide HK1).alloc _).trans k2 (by simp))
            have HRv := hide hr2
            have HBv := hide (fun y (hy : y ∈ blk rv) => (by have := hb2 y hy; simp at this; omega : w1.heap.size < y))
            obtain ⟨ao5, n5, c5, hrv⟩ : ∃ ao n c, rv = .slice ao n c := by obtain ⟨ao, n, c, e, _⟩ := hr2; exact ⟨ao, n, c, e⟩
            subst hrv
            clear hr2 k2 hb2
            go_wp2
            refine bodyPost_ret (v := .tuple #[.slice ao5 n5 c5, rrV (.slice ao p.length c) ((i : Int) + s + x) 0]) (by simp [results, Tryz.results121, go_sem, d0, d1, d2]) rfl ?_
            rw [unhide HV]
            refine ⟨.slice ao5 n5 c5, by simp [Int.add_assoc], ?_, (((unhide HK2).setCell (by simp) _).setCell (by simp) _).setCell (by simp) _, fun y hy => by have := unhide HBv y hy; omega⟩
            rw [List.drop_drop]
            exact (unhide HRv).kept (L := [w.heap.size + 1]) (by repeat (first | exact Kept.refl _ _ | apply Kept.drew | apply Kept.alloc | (refine Kept.setCell ?_ (by simp) _))) (by intro y hy; have := unhide HBv y hy; simp; omega)
  · have he' : ((e : Int) != 0) = true := by rw [bne_iff_ne]; omega
    have HV := hide (by simp [rBlob, he] : rBlob p i e n = ([], i, e))
    clear he h
    go_enter Tryz.func121, Tryz.ntmps121
    go_wp2_with fail
    go_region
    all_goals go_wp2
    refine bodyPost_ret (v := .tuple #[.slice none 0 0, rrV (.slice ao p.length c) i e]) (by simp [results, Tryz.results121, go_sem]) rfl ?_
    rw [unhide HV]
    exact ⟨_, rfl, Rd.nil _, (by repeat (first | exact Kept.refl _ _ | apply Kept.drew | apply Kept.alloc | (refine Kept.setCell ?_ (by simp) _))), by simp [blk]⟩
end Go.Proofs.YtckkalmhekfnhaaGreatDoor
/-
  A return of two variables: two loads and two stores; the second load may come up behind the first store. One law for all orders.
-/
namespace Go.Proofs.YtckkalmhekfnhaaGreatDoor
open Go

section
variable {P : Program} {ops : Array Oper} {Q : Exit → Act → World → Prop}
theorem wpOp_in {i : Nat} {o : Oper} {K : Act → World → Prop} {a : Act} {w : World} (hi : ops[i]? = some o) (hg : o.guard = none) (h : o.wp P a w K Q) : wpOp P ops Q i K a w := by
  have hw : Region.wanted o (yielded ops a.tmps) = true := by unfold Region.wanted; rw [hg]
  unfold wpOp; simp only [hi, hw, if_true]; exact Or.inl h

theorem wp_ret4 {id : Nat} {o0 o1 o2 o3 : Oper} {a : Act} {w : World} (hm : P.follows .mixedOrders = true)
    (r0 : Region.ready .any #[o0, o1, o2, o3] #[false, false, false, false] = [0, 1]) (r1 : Region.ready .any #[o0, o1, o2, o3] #[true, false, false, false] = [1, 2])
    (r2 : Region.ready .any #[o0, o1, o2, o3] #[false, true, false, false] = [0]) (r3 : Region.ready .any #[o0, o1, o2, o3] #[true, true, false, false] = [2])
    (r4 : Region.ready .any #[o0, o1, o2, o3] #[true, false, true, false] = [1]) (r5 : Region.ready .any #[o0, o1, o2, o3] #[true, true, true, false] = [3])
    (r6 : Region.ready .any #[o0, o1, o2, o3] #[true, true, true, true] = [])
    (g0 : o0.guard = none) (g1 : o1.guard = none) (g2 : o2.guard = none) (g3 : o3.guard = none)
    (t0 t1 : TypeId) (x0 x1 p0 p1 y0 y1 : Operand) (h0 : o0.op = .load t0 x0) (h1 : o1.op = .load t1 x1) (h2 : o2.op = .store t0 p0 y0) (h3 : o3.op = .store t1 p1 y1)
    (b0 b1 c0 c1 : Nat) (cs0 cs1 : List Value) (d0 d1 : TypeDesc)
    (R0 : w.drew.rangeAt b0 0 cs0) (R1 : w.drew.rangeAt b1 0 cs1) (T0 : w.drew.there c0 0 cs0.length) (T1 : w.drew.there c1 0 cs1.length) (hne : b1 ≠ c0)
    (hu0 : P.underlying t0 = some d0) (hd0 : d0.isRow = true) (hi0 : (P.info? t0).map (·.size) = some cs0.length) (n0 : ∀ v ∈ cs0, v.oneCell' = true)
    (hu1 : P.underlying t1 = some d1) (hd1 : d1.isRow = true) (hi1 : (P.info? t1).map (·.size) = some cs1.length) (n1 : ∀ v ∈ cs1, v.oneCell' = true)
    (e0 : a.eval x0 = .pointer (some ⟨b0, 0, none⟩)) (e0' : (a.put o1.dst (.agg cs1.toArray)).eval x0 = .pointer (some ⟨b0, 0, none⟩))
    (e1 : a.eval x1 = .pointer (some ⟨b1, 0, none⟩)) (e1' : (a.put o0.dst (.agg cs0.toArray)).eval x1 = .pointer (some ⟨b1, 0, none⟩)) (e1'' : ((a.put o0.dst (.agg cs0.toArray)).put o2.dst undef).eval x1 = .pointer (some ⟨b1, 0, none⟩))
    (k1 : (a.put o1.dst (.agg cs1.toArray)).put o0.dst (.agg cs0.toArray) = (a.put o0.dst (.agg cs0.toArray)).put o1.dst (.agg cs1.toArray))
    (k2 : ((a.put o0.dst (.agg cs0.toArray)).put o2.dst undef).put o1.dst (.agg cs1.toArray) = ((a.put o0.dst (.agg cs0.toArray)).put o1.dst (.agg cs1.toArray)).put o2.dst undef)
    (q0 : (a.put o0.dst (.agg cs0.toArray)).eval p0 = .pointer (some ⟨c0, 0, none⟩)) (q0' : ((a.put o0.dst (.agg cs0.toArray)).put o1.dst (.agg cs1.toArray)).eval p0 = .pointer (some ⟨c0, 0, none⟩))
    (z0 : (a.put o0.dst (.agg cs0.toArray)).eval y0 = .agg cs0.toArray) (z0' : ((a.put o0.dst (.agg cs0.toArray)).put o1.dst (.agg cs1.toArray)).eval y0 = .agg cs0.toArray)
    (q1 : (((a.put o0.dst (.agg cs0.toArray)).put o1.dst (.agg cs1.toArray)).put o2.dst undef).eval p1 = .pointer (some ⟨c1, 0, none⟩))
    (z1 : (((a.put o0.dst (.agg cs0.toArray)).put o1.dst (.agg cs1.toArray)).put o2.dst undef).eval y1 = .agg cs1.toArray)
    (h : Q .normal ((((a.put o0.dst (.agg cs0.toArray)).put o1.dst (.agg cs1.toArray)).put o2.dst undef).put o3.dst undef) ((w.drew.setCells c0 0 cs0).setCells c1 0 cs1)) :
    (Code.region id #[o0, o1, o2, o3] true).wp P Q a w := by
  refine wp_region_any hm ?_
  show wpAny P .any #[o0, o1, o2, o3] Q 4 #[false, false, false, false] a w.drew
  have i0 : (#[o0, o1, o2, o3] : Array Oper)[0]? = some o0 := rfl
  have i1 : (#[o0, o1, o2, o3] : Array Oper)[1]? = some o1 := rfl
  have i2 : (#[o0, o1, o2, o3] : Array Oper)[2]? = some o2 := rfl
  have i3 : (#[o0, o1, o2, o3] : Array Oper)[3]? = some o3 := rfl
  have last : ∀ A, A = (((a.put o0.dst (.agg cs0.toArray)).put o1.dst (.agg cs1.toArray)).put o2.dst undef) → wpAny P .any #[o0, o1, o2, o3] Q 1 #[true, true, true, false] A (w.drew.setCells c0 0 cs0) := by
    rintro A rfl
    refine ⟨fun hr => (by rw [r5] at hr; simp at hr), fun i hi => ?_⟩
    rw [r5] at hi
    obtain rfl : i = 3 := by simpa using hi
    refine wpOp_in i3 g3 (wp_store_mid t1 p1 y1 h3 c1 0 cs1.toArray q1 z1 (World.there_setCells (by simpa using T1) _ _ _) (by simpa using hi1) (all_oneCell_toArray n1) ?_)
    exact ⟨r6, by simpa using h⟩
  have third : ∀ A, A = ((a.put o0.dst (.agg cs0.toArray)).put o1.dst (.agg cs1.toArray)) → wpAny P .any #[o0, o1, o2, o3] Q 2 #[true, true, false, false] A w.drew := by
    rintro A rfl
    refine ⟨fun hr => (by rw [r3] at hr; simp at hr), fun i hi => ?_⟩
    rw [r3] at hi
    obtain rfl : i = 2 := by simpa using hi
    refine wpOp_in i2 g2 (wp_store_mid t0 p0 y0 h2 c0 0 cs0.toArray q0' z0' (by simpa using T0) (by simpa using hi0) (all_oneCell_toArray n0) ?_)
    exact last _ rfl
  refine ⟨fun hr => (by rw [r0] at hr; simp at hr), fun i hi => ?_⟩
  rw [r0] at hi
  rcases (by simpa using hi : i = 0 ∨ i = 1) with rfl | rfl
  · refine wpOp_in i0 g0 (wp_load_mid t0 x0 h0 b0 0 e0 cs0 d0 R0 hu0 hd0 hi0 ?_)
    show wpAny P .any #[o0, o1, o2, o3] Q 3 #[true, false, false, false] _ w.drew
    refine ⟨fun hr => (by rw [r1] at hr; simp at hr), fun i hi => ?_⟩
    rw [r1] at hi
    rcases (by simpa using hi : i = 1 ∨ i = 2) with rfl | rfl
    · exact wpOp_in i1 g1 (wp_load_mid t1 x1 h1 b1 0 e1' cs1 d1 R1 hu1 hd1 hi1 (third _ rfl))
    · refine wpOp_in i2 g2 (wp_store_mid t0 p0 y0 h2 c0 0 cs0.toArray q0 z0 (by simpa using T0) (by simpa using hi0) (all_oneCell_toArray n0) ?_)
      show wpAny P .any #[o0, o1, o2, o3] Q 2 #[true, false, true, false] _ (w.drew.setCells c0 0 cs0)
      refine ⟨fun hr => (by rw [r4] at hr; simp at hr), fun i hi => ?_⟩
      rw [r4] at hi
      obtain rfl : i = 1 := by simpa using hi
      exact wpOp_in i1 g1 (wp_load_mid t1 x1 h1 b1 0 e1'' cs1 d1 (World.rangeAt_setCells_apart R1 _ _ _ (Or.inl hne)) hu1 hd1 hi1 (last _ k2))
  · refine wpOp_in i1 g1 (wp_load_mid t1 x1 h1 b1 0 e1 cs1 d1 R1 hu1 hd1 hi1 ?_)
    show wpAny P .any #[o0, o1, o2, o3] Q 3 #[false, true, false, false] _ w.drew
    refine ⟨fun hr => (by rw [r2] at hr; simp at hr), fun i hi => ?_⟩
    rw [r2] at hi
    obtain rfl : i = 0 := by simpa using hi
    exact wpOp_in i0 g0 (wp_load_mid t0 x0 h0 b0 0 e0' cs0 d0 R0 hu0 hd0 hi0 (third _ k1))
end
end Go.Proofs.YtckkalmhekfnhaaGreatDoor
namespace Go.Proofs.YtckkalmhekfnhaaGreatDoor
open Go.RowKit Go.BigFrame
set_option linter.unusedVariables false
set_option linter.unusedSimpArgs false

theorem cell_setCells_far (w : World) (b o : Nat) (vs : List Value) (a : Addr) (h : b ≠ a.block) : (w.setCells b o vs).cell? a = w.cell? a :=
  World.cell?_setCells_out b vs o w a (fun e _ => absurd e.symm h)
theorem setCells_kept {L : List Nat} {w0 : World} (b : Nat) (hb : b ∈ L ∨ w0.heap.size ≤ b) : ∀ (vs : List Value) (o : Nat) (w : World), Kept L w0 w → Kept L w0 (w.setCells b o vs)
  | [], _, _, h => h
  | v :: r, o, w, h => by rw [World.setCells]; exact setCells_kept b hb r (o + 1) _ (h.setCell hb v)
theorem setCells_heap (b : Nat) (t : TypeId) : ∀ (vs : List Value) (pre post : List Value) (w : World), post.length = vs.length → w.heap[b]? = some (.cells (pre ++ post).toArray t (0, 0)) → (w.setCells b pre.length vs).heap[b]? = some (.cells (pre ++ vs).toArray t (0, 0))
  | [], pre, post, w, hl, h => by
    have : post = [] := List.eq_nil_of_length_eq_zero (by simpa using hl)
    subst this; exact h
  | v :: r, pre, post, w, hl, h => by
    obtain ⟨x, post, rfl⟩ : ∃ x q, post = x :: q := by cases post with | nil => simp at hl | cons x q => exact ⟨x, q, rfl⟩
    rw [World.setCells]
    have h1 := heap_setCell_same w b pre.length _ t v h
    have e1 : (pre ++ x :: post).toArray.setIfInBounds pre.length v = ((pre ++ [v]) ++ post).toArray := by simp
    rw [e1] at h1
    have h2 := setCells_heap b t r (pre ++ [v]) post _ (by simpa using hl) h1
    rw [List.length_append, List.length_cons, List.length_nil, List.append_assoc] at h2
    simpa using h2
theorem setCells_row {w : World} {b : Nat} {t : TypeId} {old vs : List Value} (h : w.heap[b]? = some (.cells old.toArray t (0, 0))) (hl : old.length = vs.length) : (w.setCells b 0 vs).heap[b]? = some (.cells vs.toArray t (0, 0)) :=
  setCells_heap b t vs [] old w hl h
theorem range_row {w : World} {b : Nat} {t : TypeId} {fr : Nat × Nat} {cs : List Value} (h : w.heap[b]? = some (.cells cs.toArray t fr)) : w.rangeAt b 0 cs := fun j v hv => by
  rw [cell_of_row w b (0 + j) _ t fr h, Nat.zero_add]; simpa using hv
theorem there_row {w : World} {b : Nat} {t : TypeId} {cs : List Value} (h : w.heap[b]? = some (.cells cs.toArray t (0, 0))) : w.there b 0 cs.length := fun j hj =>
  ⟨by rw [cell_of_row w b (0 + j) _ t _ h, Nat.zero_add]; simp [hj], frozen_of_row _ _ _ _ _ h⟩
theorem range_setCell_far {w : World} {b o : Nat} {cs : List Value} (h : w.rangeAt b o cs) (p : Addr) (v : Value) (hne : p.block ≠ b) : (w.setCell p v).rangeAt b o cs := fun j x hx => by
  rw [World.cell?_setCell_far _ _ _ _ hne]; exact h j x hx
end Go.Proofs.YtckkalmhekfnhaaGreatDoor
namespace Go.Proofs.YtckkalmhekfnhaaGreatDoor
open Go.RowKit Go.BigFrame
set_option linter.unusedVariables false
set_option linter.unusedSimpArgs false

set_option maxRecDepth 100000 in
set_option maxHeartbeats 1000000 in
theorem failed_any (ao : Option Addr) (n c i e f : Nat) (w : World) :
    Calls Tryz.prog 81 #[rrV (.slice ao n c) i e, .int .i64 f] w fun r w' => r = .returned (rrV (.slice ao n c) i (if e = 0 then f else e : Nat)) ∧ Kept [] w w' := by
  by_cases he : e = 0
  · have hb : ((e : Int) == 0) = true := by rw [he]; rfl
    rw [if_pos he]
    clear he
    go_enter Tryz.func81, Tryz.ntmps81
    go_wp2
    exact bodyPost_ret (v := .agg #[.slice ao n c, .int .i64 i, .int .i64 f]) (by simp [results, Tryz.results81, go_sem]) rfl ⟨rfl, ((Kept.refl [] w).alloc _).alloc _⟩
  · have hb : ((e : Int) == 0) = false := by rw [beq_eq_false_iff_ne]; omega
    rw [if_neg he]
    clear he
    go_enter Tryz.func81, Tryz.ntmps81
    go_wp2
    exact bodyPost_ret (v := .agg #[.slice ao n c, .int .i64 i, .int .i64 e]) (by simp [results, Tryz.results81, go_sem]) rfl ⟨rfl, ((Kept.refl [] w).alloc _).alloc _⟩

theorem results_row_row {P : Program} {fn : Func} {p q : Tmp} {ty ty2 : TypeId} (h : fn.results = #[.cell p ty, .cell q ty2]) (tmps : Array Value) (w : World) (g g2 : Nat) (t t2 : TypeId) (cs cs2 : Array Value) (fr fr2 : Nat × Nat) (d d2 : TypeDesc)
    (hp : tmps.getD p undef = .pointer (some ⟨g, 0, none⟩)) (hg : w.heap[g]? = some (.cells cs t fr)) (hq : tmps.getD q undef = .pointer (some ⟨g2, 0, none⟩)) (hg2 : w.heap[g2]? = some (.cells cs2 t2 fr2))
    (hu : P.underlying ty = some d) (hd : (match d with | .struct _ | .array _ _ => true | _ => false) = true) (hi : (P.info? ty).map (·.size) = some cs.size)
    (hu2 : P.underlying ty2 = some d2) (hd2 : (match d2 with | .struct _ | .array _ _ => true | _ => false) = true) (hi2 : (P.info? ty2).map (·.size) = some cs2.size) :
    (results fn tmps).run P w = .ok (.tuple #[.agg cs, .agg cs2]) w := by
  have hp' : tmps[p]?.getD undef = .pointer (some ⟨g, 0, none⟩) := by simpa using hp
  have hq' : tmps[q]?.getD undef = .pointer (some ⟨g2, 0, none⟩) := by simpa using hq
  simp [results, h, hp', hq', asAddr, run_loadVar_row w g t ty cs fr d hg hu hd hi, run_loadVar_row w g2 t2 ty2 cs2 fr2 d2 hg2 hu2 hd2 hi2]
theorem Tryz.size_rr : (Tryz.prog.info? 139).map (·.size) = some 3 := by kernel_rfl

/-- Take's variables: the reader, the two results, the entry. -/
structure TK (w W : World) (gv : Value) (i e : Nat) (k : Nat) (kv vv : Value) : Prop where
  r : W.heap[w.heap.size]? = some (.cells #[gv, .int .i64 (i : Int), .int .i64 (e : Int)] 139 (0, 0))
  a : W.heap[w.heap.size + 1]? = some (.cells #[.int .u8 0, .slice none 0 0, .slice none 0 0] 71 (0, 0))
  b : W.heap[w.heap.size + 1 + 1]? = some (.cells #[.slice none 0 0, .int .i64 0, .int .i64 0] 139 (0, 0))
  c : W.heap[w.heap.size + 1 + 1 + 1]? = some (.cells #[.int .u8 (k : Int), kv, vv] 71 (0, 0))
  kept : Kept [] w W
theorem TK.old {w W W' : World} {gv : Value} {i e k : Nat} {kv vv : Value} (h : TK w W gv i e k kv vv) (q : Kept [] W W') : TK w W' gv i e k kv vv :=
  ⟨q.heap h.r (by simp), q.heap h.a (by simp), q.heap h.b (by simp), q.heap h.c (by simp), h.kept.trans q (by simp)⟩
theorem TK.setR {w W : World} {gv : Value} {i e k : Nat} {kv vv : Value} (h : TK w W gv i e k kv vv) (gv' : Value) (i' e' : Nat) :
    TK w (((W.setCell ⟨w.heap.size, 0, none⟩ gv').setCell ⟨w.heap.size, 1, none⟩ (.int .i64 (i' : Int))).setCell ⟨w.heap.size, 2, none⟩ (.int .i64 (e' : Int))) gv' i' e' k kv vv := by
  have q := eput3_kept (Kept.refl [w.heap.size] W) w.heap.size (Or.inl (by simp)) gv' (.int .i64 (i' : Int)) (.int .i64 (e' : Int))
  exact ⟨eput3_heap h.r _ _ _, q.heap h.a (by simp), q.heap h.b (by simp; omega), q.heap h.c (by simp; omega), eput3_kept h.kept _ (Or.inr (Nat.le_refl _)) _ _ _⟩
theorem TK.setK {w W : World} {gv : Value} {i e k : Nat} {kv vv : Value} (h : TK w W gv i e k kv vv) (k' : Nat) : TK w (W.setCell ⟨w.heap.size + 1 + 1 + 1, 0, none⟩ (.int .u8 (k' : Int))) gv i e k' kv vv := by
  have q := (Kept.refl [w.heap.size + 1 + 1 + 1] W).setCell (p := ⟨w.heap.size + 1 + 1 + 1, 0, none⟩) (Or.inl (by simp)) (.int .u8 (k' : Int))
  exact ⟨q.heap h.r (by simp; omega), q.heap h.a (by simp), q.heap h.b (by simp), heap_setCell_same W _ 0 _ 71 _ h.c, h.kept.setCell (Or.inr (by show w.heap.size ≤ w.heap.size + 1 + 1 + 1; omega)) _⟩
theorem TK.setY {w W : World} {gv : Value} {i e k : Nat} {kv vv : Value} (h : TK w W gv i e k kv vv) (y : Value) : TK w (W.setCell ⟨w.heap.size + 1 + 1 + 1, 1, none⟩ y) gv i e k y vv := by
  have q := (Kept.refl [w.heap.size + 1 + 1 + 1] W).setCell (p := ⟨w.heap.size + 1 + 1 + 1, 1, none⟩) (Or.inl (by simp)) y
  exact ⟨q.heap h.r (by simp; omega), q.heap h.a (by simp), q.heap h.b (by simp), heap_setCell_same W _ 1 _ 71 _ h.c, h.kept.setCell (Or.inr (by show w.heap.size ≤ w.heap.size + 1 + 1 + 1; omega)) _⟩
theorem TK.setV {w W : World} {gv : Value} {i e k : Nat} {kv vv : Value} (h : TK w W gv i e k kv vv) (y : Value) : TK w (W.setCell ⟨w.heap.size + 1 + 1 + 1, 2, none⟩ y) gv i e k kv y := by
  have q := (Kept.refl [w.heap.size + 1 + 1 + 1] W).setCell (p := ⟨w.heap.size + 1 + 1 + 1, 2, none⟩) (Or.inl (by simp)) y
  exact ⟨q.heap h.r (by simp; omega), q.heap h.a (by simp), q.heap h.b (by simp), heap_setCell_same W _ 2 _ 71 _ h.c, h.kept.setCell (Or.inr (by show w.heap.size ≤ w.heap.size + 1 + 1 + 1; omega)) _⟩
theorem TK.start (w : World) (gv : Value) (i e : Nat) : TK w ((((w.alloc (.cells #[gv, .int .i64 (i : Int), .int .i64 (e : Int)] 139)).alloc (.cells #[.int .u8 0, .slice none 0 0, .slice none 0 0] 71)).alloc (.cells #[.slice none 0 0, .int .i64 0, .int .i64 0] 139)).alloc (.cells #[.int .u8 0, .slice none 0 0, .slice none 0 0] 71)) gv i e 0 (.slice none 0 0) (.slice none 0 0) := by
  have h3 := heap_alloc3e w (.cells #[gv, .int .i64 (i : Int), .int .i64 (e : Int)] 139) (.cells #[.int .u8 0, .slice none 0 0, .slice none 0 0] 71) (.cells #[.slice none 0 0, .int .i64 0, .int .i64 0] 139)
  have q := (Kept.refl [] (((w.alloc (.cells #[gv, .int .i64 (i : Int), .int .i64 (e : Int)] 139)).alloc (.cells #[.int .u8 0, .slice none 0 0, .slice none 0 0] 71)).alloc (.cells #[.slice none 0 0, .int .i64 0, .int .i64 0] 139))).alloc (.cells #[.int .u8 0, .slice none 0 0, .slice none 0 0] 71)
  refine ⟨q.heap h3.1 (by simp), q.heap h3.2.1 (by simp), q.heap h3.2.2 (by simp), ?_, (((((Kept.refl [] w).alloc _).alloc _).alloc _).alloc _)⟩
  have h9 := heap_alloc_new (((w.alloc (.cells #[gv, .int .i64 (i : Int), .int .i64 (e : Int)] 139)).alloc (.cells #[.int .u8 0, .slice none 0 0, .slice none 0 0] 71)).alloc (.cells #[.slice none 0 0, .int .i64 0, .int .i64 0] 139)) (.cells #[.int .u8 0, .slice none 0 0, .slice none 0 0] 71)
  rw [show (((w.alloc (.cells #[gv, .int .i64 (i : Int), .int .i64 (e : Int)] 139)).alloc (.cells #[.int .u8 0, .slice none 0 0, .slice none 0 0] 71)).alloc (.cells #[.slice none 0 0, .int .i64 0, .int .i64 0] 139)).heap.size = w.heap.size + 1 + 1 + 1 by simp] at h9
  exact h9

/-- What the document takes. -/
def docF (x e : Nat) : Nat := if x = 1 ∨ x = 2 then e else if e = 0 then 3 else e
def docT2 (p : List Nat) (x i e : Nat) : En × Nat × Nat :=
  if x = 1 then (⟨x % 256, (rBlob p i (docF x e) 64).1, (rBlob p (rBlob p i (docF x e) 64).2.1 (rBlob p i (docF x e) 64).2.2 256).1⟩, (rBlob p (rBlob p i (docF x e) 64).2.1 (rBlob p i (docF x e) 64).2.2 256).2)
  else (⟨x % 256, (rBlob p i (docF x e) 64).1, []⟩, (rBlob p i (docF x e) 64).2)
def docT (p : List Nat) (i e : Nat) : En × Nat × Nat := docT2 p (rNum p i e 1).1 (rNum p i e 1).2.1 (rNum p i e 1).2.2
theorem rNum_le' {p : List Nat} {i e n : Nat} (h : i ≤ p.length) : (rNum p i e n).2.1 ≤ p.length := by
  unfold rNum; split
  · exact h
  · split
    · exact h
    · show i + n ≤ p.length; omega
theorem rBlob_le {p : List Nat} {i e : Nat} {m : Int} (h : i ≤ p.length) : (rBlob p i e m).2.1 ≤ p.length := by
  have hf := fuv_le (p.drop i) 0 0
  unfold rBlob
  split
  · exact h
  split
  · exact h
  split
  · exact h
  split
  · exact h
  split
  · exact h
  · rename_i h5
    simp only [List.length_drop] at h5 hf ⊢
    omega
end Go.Proofs.YtckkalmhekfnhaaGreatDoor
namespace Go.Proofs.YtckkalmhekfnhaaGreatDoor
open Go.RowKit Go.BigFrame
set_option linter.unusedVariables false
set_option linter.unusedSimpArgs false

set_option maxRecDepth 100000 in
set_option maxHeartbeats 2000000 in
theorem refTake_1 (ao : Option Addr) (c : Nat) (p : List Nat) (i e : Nat) (w : World) (h : Rd w (.slice ao p.length c) p) (hi : i ≤ p.length) (hx0 : (rNum p i e 1).1 = 1) :
    Calls Tryz.prog 83 #[rrV (.slice ao p.length c) i e] w fun r w' => ∃ kv vv, r = .returned (.tuple #[.agg (enC (docT p i e).1 kv vv), rrV (.slice ao p.length c) (docT p i e).2.1 (docT p i e).2.2]) ∧ OkE w' (docT p i e).1 kv vv ∧ Kept [] w w' ∧ ∀ y, y ∈ blk kv ∨ y ∈ blk vv → w.heap.size ≤ y := by
  have H := hide h
  clear h
  obtain ⟨D, hD⟩ : ∃ D, docT p i e = D := ⟨_, rfl⟩
  rw [hD]
  have HD := hide hD
  unfold docT at HD
  clear hD
  have HT0 := hide (TK.start w (.slice ao p.length c) i e)
  have hne : ∀ n, w.heap.size ≠ w.heap.size + n + 1 := fun n => by omega
  go_enter Tryz.func83, Tryz.ntmps83
  go_wp2_with fail
  refine Calls.mono (takeWide_any ao c p i e 1 _ ((unhide H).old (unhide HT0).kept (by simp)) hi (by decide)) ?_
  rintro r w1 ⟨rfl, k1⟩
  have hxl := ru_lt p i e 1
  have hli1 := rNum_le' (p := p) (i := i) (e := e) (n := 1) hi
  obtain ⟨x, hx⟩ : ∃ x, rNum p i e 1 = x := ⟨_, rfl⟩
  rw [hx] at HD hxl hli1 hx0 ⊢
  clear hx
  obtain ⟨x, i1, e1⟩ := x
  simp only at HD hxl hli1 hx0 ⊢
  have HT1 := hide ((unhide HT0).old k1)
  clear k1
  have hzz := hli1
  have hx1 := hx0
  clear hx0
  subst hx1
  obtain ⟨⟨s0, s1, s2⟩, t0, t1, t2⟩ := three (unhide HT1).r
  obtain ⟨⟨d0, d1, d2⟩, f0, f1, f2⟩ := three (unhide HT1).c
  have HTA := hide (show TK w ((((w1.setCell ⟨w.heap.size, 0, none⟩ (.slice ao p.length c)).setCell ⟨w.heap.size, 1, none⟩ (.int .i64 (i1 : Int))).setCell ⟨w.heap.size, 2, none⟩ (.int .i64 (e1 : Int))).setCell ⟨w.heap.size + 1 + 1 + 1, 0, none⟩ (.int .u8 1)) (.slice ao p.length c) i1 e1 1 (.slice none 0 0) (.slice none 0 0) from ((unhide HT1).setR (.slice ao p.length c) i1 e1).setK 1)
  go_wp2_with fail
  clear s0 s1 s2 t0 t1 t2 d0 d1 d2 f0 f1 f2
  obtain ⟨WA, hWA⟩ : ∃ W, ((((w1.setCell ⟨w.heap.size, 0, none⟩ (.slice ao p.length c)).setCell ⟨w.heap.size, 1, none⟩ (.int .i64 (i1 : Int))).setCell ⟨w.heap.size, 2, none⟩ (.int .i64 (e1 : Int))).setCell ⟨w.heap.size + 1 + 1 + 1, 0, none⟩ (.int .u8 1)) = W := ⟨_, rfl⟩
  rw [hWA] at HTA ⊢
  clear hWA
  refine Calls.mono (takeBlob_any ao c p i1 e1 64 WA ((unhide H).old (unhide HTA).kept (by simp)) hli1 (by decide)) ?_
  rintro r w3 ⟨rv3, rfl, rd3, k3, b3⟩
  have hli2 := rBlob_le (p := p) (i := i1) (e := e1) (m := 64) hli1
  obtain ⟨y3, hy3⟩ : ∃ y, rBlob p i1 e1 64 = y := ⟨_, rfl⟩
  have HY3 := hide hy3
  rw [hy3] at rd3 hli2 ⊢
  clear hy3
  obtain ⟨key, i2, e2⟩ := y3
  simp only at rd3 hli2 ⊢
  have HB3 := hide (fun y hy => by have h9 := b3 y hy; have h8 := lt_of_block (unhide HTA).c; omega : ∀ y ∈ blk rv3, w.heap.size + 1 + 1 + 1 < y)
  obtain ⟨a3, m3, c3, hu3, _⟩ := id rd3
  subst hu3
  have HRD3 := hide rd3
  have HT3 := hide ((unhide HTA).old k3)
  clear rd3 b3 k3
  obtain ⟨⟨s0, s1, s2⟩, t0, t1, t2⟩ := three (unhide HT3).r
  obtain ⟨⟨d0, d1, d2⟩, f0, f1, f2⟩ := three (unhide HT3).c
  have HK3 := hide (eput3_kept ((Kept.refl [w.heap.size, w.heap.size + 1, w.heap.size + 1 + 1, w.heap.size + 1 + 1 + 1] w3).setCell (p := ⟨w.heap.size + 1 + 1 + 1, 1, none⟩) (Or.inl (by simp)) (.slice a3 m3 c3)) w.heap.size (Or.inl (by simp)) (.slice ao p.length c) (.int .i64 (i2 : Int)) (.int .i64 (e2 : Int)))
  have HTB := hide (((unhide HT3).setY (.slice a3 m3 c3)).setR (.slice ao p.length c) i2 e2)
  go_wp2_with fail
  clear s0 s1 s2 t0 t1 t2 d0 d1 d2 f0 f1 f2
  obtain ⟨WB, hWB⟩ : ∃ W, ((((w3.setCell ⟨w.heap.size + 1 + 1 + 1, 1, none⟩ (.slice a3 m3 c3)).setCell ⟨w.heap.size, 0, none⟩ (.slice ao p.length c)).setCell ⟨w.heap.size, 1, none⟩ (.int .i64 (i2 : Int))).setCell ⟨w.heap.size, 2, none⟩ (.int .i64 (e2 : Int))) = W := ⟨_, rfl⟩
  rw [hWB] at HTB HK3 ⊢
  clear hWB
  have HRB := hide ((unhide HRD3).kept (unhide HK3) (fun x hx => by have h9 := unhide HB3 x hx; simp; omega))
  refine Calls.mono (takeBlob_any ao c p i2 e2 256 WB ((unhide H).old (unhide HTB).kept (by simp)) hli2 (by decide)) ?_
  rintro r w5 ⟨rv5, rfl, rd5, k5, b5⟩
  have hli3 := rBlob_le (p := p) (i := i2) (e := e2) (m := 256) hli2
  obtain ⟨y5, hy5⟩ : ∃ y, rBlob p i2 e2 256 = y := ⟨_, rfl⟩
  have HY5 := hide hy5
  rw [hy5] at rd5 hli3 ⊢
  clear hy5
  obtain ⟨val, i3, e3⟩ := y5
  simp only at rd5 hli3 ⊢
  have HB5 := hide (fun y hy => by have h9 := b5 y hy; have h8 := lt_of_block (unhide HTB).c; omega : ∀ y ∈ blk rv5, w.heap.size + 1 + 1 + 1 < y)
  obtain ⟨a5, m5, c5, hu5, _⟩ := id rd5
  subst hu5
  have HRD5 := hide rd5
  have HT5 := hide ((unhide HTB).old k5)
  have HRB5 := hide ((unhide HRB).old k5 (by simp))
  clear rd5 b5 k5
  obtain ⟨⟨s0, s1, s2⟩, t0, t1, t2⟩ := three (unhide HT5).r
  obtain ⟨⟨d0, d1, d2⟩, f0, f1, f2⟩ := three (unhide HT5).c
  have HK5 := hide (eput3_kept ((Kept.refl [w.heap.size, w.heap.size + 1, w.heap.size + 1 + 1, w.heap.size + 1 + 1 + 1] w5).setCell (p := ⟨w.heap.size + 1 + 1 + 1, 2, none⟩) (Or.inl (by simp)) (.slice a5 m5 c5)) w.heap.size (Or.inl (by simp)) (.slice ao p.length c) (.int .i64 (i3 : Int)) (.int .i64 (e3 : Int)))
  have HTF := hide (((unhide HT5).setV (.slice a5 m5 c5)).setR (.slice ao p.length c) i3 e3)
  have HDE := hide (by rw [← unhide HD]; unfold docT2 docF; simp [unhide HY3, unhide HY5] : D = (⟨1, key, val⟩, i3, e3))
  go_wp2_with fail
  clear s0 s1 s2 t0 t1 t2 d0 d1 d2 f0 f1 f2
  obtain ⟨WF, hWF⟩ : ∃ W, ((((w5.setCell ⟨w.heap.size + 1 + 1 + 1, 2, none⟩ (.slice a5 m5 c5)).setCell ⟨w.heap.size, 0, none⟩ (.slice ao p.length c)).setCell ⟨w.heap.size, 1, none⟩ (.int .i64 (i3 : Int))).setCell ⟨w.heap.size, 2, none⟩ (.int .i64 (e3 : Int))) = W := ⟨_, rfl⟩
  rw [hWF] at HTF HK5 ⊢
  clear hWF
  have hrg : WF.drew.rangeAt (w.heap.size + 1 + 1 + 1) 0 [.int .u8 1, .slice a3 m3 c3, .slice a5 m5 c5] := range_row (unhide HTF).c
  have hrr : WF.drew.rangeAt w.heap.size 0 [.slice ao p.length c, .int .i64 (i3 : Int), .int .i64 (e3 : Int)] := range_row (unhide HTF).r
  have hth : WF.drew.there (w.heap.size + 1) 0 3 := there_row (w := WF.drew) (cs := [.int .u8 0, .slice none 0 0, .slice none 0 0]) (unhide HTF).a
  have htt : WF.drew.there (w.heap.size + 1 + 1) 0 3 := there_row (w := WF.drew) (cs := [.slice none 0 0, .int .i64 0, .int .i64 0]) (unhide HTF).b
  refine wp_ret4 (by kernel_rfl) (by kernel_rfl) (by kernel_rfl) (by kernel_rfl) (by kernel_rfl) (by kernel_rfl) (by kernel_rfl) (by kernel_rfl) rfl rfl rfl rfl 71 139 _ _ _ _ _ _ rfl rfl rfl rfl
    (w.heap.size + 1 + 1 + 1) w.heap.size (w.heap.size + 1) (w.heap.size + 1 + 1) [.int .u8 1, .slice a3 m3 c3, .slice a5 m5 c5] [.slice ao p.length c, .int .i64 (i3 : Int), .int .i64 (e3 : Int)] _ _ hrg hrr hth htt (by omega)
    Tryz.underlying71 rfl Tryz.size_entry (by intro v hv; simp at hv; rcases hv with rfl | rfl | rfl <;> rfl) Tryz.underlying139 rfl Tryz.size_rr (by intro v hv; simp at hv; rcases hv with rfl | rfl | rfl <;> rfl) rfl rfl rfl rfl rfl rfl rfl rfl rfl rfl rfl rfl rfl ?_
  have k1 := setCells_kept (w.heap.size + 1) (Or.inl (by simp)) [.int .u8 1, .slice a3 m3 c3, .slice a5 m5 c5] 0 _ (Kept.refl [w.heap.size + 1] WF.drew)
  have k2 := setCells_kept (w.heap.size + 1 + 1) (Or.inl (by simp)) [.slice ao p.length c, .int .i64 (i3 : Int), .int .i64 (e3 : Int)] 0 _ (Kept.refl [w.heap.size + 1 + 1] (WF.drew.setCells (w.heap.size + 1) 0 [.int .u8 1, .slice a3 m3 c3, .slice a5 m5 c5]))
  have HE1 := hide (k2.heap (setCells_row (vs := [.int .u8 1, .slice a3 m3 c3, .slice a5 m5 c5]) (show WF.drew.heap[w.heap.size + 1]? = some (.cells ([.int .u8 0, .slice none 0 0, .slice none 0 0] : List Value).toArray 71 (0, 0)) from (unhide HTF).a) rfl) (by simp))
  have HE2 := hide (setCells_row (vs := [.slice ao p.length c, .int .i64 (i3 : Int), .int .i64 (e3 : Int)]) (k1.heap (show WF.drew.heap[w.heap.size + 1 + 1]? = some (.cells ([.slice none 0 0, .int .i64 0, .int .i64 0] : List Value).toArray 139 (0, 0)) from (unhide HTF).b) (by simp)) rfl)
  have HKF := hide (setCells_kept (w.heap.size + 1 + 1) (Or.inr (by omega)) [.slice ao p.length c, .int .i64 (i3 : Int), .int .i64 (e3 : Int)] 0 _ (setCells_kept (w.heap.size + 1) (Or.inr (by omega)) [.int .u8 1, .slice a3 m3 c3, .slice a5 m5 c5] 0 _ (unhide HTF).kept.drew))
  have HKR := hide (setCells_kept (w.heap.size + 1 + 1) (Or.inl (by simp)) [.slice ao p.length c, .int .i64 (i3 : Int), .int .i64 (e3 : Int)] 0 _ (setCells_kept (w.heap.size + 1) (Or.inl (by simp)) [.int .u8 1, .slice a3 m3 c3, .slice a5 m5 c5] 0 _ (Kept.refl [w.heap.size, w.heap.size + 1, w.heap.size + 1 + 1, w.heap.size + 1 + 1 + 1] WF).drew))
  clear k1 k2
  all_goals go_wp2
  all_goals
    refine bodyPost_ret (v := .tuple #[.agg #[.int .u8 1, .slice a3 m3 c3, .slice a5 m5 c5], .agg #[(.slice ao p.length c), .int .i64 (i3 : Int), .int .i64 (e3 : Int)]]) ?_ rfl ⟨.slice a3 m3 c3, .slice a5 m5 c5, by rw [unhide HDE]; rfl, ?_, unhide HKF, ?_⟩
    · exact results_row_row rfl _ _ (w.heap.size + 1) (w.heap.size + 1 + 1) _ _ #[.int .u8 1, .slice a3 m3 c3, .slice a5 m5 c5] #[(.slice ao p.length c), .int .i64 (i3 : Int), .int .i64 (e3 : Int)] (0, 0) (0, 0) _ _ rfl (by exact unhide HE1) rfl (by exact unhide HE2) Tryz.underlying71 rfl Tryz.size_entry Tryz.underlying139 rfl Tryz.size_rr
    · rw [unhide HDE]
      exact ⟨by show (1 : Nat) < 256; omega, ((unhide HRB5).kept (unhide HK5) (fun x hx => by have h9 := unhide HB3 x hx; simp; omega)).kept (unhide HKR) (fun x hx => by have h9 := unhide HB3 x hx; simp; omega), ((unhide HRD5).kept (unhide HK5) (fun x hx => by have h9 := unhide HB5 x hx; simp; omega)).kept (unhide HKR) (fun x hx => by have h9 := unhide HB5 x hx; simp; omega)⟩
    · intro y hy
      rcases hy with hy | hy
      · have h9 := unhide HB3 y hy; omega
      · have h9 := unhide HB5 y hy; omega
end Go.Proofs.YtckkalmhekfnhaaGreatDoor
namespace Go.Proofs.YtckkalmhekfnhaaGreatDoor
open Go.RowKit Go.BigFrame
set_option linter.unusedVariables false
set_option linter.unusedSimpArgs false

set_option maxRecDepth 100000 in
set_option maxHeartbeats 2000000 in
theorem refTake_2 (ao : Option Addr) (c : Nat) (p : List Nat) (i e : Nat) (w : World) (h : Rd w (.slice ao p.length c) p) (hi : i ≤ p.length) (hx0 : (rNum p i e 1).1 = 2) :
    Calls Tryz.prog 83 #[rrV (.slice ao p.length c) i e] w fun r w' => ∃ kv vv, r = .returned (.tuple #[.agg (enC (docT p i e).1 kv vv), rrV (.slice ao p.length c) (docT p i e).2.1 (docT p i e).2.2]) ∧ OkE w' (docT p i e).1 kv vv ∧ Kept [] w w' ∧ ∀ y, y ∈ blk kv ∨ y ∈ blk vv → w.heap.size ≤ y := by
  have H := hide h
  clear h
  obtain ⟨D, hD⟩ : ∃ D, docT p i e = D := ⟨_, rfl⟩
  rw [hD]
  have HD := hide hD
  unfold docT at HD
  clear hD
  have HT0 := hide (TK.start w (.slice ao p.length c) i e)
  have hne : ∀ n, w.heap.size ≠ w.heap.size + n + 1 := fun n => by omega
  go_enter Tryz.func83, Tryz.ntmps83
  go_wp2_with fail
  refine Calls.mono (takeWide_any ao c p i e 1 _ ((unhide H).old (unhide HT0).kept (by simp)) hi (by decide)) ?_
  rintro r w1 ⟨rfl, k1⟩
  have hxl := ru_lt p i e 1
  have hli1 := rNum_le' (p := p) (i := i) (e := e) (n := 1) hi
  obtain ⟨x, hx⟩ : ∃ x, rNum p i e 1 = x := ⟨_, rfl⟩
  rw [hx] at HD hxl hli1 hx0 ⊢
  clear hx
  obtain ⟨x, i1, e1⟩ := x
  simp only at HD hxl hli1 hx0 ⊢
  have HT1 := hide ((unhide HT0).old k1)
  clear k1
  have hzz := hli1
  have hx2 := hx0
  clear hx0
  subst hx2
  obtain ⟨⟨s0, s1, s2⟩, t0, t1, t2⟩ := three (unhide HT1).r
  obtain ⟨⟨d0, d1, d2⟩, f0, f1, f2⟩ := three (unhide HT1).c
  have HTA := hide (show TK w ((((w1.setCell ⟨w.heap.size, 0, none⟩ (.slice ao p.length c)).setCell ⟨w.heap.size, 1, none⟩ (.int .i64 (i1 : Int))).setCell ⟨w.heap.size, 2, none⟩ (.int .i64 (e1 : Int))).setCell ⟨w.heap.size + 1 + 1 + 1, 0, none⟩ (.int .u8 2)) (.slice ao p.length c) i1 e1 2 (.slice none 0 0) (.slice none 0 0) from ((unhide HT1).setR (.slice ao p.length c) i1 e1).setK 2)
  go_wp2_with fail
  clear s0 s1 s2 t0 t1 t2 d0 d1 d2 f0 f1 f2
  obtain ⟨WA, hWA⟩ : ∃ W, ((((w1.setCell ⟨w.heap.size, 0, none⟩ (.slice ao p.length c)).setCell ⟨w.heap.size, 1, none⟩ (.int .i64 (i1 : Int))).setCell ⟨w.heap.size, 2, none⟩ (.int .i64 (e1 : Int))).setCell ⟨w.heap.size + 1 + 1 + 1, 0, none⟩ (.int .u8 2)) = W := ⟨_, rfl⟩
  rw [hWA] at HTA ⊢
  clear hWA
  refine Calls.mono (takeBlob_any ao c p i1 e1 64 WA ((unhide H).old (unhide HTA).kept (by simp)) hli1 (by decide)) ?_
  rintro r w3 ⟨rv3, rfl, rd3, k3, b3⟩
  have hli2 := rBlob_le (p := p) (i := i1) (e := e1) (m := 64) hli1
  obtain ⟨y3, hy3⟩ : ∃ y, rBlob p i1 e1 64 = y := ⟨_, rfl⟩
  have HY3 := hide hy3
  rw [hy3] at rd3 hli2 ⊢
  clear hy3
  obtain ⟨key, i2, e2⟩ := y3
  simp only at rd3 hli2 ⊢
  have HB3 := hide (fun y hy => by have h9 := b3 y hy; have h8 := lt_of_block (unhide HTA).c; omega : ∀ y ∈ blk rv3, w.heap.size + 1 + 1 + 1 < y)
  obtain ⟨a3, m3, c3, hu3, _⟩ := id rd3
  subst hu3
  have HRD3 := hide rd3
  have HT3 := hide ((unhide HTA).old k3)
  clear rd3 b3 k3
  obtain ⟨⟨s0, s1, s2⟩, t0, t1, t2⟩ := three (unhide HT3).r
  obtain ⟨⟨d0, d1, d2⟩, f0, f1, f2⟩ := three (unhide HT3).c
  have HK3 := hide (eput3_kept ((Kept.refl [w.heap.size, w.heap.size + 1, w.heap.size + 1 + 1, w.heap.size + 1 + 1 + 1] w3).setCell (p := ⟨w.heap.size + 1 + 1 + 1, 1, none⟩) (Or.inl (by simp)) (.slice a3 m3 c3)) w.heap.size (Or.inl (by simp)) (.slice ao p.length c) (.int .i64 (i2 : Int)) (.int .i64 (e2 : Int)))
  have HTF := hide (((unhide HT3).setY (.slice a3 m3 c3)).setR (.slice ao p.length c) i2 e2)
  have HDE := hide (by rw [← unhide HD]; unfold docT2 docF; simp [unhide HY3] : D = (⟨2, key, []⟩, i2, e2))
  go_wp2_with fail
  clear s0 s1 s2 t0 t1 t2 d0 d1 d2 f0 f1 f2
  obtain ⟨WF, hWF⟩ : ∃ W, ((((w3.setCell ⟨w.heap.size + 1 + 1 + 1, 1, none⟩ (.slice a3 m3 c3)).setCell ⟨w.heap.size, 0, none⟩ (.slice ao p.length c)).setCell ⟨w.heap.size, 1, none⟩ (.int .i64 (i2 : Int))).setCell ⟨w.heap.size, 2, none⟩ (.int .i64 (e2 : Int))) = W := ⟨_, rfl⟩
  rw [hWF] at HTF HK3 ⊢
  clear hWF
  have hrg : WF.drew.rangeAt (w.heap.size + 1 + 1 + 1) 0 [.int .u8 2, .slice a3 m3 c3, .slice none 0 0] := range_row (unhide HTF).c
  have hrr : WF.drew.rangeAt w.heap.size 0 [.slice ao p.length c, .int .i64 (i2 : Int), .int .i64 (e2 : Int)] := range_row (unhide HTF).r
  have hth : WF.drew.there (w.heap.size + 1) 0 3 := there_row (w := WF.drew) (cs := [.int .u8 0, .slice none 0 0, .slice none 0 0]) (unhide HTF).a
  have htt : WF.drew.there (w.heap.size + 1 + 1) 0 3 := there_row (w := WF.drew) (cs := [.slice none 0 0, .int .i64 0, .int .i64 0]) (unhide HTF).b
  refine wp_ret4 (by kernel_rfl) (by kernel_rfl) (by kernel_rfl) (by kernel_rfl) (by kernel_rfl) (by kernel_rfl) (by kernel_rfl) (by kernel_rfl) rfl rfl rfl rfl 71 139 _ _ _ _ _ _ rfl rfl rfl rfl
    (w.heap.size + 1 + 1 + 1) w.heap.size (w.heap.size + 1) (w.heap.size + 1 + 1) [.int .u8 2, .slice a3 m3 c3, .slice none 0 0] [.slice ao p.length c, .int .i64 (i2 : Int), .int .i64 (e2 : Int)] _ _ hrg hrr hth htt (by omega)
    Tryz.underlying71 rfl Tryz.size_entry (by intro v hv; simp at hv; rcases hv with rfl | rfl | rfl <;> rfl) Tryz.underlying139 rfl Tryz.size_rr (by intro v hv; simp at hv; rcases hv with rfl | rfl | rfl <;> rfl) rfl rfl rfl rfl rfl rfl rfl rfl rfl rfl rfl rfl rfl ?_
  have k1 := setCells_kept (w.heap.size + 1) (Or.inl (by simp)) [.int .u8 2, .slice a3 m3 c3, .slice none 0 0] 0 _ (Kept.refl [w.heap.size + 1] WF.drew)
  have k2 := setCells_kept (w.heap.size + 1 + 1) (Or.inl (by simp)) [.slice ao p.length c, .int .i64 (i2 : Int), .int .i64 (e2 : Int)] 0 _ (Kept.refl [w.heap.size + 1 + 1] (WF.drew.setCells (w.heap.size + 1) 0 [.int .u8 2, .slice a3 m3 c3, .slice none 0 0]))
  have HE1 := hide (k2.heap (setCells_row (vs := [.int .u8 2, .slice a3 m3 c3, .slice none 0 0]) (show WF.drew.heap[w.heap.size + 1]? = some (.cells ([.int .u8 0, .slice none 0 0, .slice none 0 0] : List Value).toArray 71 (0, 0)) from (unhide HTF).a) rfl) (by simp))
  have HE2 := hide (setCells_row (vs := [.slice ao p.length c, .int .i64 (i2 : Int), .int .i64 (e2 : Int)]) (k1.heap (show WF.drew.heap[w.heap.size + 1 + 1]? = some (.cells ([.slice none 0 0, .int .i64 0, .int .i64 0] : List Value).toArray 139 (0, 0)) from (unhide HTF).b) (by simp)) rfl)
  have HKF := hide (setCells_kept (w.heap.size + 1 + 1) (Or.inr (by omega)) [.slice ao p.length c, .int .i64 (i2 : Int), .int .i64 (e2 : Int)] 0 _ (setCells_kept (w.heap.size + 1) (Or.inr (by omega)) [.int .u8 2, .slice a3 m3 c3, .slice none 0 0] 0 _ (unhide HTF).kept.drew))
  have HKR := hide (setCells_kept (w.heap.size + 1 + 1) (Or.inl (by simp)) [.slice ao p.length c, .int .i64 (i2 : Int), .int .i64 (e2 : Int)] 0 _ (setCells_kept (w.heap.size + 1) (Or.inl (by simp)) [.int .u8 2, .slice a3 m3 c3, .slice none 0 0] 0 _ (Kept.refl [w.heap.size, w.heap.size + 1, w.heap.size + 1 + 1, w.heap.size + 1 + 1 + 1] WF).drew))
  clear k1 k2
  all_goals go_wp2
  all_goals
    refine bodyPost_ret (v := .tuple #[.agg #[.int .u8 2, .slice a3 m3 c3, .slice none 0 0], .agg #[(.slice ao p.length c), .int .i64 (i2 : Int), .int .i64 (e2 : Int)]]) ?_ rfl ⟨.slice a3 m3 c3, .slice none 0 0, by rw [unhide HDE]; rfl, ?_, unhide HKF, ?_⟩
    · exact results_row_row rfl _ _ (w.heap.size + 1) (w.heap.size + 1 + 1) _ _ #[.int .u8 2, .slice a3 m3 c3, .slice none 0 0] #[(.slice ao p.length c), .int .i64 (i2 : Int), .int .i64 (e2 : Int)] (0, 0) (0, 0) _ _ rfl (by exact unhide HE1) rfl (by exact unhide HE2) Tryz.underlying71 rfl Tryz.size_entry Tryz.underlying139 rfl Tryz.size_rr
    · rw [unhide HDE]
      exact ⟨by show (2 : Nat) < 256; omega, ((unhide HRD3).kept (unhide HK3) (fun x hx => by have h9 := unhide HB3 x hx; simp; omega)).kept (unhide HKR) (fun x hx => by have h9 := unhide HB3 x hx; simp; omega), Rd.nil _⟩
    · intro y hy
      rcases hy with hy | hy
      · have h9 := unhide HB3 y hy; omega
      · simp [blk] at hy
end Go.Proofs.YtckkalmhekfnhaaGreatDoor
namespace Go.Proofs.YtckkalmhekfnhaaGreatDoor
open Go.RowKit Go.BigFrame
set_option linter.unusedVariables false
set_option linter.unusedSimpArgs false

set_option maxRecDepth 100000 in
set_option maxHeartbeats 2000000 in
theorem refTake_3 (ao : Option Addr) (c : Nat) (p : List Nat) (i e : Nat) (w : World) (h : Rd w (.slice ao p.length c) p) (hi : i ≤ p.length) (hx0 : (rNum p i e 1).1 ≠ 1 ∧ (rNum p i e 1).1 ≠ 2) :
    Calls Tryz.prog 83 #[rrV (.slice ao p.length c) i e] w fun r w' => ∃ kv vv, r = .returned (.tuple #[.agg (enC (docT p i e).1 kv vv), rrV (.slice ao p.length c) (docT p i e).2.1 (docT p i e).2.2]) ∧ OkE w' (docT p i e).1 kv vv ∧ Kept [] w w' ∧ ∀ y, y ∈ blk kv ∨ y ∈ blk vv → w.heap.size ≤ y := by
  have H := hide h
  clear h
  obtain ⟨D, hD⟩ : ∃ D, docT p i e = D := ⟨_, rfl⟩
  rw [hD]
  have HD := hide hD
  unfold docT at HD
  clear hD
  have HT0 := hide (TK.start w (.slice ao p.length c) i e)
  have hne : ∀ n, w.heap.size ≠ w.heap.size + n + 1 := fun n => by omega
  go_enter Tryz.func83, Tryz.ntmps83
  go_wp2_with fail
  refine Calls.mono (takeWide_any ao c p i e 1 _ ((unhide H).old (unhide HT0).kept (by simp)) hi (by decide)) ?_
  rintro r w1 ⟨rfl, k1⟩
  have hxl := ru_lt p i e 1
  have hli1 := rNum_le' (p := p) (i := i) (e := e) (n := 1) hi
  obtain ⟨x, hx⟩ : ∃ x, rNum p i e 1 = x := ⟨_, rfl⟩
  rw [hx] at HD hxl hli1 hx0 ⊢
  clear hx
  obtain ⟨x, i1, e1⟩ := x
  simp only at HD hxl hli1 hx0 ⊢
  have HT1 := hide ((unhide HT0).old k1)
  clear k1
  have hzz := hli1
  obtain ⟨hx1, hx2⟩ := hx0
  have hb1 : ((x : Int) != 1) = true := by rw [bne_iff_ne]; omega
  have hb2 : ((x : Int) != 2) = true := by rw [bne_iff_ne]; omega
  have hb3 : ((x : Int) == 1) = false := by rw [beq_eq_false_iff_ne]; omega
  obtain ⟨y, hy⟩ : ∃ y, x % 256 = y := ⟨_, rfl⟩
  have hy256 : y < 256 := by omega
  have hkw : IntKind.u8.wrap (x : Int) = (y : Int) := by simp [IntKind.wrap, IntKind.signed, IntKind.bits]; omega
  have hkm : (x : Int) % 256 = (y : Int) := by omega
  have HYY := hide hy
  clear hy
  have hik : Tryz.prog.intKind 5 = .u8 := by kernel_rfl
  obtain ⟨⟨s0, s1, s2⟩, t0, t1, t2⟩ := three (unhide HT1).r
  obtain ⟨⟨d0, d1, d2⟩, f0, f1, f2⟩ := three (unhide HT1).c
  have HTQ := hide ((unhide HT1).setR (.slice ao p.length c) i1 e1)
  go_wp2_with fail
  clear s0 s1 s2 t0 t1 t2 d0 d1 d2 f0 f1 f2
  obtain ⟨WQ, hWQ⟩ : ∃ W, (((w1.setCell ⟨w.heap.size, 0, none⟩ (.slice ao p.length c)).setCell ⟨w.heap.size, 1, none⟩ (.int .i64 (i1 : Int))).setCell ⟨w.heap.size, 2, none⟩ (.int .i64 (e1 : Int))) = W := ⟨_, rfl⟩
  rw [hWQ] at HTQ ⊢
  clear hWQ
  refine Calls.mono (failed_any ao p.length c i1 e1 3 WQ) ?_
  rintro r w4 ⟨rfl, k4⟩
  obtain ⟨f1n, hf1n⟩ : ∃ f, (if e1 = 0 then 3 else e1) = f := ⟨_, rfl⟩
  have HF1 := hide hf1n
  rw [hf1n]
  clear hf1n
  have HT4 := hide ((unhide HTQ).old k4)
  clear k4
  obtain ⟨⟨s0, s1, s2⟩, t0, t1, t2⟩ := three (unhide HT4).r
  obtain ⟨⟨d0, d1, d2⟩, f0, f1, f2⟩ := three (unhide HT4).c
  have HTA := hide (((unhide HT4).setR (.slice ao p.length c) i1 f1n).setK y)
  go_wp2_with fail
  clear s0 s1 s2 t0 t1 t2 d0 d1 d2 f0 f1 f2
  obtain ⟨WA, hWA⟩ : ∃ W, ((((w4.setCell ⟨w.heap.size, 0, none⟩ (.slice ao p.length c)).setCell ⟨w.heap.size, 1, none⟩ (.int .i64 (i1 : Int))).setCell ⟨w.heap.size, 2, none⟩ (.int .i64 (f1n : Int))).setCell ⟨w.heap.size + 1 + 1 + 1, 0, none⟩ (.int .u8 (y : Int))) = W := ⟨_, rfl⟩
  rw [hWA] at HTA ⊢
  clear hWA
  refine Calls.mono (takeBlob_any ao c p i1 f1n 64 WA ((unhide H).old (unhide HTA).kept (by simp)) hli1 (by decide)) ?_
  rintro r w3 ⟨rv3, rfl, rd3, k3, b3⟩
  have hli2 := rBlob_le (p := p) (i := i1) (e := f1n) (m := 64) hli1
  obtain ⟨y3, hy3⟩ : ∃ y, rBlob p i1 f1n 64 = y := ⟨_, rfl⟩
  have HY3 := hide hy3
  rw [hy3] at rd3 hli2 ⊢
  clear hy3
  obtain ⟨key, i2, e2⟩ := y3
  simp only at rd3 hli2 ⊢
  have HB3 := hide (fun y hy => by have h9 := b3 y hy; have h8 := lt_of_block (unhide HTA).c; omega : ∀ y ∈ blk rv3, w.heap.size + 1 + 1 + 1 < y)
  obtain ⟨a3, m3, c3, hu3, _⟩ := id rd3
  subst hu3
  have HRD3 := hide rd3
  have HT3 := hide ((unhide HTA).old k3)
  clear rd3 b3 k3
  obtain ⟨⟨s0, s1, s2⟩, t0, t1, t2⟩ := three (unhide HT3).r
  obtain ⟨⟨d0, d1, d2⟩, f0, f1, f2⟩ := three (unhide HT3).c
  have HK3 := hide (eput3_kept ((Kept.refl [w.heap.size, w.heap.size + 1, w.heap.size + 1 + 1, w.heap.size + 1 + 1 + 1] w3).setCell (p := ⟨w.heap.size + 1 + 1 + 1, 1, none⟩) (Or.inl (by simp)) (.slice a3 m3 c3)) w.heap.size (Or.inl (by simp)) (.slice ao p.length c) (.int .i64 (i2 : Int)) (.int .i64 (e2 : Int)))
  have HTF := hide (((unhide HT3).setY (.slice a3 m3 c3)).setR (.slice ao p.length c) i2 e2)
  have HDE := hide (by rw [← unhide HD]; unfold docT2 docF; rw [if_neg hx1, if_neg (by omega), unhide HF1, unhide HY3, unhide HYY] : D = (⟨y, key, []⟩, i2, e2))
  go_wp2_with fail
  clear s0 s1 s2 t0 t1 t2 d0 d1 d2 f0 f1 f2
  obtain ⟨WF, hWF⟩ : ∃ W, ((((w3.setCell ⟨w.heap.size + 1 + 1 + 1, 1, none⟩ (.slice a3 m3 c3)).setCell ⟨w.heap.size, 0, none⟩ (.slice ao p.length c)).setCell ⟨w.heap.size, 1, none⟩ (.int .i64 (i2 : Int))).setCell ⟨w.heap.size, 2, none⟩ (.int .i64 (e2 : Int))) = W := ⟨_, rfl⟩
  rw [hWF] at HTF HK3 ⊢
  clear hWF
  have hrg : WF.drew.rangeAt (w.heap.size + 1 + 1 + 1) 0 [.int .u8 (y : Int), .slice a3 m3 c3, .slice none 0 0] := range_row (unhide HTF).c
  have hrr : WF.drew.rangeAt w.heap.size 0 [.slice ao p.length c, .int .i64 (i2 : Int), .int .i64 (e2 : Int)] := range_row (unhide HTF).r
  have hth : WF.drew.there (w.heap.size + 1) 0 3 := there_row (w := WF.drew) (cs := [.int .u8 0, .slice none 0 0, .slice none 0 0]) (unhide HTF).a
  have htt : WF.drew.there (w.heap.size + 1 + 1) 0 3 := there_row (w := WF.drew) (cs := [.slice none 0 0, .int .i64 0, .int .i64 0]) (unhide HTF).b
  refine wp_ret4 (by kernel_rfl) (by kernel_rfl) (by kernel_rfl) (by kernel_rfl) (by kernel_rfl) (by kernel_rfl) (by kernel_rfl) (by kernel_rfl) rfl rfl rfl rfl 71 139 _ _ _ _ _ _ rfl rfl rfl rfl
    (w.heap.size + 1 + 1 + 1) w.heap.size (w.heap.size + 1) (w.heap.size + 1 + 1) [.int .u8 (y : Int), .slice a3 m3 c3, .slice none 0 0] [.slice ao p.length c, .int .i64 (i2 : Int), .int .i64 (e2 : Int)] _ _ hrg hrr hth htt (by omega)
    Tryz.underlying71 rfl Tryz.size_entry (by intro v hv; simp at hv; rcases hv with rfl | rfl | rfl <;> rfl) Tryz.underlying139 rfl Tryz.size_rr (by intro v hv; simp at hv; rcases hv with rfl | rfl | rfl <;> rfl) rfl rfl rfl rfl rfl rfl rfl rfl rfl rfl rfl rfl rfl ?_
  have k1 := setCells_kept (w.heap.size + 1) (Or.inl (by simp)) [.int .u8 (y : Int), .slice a3 m3 c3, .slice none 0 0] 0 _ (Kept.refl [w.heap.size + 1] WF.drew)
  have k2 := setCells_kept (w.heap.size + 1 + 1) (Or.inl (by simp)) [.slice ao p.length c, .int .i64 (i2 : Int), .int .i64 (e2 : Int)] 0 _ (Kept.refl [w.heap.size + 1 + 1] (WF.drew.setCells (w.heap.size + 1) 0 [.int .u8 (y : Int), .slice a3 m3 c3, .slice none 0 0]))
  have HE1 := hide (k2.heap (setCells_row (vs := [.int .u8 (y : Int), .slice a3 m3 c3, .slice none 0 0]) (show WF.drew.heap[w.heap.size + 1]? = some (.cells ([.int .u8 0, .slice none 0 0, .slice none 0 0] : List Value).toArray 71 (0, 0)) from (unhide HTF).a) rfl) (by simp))
  have HE2 := hide (setCells_row (vs := [.slice ao p.length c, .int .i64 (i2 : Int), .int .i64 (e2 : Int)]) (k1.heap (show WF.drew.heap[w.heap.size + 1 + 1]? = some (.cells ([.slice none 0 0, .int .i64 0, .int .i64 0] : List Value).toArray 139 (0, 0)) from (unhide HTF).b) (by simp)) rfl)
  have HKF := hide (setCells_kept (w.heap.size + 1 + 1) (Or.inr (by omega)) [.slice ao p.length c, .int .i64 (i2 : Int), .int .i64 (e2 : Int)] 0 _ (setCells_kept (w.heap.size + 1) (Or.inr (by omega)) [.int .u8 (y : Int), .slice a3 m3 c3, .slice none 0 0] 0 _ (unhide HTF).kept.drew))
  have HKR := hide (setCells_kept (w.heap.size + 1 + 1) (Or.inl (by simp)) [.slice ao p.length c, .int .i64 (i2 : Int), .int .i64 (e2 : Int)] 0 _ (setCells_kept (w.heap.size + 1) (Or.inl (by simp)) [.int .u8 (y : Int), .slice a3 m3 c3, .slice none 0 0] 0 _ (Kept.refl [w.heap.size, w.heap.size + 1, w.heap.size + 1 + 1, w.heap.size + 1 + 1 + 1] WF).drew))
  clear k1 k2
  all_goals go_wp2
  all_goals
    refine bodyPost_ret (v := .tuple #[.agg #[.int .u8 (y : Int), .slice a3 m3 c3, .slice none 0 0], .agg #[(.slice ao p.length c), .int .i64 (i2 : Int), .int .i64 (e2 : Int)]]) ?_ rfl ⟨.slice a3 m3 c3, .slice none 0 0, by rw [unhide HDE]; rfl, ?_, unhide HKF, ?_⟩
    · exact results_row_row rfl _ _ (w.heap.size + 1) (w.heap.size + 1 + 1) _ _ #[.int .u8 (y : Int), .slice a3 m3 c3, .slice none 0 0] #[(.slice ao p.length c), .int .i64 (i2 : Int), .int .i64 (e2 : Int)] (0, 0) (0, 0) _ _ rfl (by exact unhide HE1) rfl (by exact unhide HE2) Tryz.underlying71 rfl Tryz.size_entry Tryz.underlying139 rfl Tryz.size_rr
    · rw [unhide HDE]
      exact ⟨hy256, ((unhide HRD3).kept (unhide HK3) (fun x hx => by have h9 := unhide HB3 x hx; simp; omega)).kept (unhide HKR) (fun x hx => by have h9 := unhide HB3 x hx; simp; omega), Rd.nil _⟩
    · intro y hy
      rcases hy with hy | hy
      · have h9 := unhide HB3 y hy; omega
      · simp [blk] at hy
end Go.Proofs.YtckkalmhekfnhaaGreatDoor
namespace Go.Proofs.YtckkalmhekfnhaaGreatDoor
open Go.RowKit Go.BigFrame
set_option linter.unusedVariables false
set_option linter.unusedSimpArgs false

theorem refTake_any (ao : Option Addr) (c : Nat) (p : List Nat) (i e : Nat) (w : World) (h : Rd w (.slice ao p.length c) p) (hi : i ≤ p.length) :
    Calls Tryz.prog 83 #[rrV (.slice ao p.length c) i e] w fun r w' => ∃ kv vv, r = .returned (.tuple #[.agg (enC (docT p i e).1 kv vv), rrV (.slice ao p.length c) (docT p i e).2.1 (docT p i e).2.2]) ∧ OkE w' (docT p i e).1 kv vv ∧ Kept [] w w' ∧ ∀ y, y ∈ blk kv ∨ y ∈ blk vv → w.heap.size ≤ y := by
  by_cases h1 : (rNum p i e 1).1 = 1
  · exact refTake_1 ao c p i e w h hi h1
  by_cases h2 : (rNum p i e 1).1 = 2
  · exact refTake_2 ao c p i e w h hi h2
  exact refTake_3 ao c p i e w h hi ⟨h1, h2⟩
end Go.Proofs.YtckkalmhekfnhaaGreatDoor
