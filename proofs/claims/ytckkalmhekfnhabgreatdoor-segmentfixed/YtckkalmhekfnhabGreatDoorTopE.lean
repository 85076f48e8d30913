import Derived.Test.YtckkalmhekfnhabGreatDoorTopA
import Derived.Test.YtckkalmhekfnhabGreatDoorTopD
import Derived.Test.YtckkalmhekfnhabGreatDoorTopB
import Derived.Test.YtckkalmhekfnhabGreatDoorBase
import Derived.Test.YtckkalmhekfnhabGreatDoorCards
import Derived.Test.YtckkalmhekfnhabGreatDoorTie
import Derived.ProofKit
import Derived.OpenShut
import Derived.Deep.Slices
import Derived.SizedLaws
namespace Go.Proofs.YtckkalmhekfnhabGreatDoor
open Go.RowKit Go.BigFrame
set_option linter.unusedVariables false
set_option linter.unusedSimpArgs false

set_option maxRecDepth 100000 in
set_option maxHeartbeats 2000000 in
theorem twinEntries_any (v : Value) (es : List En) (w : World) (h : RdN w v es) (hl : es.length ≤ 1048576) :
    Calls Tryz.prog 43 #[v] w fun r w' => ∃ v', r = .returned v' ∧ NewN w.heap.size w' v' es ∧ Kept [] w w' := by
  obtain ⟨ao, len, cap, kv, vv, rfl, h1, h2, h3, h4, h5⟩ := h
  have H4 := hide h4
  have H5 := hide h5
  clear h4 h5
  subst h1
  go_enter Tryz.func43, Tryz.ntmps43
  go_wp2_with fail
  go_loopw [8, 3] (fun t12 t3 wr => ∃ (i : Nat) (ts : List (En × Value × Value)), i ≤ es.length ∧ t12 = .int .i64 i ∧ Hid (ts.map (·.1) = es.take i) ∧ Hid (OwnN [] w wr t3 ts)) (fun t _ _ => es.length - (intOf t).toNat)
  case atStart => exact ⟨0, [], Nat.zero_le _, rfl, hide (by simp), hide (OwnN.start (Kept.refl [] w))⟩
  case round =>
    obtain ⟨i, ts, hi, rfl, HTS, HO⟩ := hrel
    have HTL := hide (by have h9 := congrArg List.length (unhide HTS); simp only [List.length_map, List.length_take] at h9; omega : ts.length ≤ 1048576)
    by_cases hlt : i < es.length
    · have hlt' : (i : Int) < es.length := by omega
      obtain ⟨b, off, rfl, hcc⟩ := unhide H5 (by omega)
      have hr := hcc i hlt
      have q0 := (unhide HO).kept.cell (hr 0 _ rfl) (by simp)
      have q1 := (unhide HO).kept.cell (hr 1 _ rfl) (by simp)
      have q2 := (unhide HO).kept.cell (hr 2 _ rfl) (by simp)
      rw [Nat.add_zero] at q0
      have HE := hide ((unhide H4 i hlt).old (unhide HO).kept)
      have HSN := hide (by rw [List.take_succ_eq_append_getElem hlt] : es.take (i + 1) = es.take i ++ [es[i]])
      clear hcc hr
      generalize kv i = kvi at q1 HE
      generalize vv i = vvi at q2 HE
      generalize es[i] = e at q0 HE HSN
      obtain ⟨a8, m8, c8, rfl, _⟩ := id (unhide HE).key
      obtain ⟨a9, m9, c9, rfl, _⟩ := id (unhide HE).val
      have HSZ := hide (unhide HO).kept.size
      go_wp2_with fail
      have k1 := (Kept.refl [] wr).alloc (.cells #[.int .u8 (e.k : Int), .slice a8 m8 c8, .slice a9 m9 c9] 44)
      refine Calls.mono (twinEntry_any e _ _ _ ((unhide HE).old k1)) ?_
      rintro r w2 ⟨kv2, vv2, rfl, ok2, k2, n2⟩
      obtain ⟨a3, m3, c3, hu3, _⟩ := id ok2.key
      subst hu3
      obtain ⟨a4, m4, c4, hu4, _⟩ := id ok2.val
      subst hu4
      have HN2 := hide (fun y hy => by have h9 := n2 y hy; rw [show (wr.alloc (.cells #[.int .u8 (e.k : Int), .slice a8 m8 c8, .slice a9 m9 c9] 44)).heap.size = wr.heap.size + 1 from Array.size_push _] at h9; exact h9 : ∀ y, y ∈ blk (.slice a3 m3 c3) ∨ y ∈ blk (.slice a4 m4 c4) → wr.heap.size + 1 ≤ y)
      have HO2 := hide (((unhide HO).old (M := []) (k1.trans k2 (by simp)) (by simp)).old (M := []) ((Kept.refl [] w2).alloc (.cells #[.int .u8 (e.k : Int), .slice a3 m3 c3, .slice a4 m4 c4] 44)) (by simp))
      have HK2 := hide (ok2.old ((Kept.refl [] w2).alloc (.cells #[.int .u8 (e.k : Int), .slice a3 m3 c3, .slice a4 m4 c4] 44)))
      have HB2 := hide (unhide HO2).kept.size
      have HOL := hide (fun g hg => ((unhide HO).own.lt g hg).2 : ∀ g, u3.ownBlock = some g → g < wr.heap.size)
      clear k1 k2 n2 ok2
      simp only [enC]
      go_wp2_with (at_builtin; refine wpList_pushN rfl _ _ rfl rfl _ w.heap.size u3 ts e (.slice a3 m3 c3) (.slice a4 m4 c4) w2.heap.size (unhide HO2).own (heap_alloc_new _ _) rfl rfl (by have := unhide HTL; omega) (unhide HB2) rfl rfl ?_; intro g cap2 w5 HO5 HG5 HA5)
      refine ⟨⟨i + 1, ts ++ [(e, .slice a3 m3 c3, .slice a4 m4 c4)], by omega, by go_num, hide ?_, hide ?_⟩, ?_⟩
      · rw [List.map_append, unhide HTS, unhide HSN]; rfl
      · refine (unhide HO2).push (unhide HK2) (fun b' hb' => ?_) (unhide HO5) (unhide HG5) (unhide HA5)
        have h9 : wr.heap.size + 1 ≤ b' := by
          rcases hb' with hb' | hb'
          · exact unhide HN2 b' (Or.inl (mem_nblk hb').1)
          · exact unhide HN2 b' (Or.inr (mem_nblk hb').1)
        have h8 := unhide HSZ
        exact ⟨fun e9 => by have h7 := unhide HOL b' e9; omega, by omega⟩
      · simp [intOf]; omega
    · have hlt' : ¬ (i : Int) < es.length := by omega
      have hie : i = es.length := by omega
      subst hie
      rw [List.take_length] at HTS
      go_wp2
      go_ret
      exact ⟨_, rfl, ⟨[], w, ts, (unhide HTS).symm, unhide HO, Nat.le_refl _⟩, (unhide HO).kept⟩

set_option maxRecDepth 100000 in
set_option maxHeartbeats 1000000 in
theorem twinBatch_any (f : Nat) (v : Value) (es : List En) (w : World) (h : RdN w v es) (hl : es.length ≤ 1048576) :
    Calls Tryz.prog 16 #[.agg #[.int .u64 f, v]] w fun r w' => ∃ v', r = .returned (.agg #[.int .u64 f, v']) ∧ NewN w.heap.size w' v' es ∧ Kept [] w w' := by
  have H := hide h
  obtain ⟨a1, m1, c1, _, _, rfl, _⟩ := h
  have HG := hide (((Kept.refl [] (w.alloc (.cells #[.int .u64 (f : Int), .slice a1 m1 c1] 37))).alloc (.cells #[.int .u64 0, .slice none 0 0] 37)).heap (heap_alloc_new w (.cells #[.int .u64 (f : Int), .slice a1 m1 c1] 37)) (by simp))
  have HZ := hide (alloc_at w (.cells #[.int .u64 (f : Int), .slice a1 m1 c1] 37) (.cells #[.int .u64 0, .slice none 0 0] 37))
  have HK0 := hide (((Kept.refl [] w).alloc (.cells #[.int .u64 (f : Int), .slice a1 m1 c1] 37)).alloc (.cells #[.int .u64 0, .slice none 0 0] 37))
  have HSZ := hide (show ((w.alloc (.cells #[.int .u64 (f : Int), .slice a1 m1 c1] 37)).alloc (.cells #[.int .u64 0, .slice none 0 0] 37)).heap.size = w.heap.size + 2 by simp)
  go_enter Tryz.func16, Tryz.ntmps16
  go_wp2_with fail
  obtain ⟨W, hW⟩ : ∃ W, (w.alloc (.cells #[.int .u64 (f : Int), .slice a1 m1 c1] 37)).alloc (.cells #[.int .u64 0, .slice none 0 0] 37) = W := ⟨_, rfl⟩
  rw [hW] at HG HZ HK0 HSZ ⊢
  clear hW
  have x0 : W.cell? ⟨w.heap.size, 0, none⟩ = some (.int .u64 (f : Int)) := by rw [cell_of_row _ _ _ _ _ _ (unhide HG)]; rfl
  have x1 : W.cell? ⟨w.heap.size, 1, none⟩ = some (.slice a1 m1 c1) := by rw [cell_of_row _ _ _ _ _ _ (unhide HG)]; rfl
  have HX0 := hide x0
  have HX1 := hide x1
  have HHW := hide (((unhide H).old (unhide HK0)).old (Kept.refl [] W).drew)
  have hne : w.heap.size ≠ w.heap.size + 1 := by omega
  go_region_held3 (fun w' => w'.cell? ⟨w.heap.size, 0, none⟩ = some (.int .u64 (f : Int)) ∧ w'.cell? ⟨w.heap.size, 1, none⟩ = some (.slice a1 m1 c1)) (go_keep) (first
    | (go_at_call 43; refine (twinEntries_any _ es _ (by exact unhide HHW) hl).mono ?_; rintro e w3 ⟨v3, rfl, r3, k3⟩; obtain ⟨a3, m3, c3, _, _, hu3, _⟩ := id r3.rdN; subst hu3; have HR3 := hide (show NewN W.heap.size w3 (.slice a3 m3 c3) es from r3); have K3 := (Kept.refl [] W).drew.trans k3 (by simp); have HK3 := hide K3; have y0 := K3.cell (unhide HX0) (by simp); have y1 := K3.cell (unhide HX1) (by simp); have HZ3 := hide (K3.heap (unhide HZ) (by simp)); have t0 := cell_of_row _ _ 0 _ _ _ (unhide HZ3); have t1 := cell_of_row _ _ 1 _ _ _ (unhide HZ3); have f0 := frozen_of_row _ _ 0 _ _ (unhide HZ3); have f1 := frozen_of_row _ _ 1 _ _ (unhide HZ3); clear K3 k3 r3))
  all_goals go_wp2
  all_goals
    refine bodyPost_ret (v := .agg #[.int .u64 (f : Int), .slice a3 m3 c3]) ?_ rfl ⟨.slice a3 m3 c3, rfl, ?_, ?_⟩
    · exact results_cell_row rfl _ _ (w.heap.size + 1) _ #[.int .u64 (f : Int), .slice a3 m3 c3] (0, 0) _ rfl (by exact eput2_heap (unhide HZ3) _ _) Tryz.underlying37 rfl Tryz.size_batch
    · have h7 := unhide HSZ
      exact ((unhide HR3).kept (eput2_kept (Kept.refl [w.heap.size + 1] w3) (w.heap.size + 1) (Or.inl (by simp)) _ _) (by simp; omega)).weak (by omega)
    · exact eput2_kept ((unhide HK0).trans (unhide HK3) (by simp)) (w.heap.size + 1) (Or.inr (by omega)) _ _
end Go.Proofs.YtckkalmhekfnhabGreatDoor
namespace Go.Proofs.YtckkalmhekfnhabGreatDoor
open Go.RowKit Go.BigFrame
set_option linter.unusedVariables false
set_option linter.unusedSimpArgs false

/-- Batches with the numbers that go on from i. -/
def numS : Nat → List (List En) → List (Nat × List En)
  | _, [] => []
  | i, es :: r => (i, es) :: numS ((i + es.length) % 18446744073709551616) r
def okS : Nat → List (List En) → Bool
  | _, [] => true
  | i, es :: r => decide (chkB i es = 0) && okS ((i + es.length) % 18446744073709551616) r
def runS (ts : List (Nat × List En)) : List Nat := ts.flatMap fun t => sbB t.1 t.2
/-- The places behind them. -/
def atS : Nat → List (Nat × List En) → List Nat
  | n, [] => []
  | n, t :: r => (n + (sbB t.1 t.2).length) :: atS (n + (sbB t.1 t.2).length) r
theorem runS_app (a b : List (Nat × List En)) : runS (a ++ b) = runS a ++ runS b := by simp [runS]
theorem runS_one (t : Nat × List En) : runS [t] = sbB t.1 t.2 := by simp [runS]
theorem runS_cons (t : Nat × List En) (r : List (Nat × List En)) : runS (t :: r) = sbB t.1 t.2 ++ runS r := by simp [runS]
theorem atS_snoc : ∀ (n : Nat) (D : List (Nat × List En)) (t : Nat × List En), atS n (D ++ [t]) = atS n D ++ [n + (runS (D ++ [t])).length]
  | n, [], t => by simp [atS, runS]
  | n, d :: D, t => by
    rw [List.cons_append, atS, atS_snoc _ D t, runS_cons, atS, List.length_append]
    simp; omega
theorem atS_len : ∀ (n : Nat) (D : List (Nat × List En)), (atS n D).length = D.length
  | _, [] => rfl
  | n, d :: D => by rw [atS, List.length_cons, atS_len _ D, List.length_cons]
theorem Tryz.infoI : (Tryz.prog.info? 3).map (fun i => (i.zero, i.size, i.bytes)) = some (some (.int .i64 0), 1, 8) := by kernel_rfl
def intC (xs : List Nat) : List Value := xs.map fun (x : Nat) => .int .i64 (x : Int)
theorem owns_neB {w : World} {b1 b2 : Nat} {e1 e2 : TypeId} {s1 s2 n1 n2 : Nat} {v1 v2 : Value} {x1 x2 : List Value} (h1 : w.ownsRow b1 e1 s1 v1 n1 x1) (h2 : w.ownsRow b2 e2 s2 v2 n2 x2) (he : e1 ≠ e2) : ∀ b, v1.ownBlock = some b → v2.ownBlock ≠ some b := by
  intro b hb hb2
  rcases h1.2 with ⟨rfl, _⟩ | ⟨g, cap, cur, rfl, _, hg, _⟩
  · simp [Value.ownBlock] at hb
  · rcases h2.2 with ⟨rfl, _⟩ | ⟨g', cap', cur', rfl, _, hg', _⟩
    · simp [Value.ownBlock] at hb2
    · simp only [Value.ownBlock, Option.some.injEq] at hb hb2
      subst hb
      subst hb2
      rw [hg] at hg'
      simp at hg'
      first | exact he hg'.2 | exact he hg'.2.1 | exact he hg'.1
/-- Batches and places that are owned, each batch with memory of its own. -/
structure LaA (w0 w : World) (av tv : Value) (ts : List (Nat × Value × List En)) (xs : List Nat) : Prop where
  own : w.ownsRow w0.heap.size 37 2 av ts.length (cellsB ts)
  ints : w.ownsRow w0.heap.size 3 1 tv xs.length (intC xs)
  rd : ∀ t ∈ ts, ∃ B C, C ≤ w.heap.size ∧ w0.heap.size ≤ B ∧ (∀ b, av.ownBlock = some b ∨ tv.ownBlock = some b → b < B ∨ C ≤ b) ∧ ∀ M w', Kept M w w' → (∀ x ∈ M, x < B ∨ C ≤ x) → RdN w' t.2.1 t.2.2
  sz : w0.heap.size ≤ w.heap.size
theorem LaA.pass {w0 w w' : World} {av tv : Value} {ts : List (Nat × Value × List En)} {xs : List Nat} (h : LaA w0 w av tv ts xs) (k : Kept [] w w') : LaA w0 w' av tv ts xs := by
  refine ⟨k.owns h.own (by simp), k.owns h.ints (by simp), fun t ht => ?_, Nat.le_trans h.sz k.size⟩
  obtain ⟨B, C, h1, h2, h3, h4⟩ := h.rd t ht
  exact ⟨B, C, Nat.le_trans h1 k.size, h2, h3, fun N w2 kN hN => h4 N w2 ((k.mono (M := N) (by simp)).trans kN (fun x hx => Or.inl hx)) hN⟩
theorem LaA.int {w0 w W : World} {av tv : Value} {ts : List (Nat × Value × List En)} {xs : List Nat} (h : LaA w0 w av tv ts xs) {x g n cap : Nat} (hn : n = xs.length + 1)
    (o : W.ownsRow w0.heap.size 3 1 (.slice (some ⟨g, 0, none⟩) n cap) n (intC xs ++ [.int .i64 (x : Int)])) (gr : w.grownBy W tv.ownBlock) (hg : tv.ownBlock = some g ∨ g = w.heap.size) :
    LaA w0 W av (.slice (some ⟨g, 0, none⟩) n cap) ts (xs ++ [x]) := by
  have kW : Kept tv.ownBlock.toList w W := ((Kept.refl _ w)).grown gr (by intro k hk; left; simp [hk])
  refine ⟨kW.owns h.own (fun b hb hm => owns_neB h.own h.ints (by decide) b hb (by simpa using hm)), by rw [List.length_append, List.length_singleton, ← hn]; simpa [intC] using o, fun t ht => ?_, Nat.le_trans h.sz kW.size⟩
  obtain ⟨B, C, h1, h2, h3, h4⟩ := h.rd t ht
  refine ⟨B, C, Nat.le_trans h1 kW.size, h2, fun b hb => ?_, fun N w2 kN hN => h4 (tv.ownBlock.toList ++ N) w2 ((kW.mono (M := tv.ownBlock.toList ++ N) (fun x hx => List.mem_append_left _ hx)).trans kN (fun x hx => Or.inl (by simp [hx]))) (fun x hx => ?_)⟩
  · rcases hb with hb | hb
    · exact h3 b (Or.inl hb)
    · simp only [Value.ownBlock, Option.some.injEq] at hb
      subst hb
      rcases hg with hg | hg
      · exact h3 _ (Or.inr hg)
      · omega
  · rcases List.mem_append.1 hx with hx | hx
    · exact h3 x (Or.inr (by simpa using hx))
    · exact hN x hx
theorem LaA.bat {w0 w W : World} {av tv : Value} {ts : List (Nat × Value × List En)} {xs : List Nat} (h : LaA w0 w av tv ts xs) {pl : Nat} {y : Value} {es : List En} {g n cap : Nat} (hn : n = ts.length + 1)
    (hy : ∃ B C, C ≤ w.heap.size ∧ w0.heap.size ≤ B ∧ (∀ b, av.ownBlock = some b ∨ tv.ownBlock = some b → b < B ∨ C ≤ b) ∧ ∀ M w', Kept M w w' → (∀ x ∈ M, x < B ∨ C ≤ x) → RdN w' y es)
    (o : W.ownsRow w0.heap.size 37 2 (.slice (some ⟨g, 0, none⟩) n cap) n (cellsB ts ++ [.int .u64 (pl : Int), y])) (gr : w.grownBy W av.ownBlock) (hg : av.ownBlock = some g ∨ g = w.heap.size) :
    LaA w0 W (.slice (some ⟨g, 0, none⟩) n cap) tv (ts ++ [(pl, y, es)]) xs := by
  have kW : Kept av.ownBlock.toList w W := ((Kept.refl _ w)).grown gr (by intro k hk; left; simp [hk])
  have key : ∀ t ∈ ts ++ [(pl, y, es)], ∃ B C, C ≤ w.heap.size ∧ w0.heap.size ≤ B ∧ (∀ b, av.ownBlock = some b ∨ tv.ownBlock = some b → b < B ∨ C ≤ b) ∧ ∀ M w', Kept M w w' → (∀ x ∈ M, x < B ∨ C ≤ x) → RdN w' t.2.1 t.2.2 := by
    intro t ht
    rcases List.mem_append.1 ht with ht | ht
    · exact h.rd t ht
    · rw [List.mem_singleton] at ht; subst ht; exact hy
  refine ⟨by rw [cellsB_app, List.length_append, List.length_singleton, ← hn]; exact o, kW.owns h.ints (fun b hb hm => owns_neB h.ints h.own (by decide) b hb (by simpa using hm)), fun t ht => ?_, Nat.le_trans h.sz kW.size⟩
  obtain ⟨B, C, h1, h2, h3, h4⟩ := key t ht
  refine ⟨B, C, Nat.le_trans h1 kW.size, h2, fun b hb => ?_, fun N w2 kN hN => h4 (av.ownBlock.toList ++ N) w2 ((kW.mono (M := av.ownBlock.toList ++ N) (fun x hx => List.mem_append_left _ hx)).trans kN (fun x hx => Or.inl (by simp [hx]))) (fun x hx => ?_)⟩
  · rcases hb with hb | hb
    · simp only [Value.ownBlock, Option.some.injEq] at hb
      subst hb
      rcases hg with hg | hg
      · exact h3 _ (Or.inl hg)
      · omega
    · exact h3 b (Or.inr hb)
  · rcases List.mem_append.1 hx with hx | hx
    · exact h3 x (Or.inl (by simpa using hx))
    · exact hN x hx
theorem LaA.rdB {w0 w : World} {av tv : Value} {ts : List (Nat × Value × List En)} {xs : List Nat} (h : LaA w0 w av tv ts xs) : RdB w av (ts.map fun t => (t.1, t.2.2)) :=
  OwnB.rdB (w0 := w0) ⟨h.own, fun t ht => by obtain ⟨B, C, h1, h2, h3, h4⟩ := h.rd t ht; exact ⟨B, C, h1, h2, fun b hb => h3 b (Or.inl hb), h4⟩, h.sz⟩
/-- The slice value v reads as these numbers. -/
def RdJ (w : World) (v : Value) (xs : List Nat) : Prop := ∃ (b c : Nat), v = .slice (some ⟨b, 0, none⟩) xs.length c ∧ xs.length ≤ c ∧ ∀ i (h : i < xs.length), w.cell? ⟨b, i, none⟩ = some (.int .i64 (xs[i] : Int))
theorem LaA.rdJ {w0 w : World} {av tv : Value} {ts : List (Nat × Value × List En)} {xs : List Nat} (h : LaA w0 w av tv ts xs) (hp : 0 < xs.length) : RdJ w tv xs := by
  rcases h.ints.2 with ⟨rfl, h0⟩ | ⟨g, cap, cur, rfl, _, hg, hc, hm', hs, ht⟩
  · omega
  · refine ⟨g, cap, rfl, hc, fun i hi => ?_⟩
    have c1 := h.ints.cells (g := g) rfl i (.int .i64 (xs[i] : Int)) (by simp [intC, hi])
    rw [Addr.add_mid, Nat.zero_add] at c1
    exact c1
theorem pushI (w : World) (base : Nat) (v : Value) (xs : List Nat) (x : Nat) (H : Nat) (h : w.ownsRow base 3 1 v xs.length (intC xs)) (hnew : w.heap[H]? = some (.cells #[.int .i64 (x : Int)] 3 (0, 0))) (hl : xs.length + 1 ≤ 1000000000000) (hb : base ≤ w.heap.size) :
    ∃ g cap w1, (Builtin.append_ #[65, 65] 65 #[v, .slice (some ⟨H, 0, none⟩) 1 1]).run Tryz.prog w = .ok (.slice (some ⟨g, 0, none⟩) (xs.length + 1) cap) w1 ∧
      w1.ownsRow base 3 1 (.slice (some ⟨g, 0, none⟩) (xs.length + 1) cap) (xs.length + 1) (intC xs ++ [.int .i64 (x : Int)]) ∧ w.grownBy w1 v.ownBlock ∧ (v.ownBlock = some g ∨ g = w.heap.size) := by
  obtain ⟨i0, hi, hz0, hz1, hz2⟩ := info_parts Tryz.infoI
  obtain ⟨g, cap, w1, hr, hown, hgrow, hat, hlt⟩ := run_append_lies (P := Tryz.prog) w 65 65 base 3 i0 (.int .i64 0) 1 8 Tryz.underlying65 hi hz0 hz1 hz2 rfl (by decide)
    v xs.length (intC xs) h ⟨H, 0, none⟩ 1 1 [.int .i64 (x : Int)] rfl (World.news_of_block hnew) (by intro u hu; simp at hu; subst hu; rfl) (by decide) (by unfold maxLen; omega) (by omega) hb _ rfl
  exact ⟨g, cap, w1, hr, hown, hgrow, hat⟩
theorem wpList_pushI {ops : Array Oper} {rest : List Oper} {o : Oper} {a : Act} {Q : Exit → Act → World → Prop} (hgd : o.guard = none) (s x : Operand)
    (ho : o.op = .call { callee := .builtin .append, args := #[s, x], argTypes := #[65, 65] }) (hty : o.type = 65)
    (w : World) (base : Nat) (v : Value) (xs : List Nat) (y : Nat) (H : Nat) (h : w.ownsRow base 3 1 v xs.length (intC xs)) (hnew : w.heap[H]? = some (.cells #[.int .i64 (y : Int)] 3 (0, 0))) (hl : xs.length + 1 ≤ 1000000000000) (hb : base ≤ w.heap.size)
    (hs : a.eval s = v) (hx : a.eval x = .slice (some ⟨H, 0, none⟩) 1 1)
    (hK : ∀ g cap w1, Hid (w1.ownsRow base 3 1 (.slice (some ⟨g, 0, none⟩) (xs.length + 1) cap) (xs.length + 1) (intC xs ++ [.int .i64 (y : Int)])) → Hid (w.grownBy w1 v.ownBlock) → Hid (v.ownBlock = some g ∨ g = w.heap.size) →
      wpList Tryz.prog ops Q rest (a.put o.dst (.slice (some ⟨g, 0, none⟩) (xs.length + 1) cap)) w1) :
    wpList Tryz.prog ops Q (o :: rest) a w := by
  obtain ⟨g, cap, w1, hrun, h2, h3, h4⟩ := pushI w base v xs y H h hnew hl hb
  refine wpList_plain hgd fun K hK' => ?_
  unfold Oper.wp execOp
  simp only [ho, hty, resolve, invoke, builtin, Sem.run_bind, Sem.run_pure, Result.andThen_ok, List.map_toArray, List.map_cons, List.map_nil, hs, hx, hrun]
  exact hK' _ _ (hK g cap w1 h2 h3 h4)
end Go.Proofs.YtckkalmhekfnhabGreatDoor
namespace Go.Proofs.YtckkalmhekfnhabGreatDoor
open Go.RowKit Go.BigFrame
set_option linter.unusedVariables false
set_option linter.unusedSimpArgs false

def ldOk (c : Nat) (z : Int) (L : List (List En)) : Bool := wideB z && okS c L
theorem runS_snoc_len {D : List (Nat × List En)} {i : Nat} {es : List En} {n : Nat} (h : (runS D).length ≤ 30018 * n) (hc : chkB i es = 0) (hi : i < 18446744073709551616) : (runS (D ++ [(i, es)])).length ≤ 30018 * (n + 1) := by
  have := batB_lenS hc hi
  rw [runS_app, List.length_append, runS_one, sbB_len hc]
  omega

end Go.Proofs.YtckkalmhekfnhabGreatDoor
namespace Go.Proofs.YtckkalmhekfnhabGreatDoor
open Go.RowKit Go.BigFrame
set_option linter.unusedVariables false
set_option linter.unusedSimpArgs false

def endS : Nat → List (List En) → Nat
  | i, [] => i
  | i, es :: r => endS ((i + es.length) % 18446744073709551616) r
theorem numS_len : ∀ (i : Nat) (L : List (List En)), (numS i L).length = L.length
  | _, [] => rfl
  | i, es :: r => by rw [numS, List.length_cons, numS_len _ r, List.length_cons]
theorem runS_len_ge : ∀ (i : Nat) (L : List (List En)), okS i L = true → L.length ≤ (runS (numS i L)).length
  | _, [], _ => by simp
  | i, es :: r, h => by
    rw [okS, Bool.and_eq_true, decide_eq_true_eq] at h
    have := runS_len_ge _ r h.2
    rw [numS, runS_cons, List.length_append, sbB_len h.1, List.length_cons]
    omega
theorem runS_len_le : ∀ (i : Nat) (L : List (List En)), i < 18446744073709551616 → okS i L = true → (runS (numS i L)).length ≤ 30018 * L.length
  | _, [], _, _ => by simp [numS, runS]
  | i, es :: r, hi, h => by
    rw [okS, Bool.and_eq_true, decide_eq_true_eq] at h
    have := runS_len_le _ r (by omega) h.2
    have := batB_lenS h.1 hi
    rw [numS, runS_cons, List.length_append, sbB_len h.1, List.length_cons]
    omega
/-- What was laid is read. -/
theorem rdL_run : ∀ (L : List (List En)) (i g : Nat) (A r : List Nat), i < 18446744073709551616 → okS i L = true → (∀ es ∈ L, byN es) →
    rdL (L.length + g) (A ++ (runS (numS i L) ++ r)) A.length i = (numS i L ++ (rdL g (A ++ (runS (numS i L) ++ r)) (A.length + (runS (numS i L)).length) (endS i L)).1, (rdL g (A ++ (runS (numS i L) ++ r)) (A.length + (runS (numS i L)).length) (endS i L)).2)
  | [], i, g, A, r, _, _, _ => by simp [numS, runS, endS]
  | es :: L, i, g, A, r, hi, h, hb => by
    rw [okS, Bool.and_eq_true, decide_eq_true_eq] at h
    obtain ⟨r1, r2, r3⟩ := rb_laid A (runS (numS ((i + es.length) % 18446744073709551616) L) ++ r) h.1 hi (hb es (by simp))
    have hp : A ++ (runS (numS i (es :: L)) ++ r) = A ++ (sbB i es ++ (runS (numS ((i + es.length) % 18446744073709551616) L) ++ r)) := by rw [numS, runS_cons, List.append_assoc]
    have hp2 : A ++ (sbB i es ++ (runS (numS ((i + es.length) % 18446744073709551616) L) ++ r)) = (A ++ sbB i es) ++ (runS (numS ((i + es.length) % 18446744073709551616) L) ++ r) := by rw [List.append_assoc]
    have ih := rdL_run L ((i + es.length) % 18446744073709551616) g (A ++ sbB i es) r (by omega) h.2 (fun x hx => hb x (by simp [hx]))
    rw [← hp2, List.length_append] at ih
    rw [hp, List.length_cons, show L.length + 1 + g = (L.length + g) + 1 by omega, rdL_yes r1, r2, r3, Int.toNat_natCast, ih]
    rw [numS, runS_cons, List.length_append, endS]
    simp [Nat.add_assoc]
theorem rdL_bounds {p : List Nat} (hb : ∀ x ∈ p, x < 256) : ∀ (g n i : Nat), n ≤ p.length → n ≤ (rdL g p n i).2 ∧ (rdL g p n i).2 ≤ p.length
  | 0, n, i, h => ⟨Nat.le_refl _, h⟩
  | g + 1, n, i, h => by
    by_cases hr : rbOk p n i = true
    · obtain ⟨m, hm, h1, h2⟩ := rb_next hb hr
      have := rdL_bounds hb g m ((i + (rbE p n i).length) % 18446744073709551616) h2
      rw [rdL_yes hr, hm, Int.toNat_natCast]
      exact ⟨by simp only; omega, this.2⟩
    · rw [Bool.not_eq_true] at hr
      rw [rdL_no hr]
      exact ⟨Nat.le_refl _, h⟩
/-- A whole segment, with anything behind it. -/
theorem seg_run {a b c : Nat} {z : Int} {L : List (List En)} (r : List Nat) (ha : a < 18446744073709551616) (hb : b < 18446744073709551616) (hc : c < 18446744073709551616) (hz : wideB z = true) (hk : okS c L = true) (hy : ∀ es ∈ L, byN es) :
    hdC (ehB a b c z ++ (runS (numS c L) ++ r)) = ⟨a, b, c, z.toNat⟩ ∧ sgE (ehB a b c z ++ (runS (numS c L) ++ r)) = 0 ∧ ∃ R g, sgB (ehB a b c z ++ (runS (numS c L) ++ r)) = numS c L ++ R ∧
      (R, sgU (ehB a b c z ++ (runS (numS c L) ++ r))) = rdL g (ehB a b c z ++ (runS (numS c L) ++ r)) (48 + (runS (numS c L)).length) (endS c L) := by
  have h1 := hdF_laid ha hb hc hz (runS (numS c L) ++ r)
  have hX : hdC (ehB a b c z ++ (runS (numS c L) ++ r)) = ⟨a, b, c, z.toNat⟩ := by unfold hdC; rw [h1]; rfl
  have hl : (ehB a b c z ++ (runS (numS c L) ++ r)).length = L.length + ((ehB a b c z ++ (runS (numS c L) ++ r)).length - L.length) := by
    have := runS_len_ge c L hk
    rw [List.length_append, List.length_append]
    omega
  have hr := rdL_run L c ((ehB a b c z ++ (runS (numS c L) ++ r)).length - L.length) (ehB a b c z) r hc hk hy
  rw [← hl, ehB_len hz] at hr
  refine ⟨hX, by unfold sgE; rw [h1]; rfl, (rdL ((ehB a b c z ++ (runS (numS c L) ++ r)).length - L.length) (ehB a b c z ++ (runS (numS c L) ++ r)) (48 + (runS (numS c L)).length) (endS c L)).1, (ehB a b c z ++ (runS (numS c L) ++ r)).length - L.length, ?_, ?_⟩
  · unfold sgB; rw [h1, hX]; simp only [Option.isSome_some, if_true]; rw [hr]
  · unfold sgU; rw [h1, hX]; simp only [Option.isSome_some, if_true]; rw [hr]
theorem seg_whole {a b c : Nat} {z : Int} {L : List (List En)} (ha : a < 18446744073709551616) (hb : b < 18446744073709551616) (hc : c < 18446744073709551616) (hz : wideB z = true) (hk : okS c L = true) (hy : ∀ es ∈ L, byN es) :
    hdC (ehB a b c z ++ runS (numS c L)) = ⟨a, b, c, z.toNat⟩ ∧ sgE (ehB a b c z ++ runS (numS c L)) = 0 ∧ sgB (ehB a b c z ++ runS (numS c L)) = numS c L ∧ sgU (ehB a b c z ++ runS (numS c L)) = 48 + (runS (numS c L)).length := by
  obtain ⟨h1, h2, R, g, h3, h4⟩ := seg_run [] ha hb hc hz hk hy
  rw [List.append_nil] at h1 h2 h3 h4
  have hl : 48 + (runS (numS c L)).length = (ehB a b c z ++ runS (numS c L)).length := by rw [List.length_append, ehB_len hz]
  have h5 : rdL g (ehB a b c z ++ runS (numS c L)) (ehB a b c z ++ runS (numS c L)).length (endS c L) = ([], (ehB a b c z ++ runS (numS c L)).length) := rdL_no (rb_end _ _)
  rw [hl, h5] at h4
  obtain ⟨rfl, h6⟩ := Prod.mk.inj h4
  exact ⟨h1, h2, by rw [h3, List.append_nil], by rw [h6, hl]⟩
theorem RdB.byN {w : World} {v : Value} {bs : List (Nat × List En)} (h : RdB w v bs) : ∀ es ∈ bs.map (·.2), byN es := by
  obtain ⟨ao, cap, ts, _, h2, _, _, h5, _⟩ := h
  intro es he
  rw [h2] at he
  simp only [List.map_map, List.mem_map] at he
  obtain ⟨t, ht, rfl⟩ := he
  exact (h5 t ht).byN
theorem atS_last : ∀ (n : Nat) (D : List (Nat × List En)), (n :: atS n D)[D.length]? = some (n + (runS D).length)
  | n, [] => by simp [runS]
  | n, t :: D => by
    rw [atS, List.length_cons, List.getElem?_cons_succ, atS_last _ D, runS_cons, List.length_append]
    simp [Nat.add_assoc]
end Go.Proofs.YtckkalmhekfnhabGreatDoor
namespace Go.Proofs.YtckkalmhekfnhabGreatDoor
open Go.RowKit Go.BigFrame
set_option linter.unusedVariables false
set_option linter.unusedSimpArgs false

theorem numS_take : ∀ (k i : Nat) (L : List (List En)), numS i (L.take k) = (numS i L).take k
  | 0, _, _ => by simp [numS]
  | k + 1, _, [] => by simp [numS]
  | k + 1, i, es :: L => by rw [List.take_succ_cons, numS, numS_take k _ L, numS, List.take_succ_cons]
theorem okS_take : ∀ (k i : Nat) (L : List (List En)), okS i L = true → okS i (L.take k) = true
  | 0, _, _, _ => by simp [okS]
  | k + 1, _, [], _ => by simp [okS]
  | k + 1, i, es :: L, h => by
    rw [okS, Bool.and_eq_true] at h
    rw [List.take_succ_cons, okS, h.1, okS_take k _ L h.2]
    rfl
theorem endS_take : ∀ (k i : Nat) (L : List (List En)) (h : k < L.length), (numS i L)[k]? = some (endS i (L.take k), L[k])
  | 0, i, es :: L, _ => by simp [numS, endS]
  | k + 1, i, es :: L, h => by
    have h' : k < L.length := by simpa using h
    rw [numS, List.getElem?_cons_succ, endS_take k _ L h', List.take_succ_cons, endS]
    simp
theorem okS_mem : ∀ (i : Nat) (L : List (List En)), okS i L = true → ∀ t ∈ numS i L, chkB t.1 t.2 = 0
  | _, [], _, t, ht => by simp [numS] at ht
  | i, es :: L, h, t, ht => by
    rw [okS, Bool.and_eq_true, decide_eq_true_eq] at h
    rw [numS, List.mem_cons] at ht
    rcases ht with rfl | ht
    · exact h.1
    · exact okS_mem _ L h.2 t ht
theorem atS_at : ∀ (k n : Nat) (D : List (Nat × List En)), k ≤ D.length → (n :: atS n D)[k]? = some (n + (runS (D.take k)).length)
  | 0, n, D, _ => by simp [runS]
  | k + 1, n, t :: D, h => by
    have h' : k ≤ D.length := by simpa using h
    rw [atS, List.getElem?_cons_succ, atS_at k _ D h', List.take_succ_cons, runS_cons, List.length_append]
    simp [Nat.add_assoc]
theorem run_take {E : List Nat} {D : List (Nat × List En)} {k : Nat} : (E ++ runS D).take (E.length + (runS (D.take k)).length) = E ++ runS (D.take k) := by
  have e : E ++ runS D = (E ++ runS (D.take k)) ++ runS (D.drop k) := by rw [List.append_assoc, ← runS_app, List.take_append_drop]
  rw [e, ← List.length_append, List.take_left]
theorem run_lt {D : List (Nat × List En)} {k : Nat} (hk : k < D.length) (h : chkB D[k].1 D[k].2 = 0) : (runS (D.take k)).length < (runS D).length := by
  have e : runS D = runS (D.take k) ++ (sbB D[k].1 D[k].2 ++ runS (D.drop (k + 1))) := by
    rw [← runS_cons, ← List.drop_eq_getElem_cons hk, ← runS_app, List.take_append_drop]
  rw [e, List.length_append, List.length_append, sbB_len h]
  omega
/-- A batch whose number is another ends the reading. -/
theorem seg_gap {a b c k f : Nat} {z : Int} {L : List (List En)} {es : List En} (rest : List Nat) (ha : a < 18446744073709551616) (hb : b < 18446744073709551616) (hc : c < 18446744073709551616) (hz : wideB z = true) (hk : okS c L = true) (hy : ∀ es ∈ L, byN es) (hl : k < L.length)
    (hf : f < 18446744073709551616) (hck : chkB f es = 0) (hby : byN es) (hne : f ≠ endS c (L.take k)) :
    hdC (ehB a b c z ++ (runS ((numS c L).take k) ++ (sbB f es ++ rest))) = ⟨a, b, c, z.toNat⟩ ∧ sgE (ehB a b c z ++ (runS ((numS c L).take k) ++ (sbB f es ++ rest))) = 0 ∧ sgB (ehB a b c z ++ (runS ((numS c L).take k) ++ (sbB f es ++ rest))) = (numS c L).take k ∧
      sgU (ehB a b c z ++ (runS ((numS c L).take k) ++ (sbB f es ++ rest))) = 48 + (runS ((numS c L).take k)).length := by
  obtain ⟨h1, h2, R, g, h3, h4⟩ := seg_run (L := L.take k) (sbB f es ++ rest) ha hb hc hz (okS_take k c L hk) (fun x hx => hy x (List.mem_of_mem_take hx))
  rw [numS_take] at h1 h2 h3 h4
  have hlen := batB_lenS hck hf
  have hsb : sbB f es = frB f (batB f es) := by unfold sbB; rw [if_pos hck]
  have hn := nextF_at (ehB a b c z ++ runS ((numS c L).take k)) f (batB f es) rest hf (by omega) (by omega) (batB_byte hby)
  rw [← hsb, List.append_assoc, List.length_append, ehB_len hz] at hn
  have hrb : rbOk (ehB a b c z ++ (runS ((numS c L).take k) ++ (sbB f es ++ rest))) ((48 + (runS ((numS c L).take k)).length : Nat) : Int) (endS c (L.take k)) = false := by
    unfold rbOk
    rw [hn]
    simp [hne]
  rw [rdL_no hrb] at h4
  obtain ⟨rfl, h6⟩ := Prod.mk.inj h4
  exact ⟨h1, h2, by rw [h3, List.append_nil], h6⟩
end Go.Proofs.YtckkalmhekfnhabGreatDoor
namespace Go.Proofs.YtckkalmhekfnhabGreatDoor
open Go.RowKit Go.BigFrame
set_option linter.unusedVariables false
set_option linter.unusedSimpArgs false

theorem firstF_zeros (m : Nat) : firstF (List.replicate m 0) = none := by
  have := firstF_torn 0 [] 0 m (by decide) (by decide) (by simp) (by simp)
  simpa using this
/-- Nothing without the whole head. -/
theorem seg_headless {a b c cut m : Nat} {z : Int} {R : List Nat} (ha : a < 18446744073709551616) (hz : wideB z = true) (hc : cut < 48) :
    hdC ((ehB a b c z ++ R).take cut ++ List.replicate m 0) = ⟨0, 0, 0, 0⟩ ∧ sgE ((ehB a b c z ++ R).take cut ++ List.replicate m 0) = 3 ∧ sgB ((ehB a b c z ++ R).take cut ++ List.replicate m 0) = [] ∧ sgU ((ehB a b c z ++ R).take cut ++ List.replicate m 0) = 0 := by
  have he : ehB a b c z = frB a (headB a b c z) := by simp [ehB, hz]
  have ht : (ehB a b c z ++ R).take cut = (frB a (headB a b c z)).take cut := by
    rw [List.take_append_of_le_length (by rw [ehB_len hz]; omega), he]
  have hf := firstF_torn a (headB a b c z) cut m ha (by rw [headB_len]; decide) (headB_byte a b c z) (by rw [headB_len]; omega)
  rw [← ht] at hf
  have hn : hdF ((ehB a b c z ++ R).take cut ++ List.replicate m 0) = none := by unfold hdF; rw [hf]
  refine ⟨by simp [hdC, hn], by simp [sgE, hn], by simp [sgB, hn], by simp [sgU, hn]⟩
theorem rb_none {p : List Nat} {n i : Nat} (hn : n ≤ p.length) (h : firstF (p.drop n) = none) : rbOk p (n : Nat) i = false := by
  unfold rbOk
  have : (nextF p (n : Nat)).kind ≠ 1 := by
    unfold nextF
    by_cases h1 : (n : Int) = p.length
    · rw [if_pos h1]; simp
    · rw [if_neg h1, if_neg (by omega), Int.toNat_natCast, h]; simp
  simp [this]
/-- A beginning, with noughts behind it: just the batches that are there whole. -/
theorem seg_torn {a b c cut m k : Nat} {z : Int} {L : List (List En)} (ha : a < 18446744073709551616) (hb : b < 18446744073709551616) (hc : c < 18446744073709551616) (hz : wideB z = true) (hk : okS c L = true) (hy : ∀ es ∈ L, byN es) (hkl : k ≤ (numS c L).length)
    (h1 : 48 + (runS ((numS c L).take k)).length ≤ cut) (h2 : k = (numS c L).length ∨ cut < 48 + (runS ((numS c L).take (k + 1))).length) :
    hdC ((ehB a b c z ++ runS (numS c L)).take cut ++ List.replicate m 0) = ⟨a, b, c, z.toNat⟩ ∧ sgE ((ehB a b c z ++ runS (numS c L)).take cut ++ List.replicate m 0) = 0 ∧ sgB ((ehB a b c z ++ runS (numS c L)).take cut ++ List.replicate m 0) = (numS c L).take k ∧
      sgU ((ehB a b c z ++ runS (numS c L)).take cut ++ List.replicate m 0) = 48 + (runS ((numS c L).take k)).length := by
  obtain ⟨D, hD⟩ : ∃ D, numS c L = D := ⟨_, rfl⟩
  have hmem := okS_mem c L hk
  have hsplit : ehB a b c z ++ runS D = (ehB a b c z ++ runS (D.take k)) ++ runS (D.drop k) := by rw [List.append_assoc, ← runS_app, List.take_append_drop]
  have hlen : (ehB a b c z ++ runS (D.take k)).length = 48 + (runS (D.take k)).length := by rw [List.length_append, ehB_len hz]
  rw [hD] at h1 h2 hkl hmem
  obtain ⟨q1, q2, R, g, q3, q4⟩ := seg_run (L := L.take k) ((runS (D.drop k)).take (cut - (48 + (runS (D.take k)).length)) ++ List.replicate m 0) ha hb hc hz (okS_take k c L hk) (fun x hx => hy x (List.mem_of_mem_take hx))
  rw [numS_take, hD] at q1 q2 q3 q4
  have hT : (ehB a b c z ++ runS D).take cut ++ List.replicate m 0 = ehB a b c z ++ (runS (D.take k) ++ ((runS (D.drop k)).take (cut - (48 + (runS (D.take k)).length)) ++ List.replicate m 0)) := by
    rw [hsplit, List.take_append, hlen, List.take_of_length_le (by rw [hlen]; exact h1)]
    simp only [List.append_assoc]
  have hnone : firstF ((runS (D.drop k)).take (cut - (48 + (runS (D.take k)).length)) ++ List.replicate m 0) = none := by
    by_cases hkD : k < D.length
    · have hck := hmem D[k] (List.getElem_mem _)
      have hcut : cut < 48 + (runS (D.take (k + 1))).length := by omega
      rw [List.take_add_one, List.getElem?_eq_getElem hkD] at hcut
      simp only [Option.toList_some] at hcut
      rw [runS_app, List.length_append, runS_one, sbB_len hck] at hcut
      have hfl : D[k].1 < 18446744073709551616 := by have := chkB_lt hck; omega
      have hbl := batB_lenS hck hfl
      have hby : byN D[k].2 := by
        have hkL : k < L.length := by rw [← numS_len c L, hD]; exact hkD
        have h9 := endS_take k c L hkL
        rw [hD, List.getElem?_eq_getElem hkD] at h9
        have h10 := congrArg Prod.snd (Option.some.inj h9)
        simp only at h10
        rw [h10]
        exact hy _ (List.getElem_mem _)
      have hsb : sbB D[k].1 D[k].2 = frB D[k].1 (batB D[k].1 D[k].2) := by unfold sbB; rw [if_pos hck]
      rw [List.drop_eq_getElem_cons hkD, runS_cons, List.take_append_of_le_length (by rw [sbB_len hck]; omega), hsb]
      exact firstF_torn _ _ _ m hfl (by omega) (batB_byte hby) (by omega)
    · rw [List.drop_eq_nil_of_le (by omega)]
      simp only [runS, List.flatMap_nil, List.take_nil, List.nil_append]
      exact firstF_zeros m
  have hrb : rbOk (ehB a b c z ++ (runS (D.take k) ++ ((runS (D.drop k)).take (cut - (48 + (runS (D.take k)).length)) ++ List.replicate m 0))) ((48 + (runS (D.take k)).length : Nat) : Int) (endS c (L.take k)) = false := by
    refine rb_none (by rw [← List.append_assoc, List.length_append, hlen]; omega) ?_
    rw [← List.append_assoc, ← hlen, List.drop_left, hlen]
    exact hnone
  rw [rdL_no hrb] at q4
  obtain ⟨rfl, q6⟩ := Prod.mk.inj q4
  rw [hD, hT]
  exact ⟨q1, q2, by rw [q3, List.append_nil], q6⟩
end Go.Proofs.YtckkalmhekfnhabGreatDoor
namespace Go.Proofs.YtckkalmhekfnhabGreatDoor
open Go.RowKit Go.BigFrame
set_option linter.unusedVariables false
set_option linter.unusedSimpArgs false

theorem run_loadS {P : Program} {o : Oper} {a : Act} (ty : TypeId) (x : Operand) (ho : o.op = .load ty x) (ad : Addr) (hx : a.eval x = .pointer (some ad)) (w : World) (v : Value) (e : TypeId) (hu : P.underlying ty = some (.slice e)) (hc : w.cell? ad = some v) :
    (execOp a.eval o).run P w = .ok (.value v) w := by
  have h2 : (isAgg ty).run P w = .ok false w := by
    unfold isAgg
    rw [Sem.run_bind, run_underlying hu w]; simp
  unfold execOp
  simp only [ho, hx, Instr.loadAt, Instr.sureAddr, Sem.run_bind, Sem.run_pure, Result.andThen_ok, loadVar, h2]
  simp [go_sem, hc]
theorem range4 {w : World} {g : Nat} {x0 x1 x2 x3 : Value} (h : w.cell? ⟨g, 0, none⟩ = some x0 ∧ w.cell? ⟨g, 1, none⟩ = some x1 ∧ w.cell? ⟨g, 2, none⟩ = some x2 ∧ w.cell? ⟨g, 3, none⟩ = some x3) : w.rangeAt g 0 [x0, x1, x2, x3] := by
  intro j u hj
  match j with
  | 0 => simp only [List.getElem?_cons_zero, Option.some.injEq] at hj; subst hj; exact h.1
  | 1 => simp only [List.getElem?_cons_succ, List.getElem?_cons_zero, Option.some.injEq] at hj; subst hj; exact h.2.1
  | 2 => simp only [List.getElem?_cons_succ, List.getElem?_cons_zero, Option.some.injEq] at hj; subst hj; exact h.2.2.1
  | 3 => simp only [List.getElem?_cons_succ, List.getElem?_cons_zero, Option.some.injEq] at hj; subst hj; exact h.2.2.2
  | j + 4 => simp at hj
theorem range2 {w : World} {g off : Nat} {x0 x1 : Value} (h0 : w.cell? ⟨g, off, none⟩ = some x0) (h1 : w.cell? ⟨g, off + 1, none⟩ = some x1) : w.rangeAt g off [x0, x1] := by
  intro j u hj
  match j with
  | 0 => simp only [List.getElem?_cons_zero, Option.some.injEq] at hj; subst hj; exact h0
  | 1 => simp only [List.getElem?_cons_succ, List.getElem?_cons_zero, Option.some.injEq] at hj; subst hj; exact h1
  | j + 2 => simp at hj
theorem RdB.at {w : World} {ao : Option Addr} {n c : Nat} {bs : List (Nat × List En)} (h : RdB w (.slice ao n c) bs) (i : Nat) (hi : i < bs.length) : ∃ b off y, ao = some ⟨b, off, none⟩ ∧ w.cell? ⟨b, off + i * 2, none⟩ = some (.int .u64 (bs[i].1 : Int)) ∧ w.cell? ⟨b, off + i * 2 + 1, none⟩ = some y ∧ RdN w y bs[i].2 := by
  obtain ⟨ao', cap, ts, h1, h2, h3, h4, h5, h6⟩ := h
  cases h1
  have hl : bs.length = ts.length := by rw [h2]; simp
  obtain ⟨b, off, rfl, hc⟩ := h6 (by omega)
  have hi' : i < ts.length := by omega
  obtain ⟨c1, c2⟩ := hc i hi'
  have e1 : bs[i] = (ts[i].1, ts[i].2.2) := by simp [h2]
  exact ⟨b, off, ts[i].2.1, rfl, by rw [e1]; exact c1, c2, by rw [e1]; exact h5 _ (List.getElem_mem _)⟩
theorem RdB.shape {w : World} {v : Value} {bs : List (Nat × List En)} (h : RdB w v bs) : ∃ ao c, v = .slice ao bs.length c ∧ bs.length ≤ c ∧ c ≤ 9223372036854775807 := by
  obtain ⟨ao, cap, ts, rfl, h2, h3, h4, _⟩ := h
  have hl : bs.length = ts.length := by rw [h2]; simp
  exact ⟨ao, cap, by rw [hl], by omega, h4⟩

end Go.Proofs.YtckkalmhekfnhabGreatDoor
namespace Go.Proofs.YtckkalmhekfnhabGreatDoor
open Go.RowKit Go.BigFrame
set_option linter.unusedVariables false
set_option linter.unusedSimpArgs false

theorem number_none (l : List Nat) (w : World) (hb : ∀ x ∈ l, x < 256) (hl : l.length ≤ 140737488355328) (h : l ≠ nmL (dv 0 (l.drop 4))) (hv : VarsS w) :
    Calls Tryz.prog 8 #[.string (strB l)] w fun e w' => e = .returned (.tuple #[.int .u64 0, .int .i64 3]) ∧ Kept [] w w' := by
  refine number_no (strB l) w (by rw [strB_size]; exact hl) (fun u hu e => h ?_) hv
  have e2 := strB_inj hb (nmL_byte u) e
  have e3 : dv 0 (l.drop 4) = u := by rw [e2]; exact dv_name hu
  rw [e3]
  exact e2
def nm9 : List (List Nat) := [[], [115, 101, 103, 45], [115, 101, 103, 45, 55], [115, 101, 103, 45, 49, 56, 52, 52, 54, 55, 52, 52, 48, 55, 51, 55, 48, 57, 53, 53, 49, 54, 49, 54], [115, 101, 103, 45, 48, 48, 48, 48, 48, 48, 48, 48, 48, 48, 48, 48, 48, 48, 48, 48, 48, 48, 48, 120], [115, 101, 103, 45, 48, 48, 48, 48, 48, 48, 48, 48, 48, 48, 48, 48, 48, 48, 48, 48, 48, 48, 48, 48, 55], [83, 101, 103, 45, 48, 48, 48, 48, 48, 48, 48, 48, 48, 48, 48, 48, 48, 48, 48, 48, 48, 48, 48, 55], [115, 101, 103, 45, 57, 57, 57, 57, 57, 57, 57, 57, 57, 57, 57, 57, 57, 57, 57, 57, 57, 57, 57, 57], [115, 101, 103, 43, 48, 48, 48, 48, 48, 48, 48, 48, 48, 48, 48, 48, 48, 48, 48, 48, 48, 48, 48, 55]]
theorem nm9_all : ∀ i : Fin 9, (∀ x ∈ nm9.getD i.val [], x < 256) ∧ (nm9.getD i.val []).length ≤ 25 ∧ nm9.getD i.val [] ≠ nmL (dv 0 ((nm9.getD i.val []).drop 4)) := by decide +kernel
theorem nm9_cells : ∀ i : Fin 9, (#[.string ⟨#[]⟩, .string ⟨#[115, 101, 103, 45]⟩, .string ⟨#[115, 101, 103, 45, 55]⟩, .string ⟨#[115, 101, 103, 45, 49, 56, 52, 52, 54, 55, 52, 52, 48, 55, 51, 55, 48, 57, 53, 53, 49, 54, 49, 54]⟩, .string ⟨#[115, 101, 103, 45, 48, 48, 48, 48, 48, 48, 48, 48, 48, 48, 48, 48, 48, 48, 48, 48, 48, 48, 48, 120]⟩, .string ⟨#[115, 101, 103, 45, 48, 48, 48, 48, 48, 48, 48, 48, 48, 48, 48, 48, 48, 48, 48, 48, 48, 48, 48, 48, 55]⟩, .string ⟨#[83, 101, 103, 45, 48, 48, 48, 48, 48, 48, 48, 48, 48, 48, 48, 48, 48, 48, 48, 48, 48, 48, 48, 55]⟩, .string ⟨#[115, 101, 103, 45, 57, 57, 57, 57, 57, 57, 57, 57, 57, 57, 57, 57, 57, 57, 57, 57, 57, 57, 57, 57]⟩, .string ⟨#[115, 101, 103, 43, 48, 48, 48, 48, 48, 48, 48, 48, 48, 48, 48, 48, 48, 48, 48, 48, 48, 48, 48, 55]⟩] : Array Value)[i.val]? = some (.string (strB (nm9.getD i.val []))) := by
  intro i
  match i with
  | ⟨0, _⟩ => rfl
  | ⟨1, _⟩ => rfl
  | ⟨2, _⟩ => rfl
  | ⟨3, _⟩ => rfl
  | ⟨4, _⟩ => rfl
  | ⟨5, _⟩ => rfl
  | ⟨6, _⟩ => rfl
  | ⟨7, _⟩ => rfl
  | ⟨8, _⟩ => rfl
theorem nmBig : ((strB (nmL 18446744073709551615)).toList == [115, 101, 103, 45, 49, 56, 52, 52, 54, 55, 52, 52, 48, 55, 51, 55, 48, 57, 53, 53, 49, 54, 49, 53]) = true := by rw [ba_toListS]; decide +kernel
def ze : En := ⟨0, [], []⟩
theorem chk65 : chkB 0 (List.replicate 65 ze) = 2 := by decide +kernel
theorem chkOne : chkB 0 [⟨2, [], []⟩] = 0 := by decide +kernel
theorem lenOne : (batB 0 [⟨2, [], []⟩]).length ≤ 29 ∧ 1 ≤ (batB 0 [⟨2, [], []⟩]).length := by decide +kernel
theorem sgE_one : sgE (sbB 0 [⟨2, [], []⟩]) = 3 := by
  have h1 : sbB 0 [⟨2, [], []⟩] = frB 0 (batB 0 [⟨2, [], []⟩]) := by unfold sbB; rw [if_pos chkOne]
  have h2 := firstF_some 0 (batB 0 [⟨2, [], []⟩]) [] (by omega) lenOne.2 (by have := lenOne.1; omega) (batB_byte (by intro e he; simp at he; subst he; decide))
  rw [List.append_nil] at h2
  have h3 : hdF (sbB 0 [⟨2, [], []⟩]) = none := by
    unfold hdF
    rw [h1, h2]
    have h4 : payH 0 (batB 0 [⟨2, [], []⟩]) = false := by
      unfold payH
      rw [decide_eq_false_iff_not]
      have := lenOne.1
      omega
    simp [h4]
  simp [sgE, h3]
theorem lenQ : (sbB 0 [⟨2, [], []⟩]).length ≤ 100 := by
  have h1 : sbB 0 [⟨2, [], []⟩] = frB 0 (batB 0 [⟨2, [], []⟩]) := by unfold sbB; rw [if_pos chkOne]
  rw [h1, frB_len]
  have := lenOne.1
  omega
theorem sgE_nil : sgE [] = 3 := by decide +kernel
theorem fix_read : hdC (ehB 1 1 0 32) = ⟨1, 1, 0, 32⟩ ∧ sgE (ehB 1 1 0 32) = 0 ∧ sgB (ehB 1 1 0 32) = [] ∧ sgU (ehB 1 1 0 32) = 48 := by
  have h := seg_whole (a := 1) (b := 1) (c := 0) (z := 32) (L := []) (by omega) (by omega) (by omega) (by decide) (by decide) (by simp)
  simpa [numS, runS] using h
theorem fix_cut : sgE ((ehB 1 1 0 32).take 47) = 3 := by
  have h := (seg_headless (a := 1) (b := 1) (c := 0) (z := 32) (cut := 47) (m := 0) (R := []) (by omega) (by decide) (by omega)).2.1
  simpa using h
theorem make_ze : ∀ w : World, (Instr.makeSlice 35 (.int .i64 65) (.int .i64 65)).run Tryz.prog w = .ok (.slice (some ⟨w.heap.size, 0, none⟩) 65 65) (w.alloc (.cells (cellsN (List.replicate 65 (ze, .slice none 0 0, .slice none 0 0))).toArray 44)) := by
  obtain ⟨i0, hi, hz0, hz1, hz2⟩ := info_parts Tryz.infoN
  intro w
  have h := run_make (P := Tryz.prog) w 35 44 i0 _ Tryz.underlying35 hi hz0 .i64 .i64 65 65 (by omega) (by omega) (by rw [hz2]; omega) (by omega)
  rw [hz1] at h
  rw [show (Int.toNat 65) = 65 from rfl] at h
  exact h.trans (by rw [show madeCells (Value.agg #[.int .u8 0, .slice none 0 0, .slice none 0 0]).cells (65 * 3) = (cellsN (List.replicate 65 (ze, .slice none 0 0, .slice none 0 0))).toArray from by kernel_rfl])
theorem rdN_ze (w : World) : RdN (w.alloc (.cells (cellsN (List.replicate 65 (ze, .slice none 0 0, .slice none 0 0))).toArray 44)) (.slice (some ⟨w.heap.size, 0, none⟩) 65 65) (List.replicate 65 ze) := by
  have hl : (cellsN (List.replicate 65 (ze, Value.slice none 0 0, Value.slice none 0 0))).length = 195 := by rw [cellsN_len]; simp
  have h : OwnN [] w (w.alloc (.cells (cellsN (List.replicate 65 (ze, .slice none 0 0, .slice none 0 0))).toArray 44)) (.slice (some ⟨w.heap.size, 0, none⟩) 65 65) (List.replicate 65 (ze, .slice none 0 0, .slice none 0 0)) := by
    refine ⟨⟨by rw [hl, List.length_replicate], Or.inr ⟨w.heap.size, 65, _, by rw [List.length_replicate], Nat.le_refl _, heap_alloc_new _ _, by rw [List.length_replicate]; exact Nat.le_refl _, by unfold maxLen; omega, by rw [List.size_toArray, hl], ?_⟩⟩, fun t ht => ?_, fun t ht b hb => ?_, (Kept.refl [] w).alloc _⟩
    · rw [List.take_of_length_le (by rw [List.length_replicate]; exact Nat.le_of_eq hl)]
    · rw [(List.mem_replicate.1 ht).2]
      exact ⟨by decide, Rd.nil _, Rd.nil _⟩
    · rw [(List.mem_replicate.1 ht).2] at hb
      simp [nblk, ze, blk] at hb
  have h2 := h.rdN
  rwa [List.map_replicate] at h2

theorem rdN_one (w : World) : RdN (w.alloc (.cells #[.int .u8 2, .slice none 0 0, .slice none 0 0] 44)) (.slice (some ⟨w.heap.size, 0, none⟩) 1 1) [⟨2, [], []⟩] := by
  refine ⟨_, 1, 1, fun _ => .slice none 0 0, fun _ => .slice none 0 0, rfl, rfl, Nat.le_refl _, by omega, fun i hi => ?_, fun _ => ⟨w.heap.size, 0, rfl, fun i hi => ?_⟩⟩
  · obtain rfl : i = 0 := by simp at hi; omega
    exact ⟨by show (2 : Nat) < 256; decide, Rd.nil _, Rd.nil _⟩
  · obtain rfl : i = 0 := by simp at hi; omega
    intro j u hj
    rw [cell_of_row _ _ _ _ _ _ (heap_alloc_new _ _)]
    simpa [enC] using hj

set_option maxRecDepth 100000 in
set_option maxHeartbeats 4000000 in
theorem segmentFixed_walk (w : World) (hv : VarsS w) :
    Calls Tryz.prog 3 #[] w fun e w' => e = .returned (.bool true) ∧ Below w.heap.size w w' := by
  have HV := hide hv
  clear hv
  have hbig := nmBig
  go_enter Tryz.func3, Tryz.ntmps3
  go_wp2_with fail
  refine Calls.mono (sawake_any w) ?_
  rintro e w1 ⟨rfl, k1⟩
  have HK1 := hide k1
  clear k1
  go_wp2_with fail
  refine Calls.mono (name_any 18446744073709551615 w1 (by omega) ((unhide HV).old (unhide HK1))) ?_
  rintro e w2 ⟨rfl, k2⟩
  have HK2 := hide ((unhide HK1).trans k2 (by simp))
  clear k2
  generalize strB (nmL 18446744073709551615) = BG at hbig ⊢
  go_wp2_with fail
  clear hbig
  have HB0 := hide (heap_alloc_new w2 (.cells #[.string ⟨#[]⟩, .string ⟨#[115, 101, 103, 45]⟩, .string ⟨#[115, 101, 103, 45, 55]⟩, .string ⟨#[115, 101, 103, 45, 49, 56, 52, 52, 54, 55, 52, 52, 48, 55, 51, 55, 48, 57, 53, 53, 49, 54, 49, 54]⟩, .string ⟨#[115, 101, 103, 45, 48, 48, 48, 48, 48, 48, 48, 48, 48, 48, 48, 48, 48, 48, 48, 48, 48, 48, 48, 120]⟩, .string ⟨#[115, 101, 103, 45, 48, 48, 48, 48, 48, 48, 48, 48, 48, 48, 48, 48, 48, 48, 48, 48, 48, 48, 48, 48, 55]⟩, .string ⟨#[83, 101, 103, 45, 48, 48, 48, 48, 48, 48, 48, 48, 48, 48, 48, 48, 48, 48, 48, 48, 48, 48, 48, 55]⟩, .string ⟨#[115, 101, 103, 45, 57, 57, 57, 57, 57, 57, 57, 57, 57, 57, 57, 57, 57, 57, 57, 57, 57, 57, 57, 57]⟩, .string ⟨#[115, 101, 103, 43, 48, 48, 48, 48, 48, 48, 48, 48, 48, 48, 48, 48, 48, 48, 48, 48, 48, 48, 48, 55]⟩] 9))
  have HK3 := hide ((unhide HK2).alloc (.cells #[.string ⟨#[]⟩, .string ⟨#[115, 101, 103, 45]⟩, .string ⟨#[115, 101, 103, 45, 55]⟩, .string ⟨#[115, 101, 103, 45, 49, 56, 52, 52, 54, 55, 52, 52, 48, 55, 51, 55, 48, 57, 53, 53, 49, 54, 49, 54]⟩, .string ⟨#[115, 101, 103, 45, 48, 48, 48, 48, 48, 48, 48, 48, 48, 48, 48, 48, 48, 48, 48, 48, 48, 48, 48, 120]⟩, .string ⟨#[115, 101, 103, 45, 48, 48, 48, 48, 48, 48, 48, 48, 48, 48, 48, 48, 48, 48, 48, 48, 48, 48, 48, 48, 55]⟩, .string ⟨#[83, 101, 103, 45, 48, 48, 48, 48, 48, 48, 48, 48, 48, 48, 48, 48, 48, 48, 48, 48, 48, 48, 48, 55]⟩, .string ⟨#[115, 101, 103, 45, 57, 57, 57, 57, 57, 57, 57, 57, 57, 57, 57, 57, 57, 57, 57, 57, 57, 57, 57, 57]⟩, .string ⟨#[115, 101, 103, 43, 48, 48, 48, 48, 48, 48, 48, 48, 48, 48, 48, 48, 48, 48, 48, 48, 48, 48, 48, 55]⟩] 9))
  obtain ⟨W3, hW3⟩ : ∃ W, w2.alloc (.cells #[.string ⟨#[]⟩, .string ⟨#[115, 101, 103, 45]⟩, .string ⟨#[115, 101, 103, 45, 55]⟩, .string ⟨#[115, 101, 103, 45, 49, 56, 52, 52, 54, 55, 52, 52, 48, 55, 51, 55, 48, 57, 53, 53, 49, 54, 49, 54]⟩, .string ⟨#[115, 101, 103, 45, 48, 48, 48, 48, 48, 48, 48, 48, 48, 48, 48, 48, 48, 48, 48, 48, 48, 48, 48, 120]⟩, .string ⟨#[115, 101, 103, 45, 48, 48, 48, 48, 48, 48, 48, 48, 48, 48, 48, 48, 48, 48, 48, 48, 48, 48, 48, 48, 55]⟩, .string ⟨#[83, 101, 103, 45, 48, 48, 48, 48, 48, 48, 48, 48, 48, 48, 48, 48, 48, 48, 48, 48, 48, 48, 48, 55]⟩, .string ⟨#[115, 101, 103, 45, 57, 57, 57, 57, 57, 57, 57, 57, 57, 57, 57, 57, 57, 57, 57, 57, 57, 57, 57, 57]⟩, .string ⟨#[115, 101, 103, 43, 48, 48, 48, 48, 48, 48, 48, 48, 48, 48, 48, 48, 48, 48, 48, 48, 48, 48, 48, 55]⟩] 9) = W := ⟨_, rfl⟩
  rw [hW3] at HB0 HK3 ⊢
  clear hW3
  go_loopw [26] (fun t26 wr => ∃ i : Nat, t26 = .int .i64 (i : Int) ∧ i ≤ 9 ∧ Hid (Kept [] w wr) ∧ Hid (Kept [] W3 wr)) (fun t _ => 9 - (intOf t).toNat)
  case atStart => exact ⟨0, rfl, by omega, HK3, hide (Kept.refl _ _)⟩
  case round =>
    obtain ⟨i, rfl, hi, HK, HQ⟩ := hrel
    by_cases hlt : i < 9
    · have hlt' : (i : Int) < 9 := by omega
      have hc : wr.cell? ⟨w2.heap.size, i, none⟩ = some (.string (strB (nm9.getD i []))) := by
        rw [cell_of_row _ _ _ _ _ _ ((unhide HQ).heap (unhide HB0) (by simp))]
        exact nm9_cells ⟨i, hlt⟩
      obtain ⟨q1, q2, q3⟩ := nm9_all ⟨i, hlt⟩
      have HNN := hide (number_none (nm9.getD i []) wr q1 (by simp only at q2; omega) q3 ((unhide HV).old (unhide HK)))
      clear q1 q2 q3
      generalize strB (nm9.getD i []) = S at hc HNN
      go_wp2_with fail
      refine Calls.mono (unhide HNN) ?_
      rintro e w4 ⟨rfl, k4⟩
      have HK4 := hide ((unhide HK).trans k4 (by simp))
      have HQ4 := hide ((unhide HQ).trans k4 (by simp))
      clear k4
      go_wp2
      go_roundw
      case rel => exact ⟨i + 1, by simp, by omega, HK4, HQ4⟩
      case measure => simp [intOf]; omega
    · have hlt' : ¬ (i : Int) < 9 := by omega
      clear hlt HB0 HK3 HQ
      go_wp2_with fail
      refine Calls.mono (encodeHead_any 0 0 0 33 wr (by omega) (by omega)) ?_
      rintro e w5 ⟨v5, rfl, n5, k5⟩
      obtain ⟨a5, m5, c5, rfl, _⟩ := id n5.1
      rw [show ehE 33 = 1 from by decide]
      have HK5 := hide ((unhide HK).trans k5 (by simp))
      clear n5 k5
      go_wp2_with fail
      refine Calls.mono (encodeHead_any 0 0 0 0 w5 (by omega) (by omega)) ?_
      rintro e w6 ⟨v6, rfl, n6, k6⟩
      obtain ⟨a6, m6, c6, rfl, _⟩ := id n6.1
      rw [show ehE 0 = 1 from by decide]
      have HK6 := hide ((unhide HK5).trans k6 (by simp))
      clear n6 k6
      go_wp2_with fail
      refine Calls.mono (segBatch_any 0 _ [] w6 (by omega) (RdN.nil _)) ?_
      rintro e w7 ⟨v7, rfl, n7, k7⟩
      obtain ⟨a7, m7, c7, rfl, _⟩ := id n7.1
      rw [show chkB 0 [] = 3 from by decide]
      have HK7 := hide ((unhide HK6).trans k7 (by simp))
      clear n7 k7
      have hmk := make_ze w7
      have HR7 := hide (rdN_ze w7)
      have HK8 := hide ((unhide HK7).alloc (.cells (cellsN (List.replicate 65 (ze, .slice none 0 0, .slice none 0 0))).toArray 44))
      generalize (cellsN (List.replicate 65 (ze, .slice none 0 0, .slice none 0 0))).toArray = CC at hmk HR7 HK8
      go_wp2_with fail
      clear hmk
      obtain ⟨W8, hW8⟩ : ∃ W, w7.alloc (.cells CC 44) = W := ⟨_, rfl⟩
      rw [hW8] at HR7 HK8 ⊢
      clear hW8
      refine Calls.mono (segBatch_any 0 _ (List.replicate 65 ze) W8 (by omega) (unhide HR7)) ?_
      rintro e w9 ⟨v9, rfl, n9, k9⟩
      obtain ⟨a9, m9, c9, rfl, _⟩ := id n9.1
      rw [chk65]
      have HK9 := hide ((unhide HK8).trans k9 (by simp))
      clear n9 k9 HR7
      go_wp2_with fail
      refine Calls.mono (encodeHead_any 1 1 0 32 w9 (by omega) (by omega)) ?_
      rintro e w10 ⟨v10, rfl, n10, k10⟩
      obtain ⟨h1, h2, h3, h4⟩ := fix_read
      have HC1 := hide fix_cut
      have hEl : (ehB 1 1 0 32).length = 48 := ehB_len (by decide)
      have HRD := hide (fun W (hW : Rd W v10 (ehB 1 1 0 32)) => read_any v10 (ehB 1 1 0 32) W hW (by rw [hEl]; omega))
      simp only [h1, h2, h3, h4] at HRD
      have HCT := hide (fun v W (hW : Rd W v ((ehB 1 1 0 32).take 47)) => read_any v ((ehB 1 1 0 32).take 47) W hW (by rw [List.length_take]; omega))
      simp only [unhide HC1] at HCT
      have hR := n10.1
      have HK10 := hide ((unhide HK9).trans k10 (by simp))
      clear n10 k10 h1 h2 h3 h4 HC1
      obtain ⟨EB, hEB⟩ : ∃ EB, ehB 1 1 0 32 = EB := ⟨_, rfl⟩
      rw [hEB] at hR hEl
      simp only [hEB] at HRD HCT
      clear hEB
      obtain ⟨a10, m10, c10, rfl, hm10, hcc, ⟨hcm, _⟩, _, _, hcl⟩ := id hR
      rw [hEl] at hm10
      subst hm10
      obtain ⟨b10, o10, e10, _⟩ := hcl (by omega)
      subst e10
      have HR10 := hide hR
      have HR47 := hide (by have h9 := Rd.cutN (p := EB) (by rw [hEl]; exact hR) 0 47 (by omega) (by omega); simpa using h9 : Rd w10 (.slice (some ⟨b10, o10, none⟩) 47 c10) (EB.take 47))
      have hc47 : (47 : Int) ≤ c10 := by omega
      rw [show ehE 32 = 0 from by decide]
      clear hcl hR hEl hcc
      go_wp2_with fail
      refine Calls.mono (unhide HRD w10 (unhide HR10)) ?_
      rintro e w11 ⟨b11, rfl, r11, k11, _⟩
      obtain ⟨a11, c11, rfl, _, _⟩ := r11.shape
      have KA := (Kept.refl [] w11).alloc (.cells #[.int .u64 1, .int .u64 1, .int .u64 0, .int .i64 32, .slice a11 0 c11, .int .i64 48] 40)
      have HS11 := hide (heap_alloc_new w11 (.cells #[.int .u64 1, .int .u64 1, .int .u64 0, .int .i64 32, .slice a11 0 c11, .int .i64 48] 40))
      have HR12 := hide ((unhide HR47).old (k11.trans KA (by simp)) (by simp))
      have HK12 := hide (((unhide HK10).trans k11 (by simp)).trans KA (by simp))
      clear r11 k11 KA HR10 HR47
      go_wp2_with fail
      obtain ⟨W12, hW12⟩ : ∃ W, w11.alloc (.cells #[.int .u64 1, .int .u64 1, .int .u64 0, .int .i64 32, .slice a11 0 c11, .int .i64 48] 40) = W := ⟨_, rfl⟩
      rw [hW12] at HS11 HR12 HK12 ⊢
      clear hW12
      refine Calls.mono (unhide HCT _ W12 (unhide HR12)) ?_
      rintro e w13 ⟨b13, rfl, r13, k13, _⟩
      obtain ⟨a13, c13, rfl, _, _⟩ := r13.shape
      have HS13 := hide (k13.heap (unhide HS11) (by simp))
      have HK13 := hide ((unhide HK12).trans k13 (by simp))
      clear r13 k13 HS11 HK12 HR12
      go_wp2_with fail
      have hrn := read_any (.slice none 0 0) [] w13 (Rd.nil _) (by simp)
      rw [sgE_nil] at hrn
      refine Calls.mono hrn ?_
      clear hrn
      rintro e w14 ⟨b14, rfl, r14, k14, _⟩
      obtain ⟨a14, c14, rfl, _, _⟩ := r14.shape
      have HS14 := hide (k14.heap (unhide HS13) (by simp))
      have HK14 := hide ((unhide HK13).trans k14 (by simp))
      clear r14 k14
      have HRN := hide (rdN_one w14)
      have KA := (Kept.refl [] w14).alloc (.cells #[.int .u8 2, .slice none 0 0, .slice none 0 0] 44)
      have HS15 := hide (KA.heap (unhide HS14) (by simp))
      have HK15 := hide ((unhide HK14).trans KA (by simp))
      clear KA
      go_wp2_with fail
      obtain ⟨W15, hW15⟩ : ∃ W, w14.alloc (.cells #[.int .u8 2, .slice none 0 0, .slice none 0 0] 44) = W := ⟨_, rfl⟩
      rw [hW15] at HRN HS15 HK15 ⊢
      clear hW15
      refine Calls.mono (segBatch_any 0 _ [⟨2, [], []⟩] W15 (by omega) (unhide HRN)) ?_
      rintro e w16 ⟨v16, rfl, n16, k16⟩
      have hR16 := n16.1
      have HS16 := hide (k16.heap (unhide HS15) (by simp))
      have HK16 := hide ((unhide HK15).trans k16 (by simp))
      clear n16 k16
      rw [chkOne]
      have HRQ := hide (read_any v16 (sbB 0 [⟨2, [], []⟩]) w16 hR16 (by have := lenQ; omega))
      rw [sgE_one] at HRQ
      obtain ⟨a16, m16, c16, rfl, _⟩ := id hR16
      clear hR16
      generalize sbB 0 [⟨2, [], []⟩] = QB at HRQ
      go_wp2_with fail
      refine Calls.mono (unhide HRQ) ?_
      rintro e w17 ⟨b17, rfl, r17, k17, _⟩
      obtain ⟨a17, c17, rfl, _, _⟩ := r17.shape
      have HS17 := hide (k17.heap (unhide HS16) (by simp))
      have HK17 := hide ((unhide HK16).trans k17 (by simp))
      clear r17 k17 HRQ
      obtain ⟨d0, d1, d2, d3, d4, d5⟩ := scells (unhide HS17)
      go_wp2
      go_ret
      exact ⟨rfl, (unhide HK17).below (Nat.le_refl _) (by simp)⟩
end Go.Proofs.YtckkalmhekfnhabGreatDoor
namespace Go.Proofs.YtckkalmhekfnhabGreatDoor
open Go.ChangeShapes Go.WideShapes Go.ChangeAt Go.RowKit Go.Deep
set_option linter.unusedVariables false
set_option linter.unusedSimpArgs false

theorem own : ownKnob Tryz.prog.godebug = none := by kernel_rfl
theorem laidOut : laidOutB Tryz.prog = true := by kernel_rfl
theorem byte_of_wf {x : Int} (h : (Lit.int .u8 x).wf = true) : 0 ≤ x ∧ x < 256 := by
  simp [Lit.wf, IntKind.min, IntKind.max, IntKind.signed, IntKind.bits] at h
  exact ⟨by omega, by omega⟩
theorem int_of_wf {x : Int} (h : (Lit.int .i64 x).wf = true) : -9223372036854775808 ≤ x ∧ x ≤ 9223372036854775807 := by
  simp [Lit.wf, IntKind.min, IntKind.max, IntKind.signed, IntKind.bits] at h
  exact ⟨by omega, by omega⟩

theorem bulk_one {H : Type} (d : DataW H) : 1 ≤ Rows.uptoBulk d := by
  cases d with
  | lit l => cases l <;> simp [Rows.uptoBulk]
  | nil => simp [Rows.uptoBulk]
  | ptr d => simp [Rows.uptoBulk]
  | slice elems spare => simp [Rows.uptoBulk]
  | agg parts => simp [Rows.uptoBulk]
  | iface t d => simp [Rows.uptoBulk]
  | map entries => simp [Rows.uptoBulk]
  | held h => simp [Rows.uptoBulk]
theorem bulk_len {H : Type} (l : List (DataW H)) : l.length ≤ Rows.uptoBulkAll l := by
  induction l with
  | nil => simp [Rows.uptoBulkAll]
  | cons x r ih => have := bulk_one x; simp only [Rows.uptoBulkAll, List.length_cons]; omega
theorem Tryz.bytes5 : Tryz.prog.bytesOf 5 = 1 := by kernel_rfl

section
variable {H : Type} {enc : TypeId × Value → H} {W : World}

/-- Bytes that came in, as the walks want them, of whatever length. -/
theorem open_bytes {fuel : Nat} {cs : List Value} {x : DataW H × List MemPlace} (h : DataW.trod enc Tryz.prog W 0 (fun _ => true) true fuel 29 cs = some x) :
    ∃ v bs, cs = [v] ∧ (bs.length ≤ 140737488355328 → Rd W v bs) ∧ ((bs = [] ∧ x.1 = .nil) ∨ ∃ elems spare, x.1 = .slice elems spare ∧ elems.length = bs.length) := by
  rcases open_ints Tryz.underlying29 Tryz.underlying5 (by kernel_rfl) h with ⟨rfl, rfl⟩ | ⟨a, len, cap, zs, rfl, _, hl, hm, hz, rfl, hcell, hwz⟩
  · exact ⟨_, [], rfl, fun _ => Rd.nil W, .inl ⟨rfl, rfl⟩⟩
  · have h2 : (lits (H := H) .u8 (zs.take len)).length = len := by simp only [lits, List.length_map, List.length_take]; simp at hz; omega
    have hbl : ((zs.take len).map Int.toNat).length = len := by simp at hz; simp; omega
    refine ⟨_, (zs.take len).map Int.toNat, rfl, fun hB => ⟨_, _, _, rfl, hbl, hl, ⟨by unfold maxLen at hm; omega, by omega⟩, by simp, ?_, ?_⟩, .inr ⟨_, _, rfl, by rw [h2, hbl]⟩⟩
    · intro y hy
      obtain ⟨z, hz1, rfl⟩ := List.mem_map.1 hy
      have := byte_of_wf (hwz z (List.mem_of_mem_take hz1)); omega
    · intro hp
      simp at hz
      have hc0 := hcell 0 (by omega)
      obtain ⟨b, off, spot⟩ := a
      have hspot : spot = none := by simpa [Addr.add] using World.cell?_spot hc0
      subst hspot
      refine ⟨b, off, rfl, fun i hi => ?_⟩
      have hc := hcell i (by omega)
      have hzi : i < zs.length := by omega
      rw [Addr.add_mid] at hc
      rw [hc]
      have hw := byte_of_wf (hwz (zs[i]) (List.getElem_mem hzi))
      simp only [List.getD_eq_getElem?_getD, List.getElem?_eq_getElem hzi, Option.getD_some, List.getElem?_map, List.getElem?_take, hi, if_true, Option.map_some]
      simp [u8]; omega
/-- Their length, by the reach. -/
theorem reach_bytes {ts : List TypeId} {ds : List (DataW H)} (h : (DataW.weightsEach Tryz.prog ts ds).all (· ≤ reachBytes) = true) {j : Nat} (ht : ts[j]? = some 29) {d : DataW H} (hd : ds[j]? = some d) {bs : List Nat}
    (hx : (bs = [] ∧ d = .nil) ∨ ∃ elems spare, d = .slice elems spare ∧ elems.length = bs.length) : bs.length ≤ 140737488351232 := by
  rcases hx with ⟨rfl, _⟩ | ⟨elems, spare, rfl, he⟩
  · simp
  · have := sized_slice h ht hd Tryz.underlying29
    rw [Tryz.bytes5, Nat.mul_one] at this
    unfold reachBytes at this
    omega
/-- Their length, by the bulk. -/
theorem bulk_bytes {d : DataW H} {bs : List Nat} (hx : (bs = [] ∧ d = .nil) ∨ ∃ elems spare, d = .slice elems spare ∧ elems.length = bs.length) : bs.length + 1 ≤ Rows.uptoBulk d := by
  rcases hx with ⟨rfl, rfl⟩ | ⟨elems, spare, rfl, he⟩
  · simp [Rows.uptoBulk]
  · have := bulk_len elems
    simp only [Rows.uptoBulk]; omega
end
end Go.Proofs.YtckkalmhekfnhabGreatDoor
