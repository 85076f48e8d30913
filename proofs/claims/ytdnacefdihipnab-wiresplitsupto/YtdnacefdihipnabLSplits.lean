import Derived.Test.YtdnacefdihipnabWritten
import Derived.Test.YtdnacefdihipnabJoin
namespace Go.Proofs.Ytdnacefdihipnab
open Go.RowKit
set_option linter.unusedVariables false
set_option linter.unusedSimpArgs false

/-- Two Writers side by side. -/
structure Two (w : World) (a : Nat) (va : Value) (xs : List Nat) (b : Nat) (vb : Value) (bs : List Nat) : Prop where
  one : WrAt w a va xs
  two : WrAt w b vb bs
  ne : a ≠ b
  dis : ∀ g, va.ownBlock = some g → vb.ownBlock ≠ some g

theorem Two.symm {w : World} {a : Nat} {va : Value} {xs : List Nat} {b : Nat} {vb : Value} {bs : List Nat} (h : Two w a va xs b vb bs) : Two w b vb bs a va xs :=
  ⟨h.two, h.one, h.ne.symm, fun g h1 h2 => h.dis g h2 h1⟩

theorem WrAt.cross {w : World} {a : Nat} {va : Value} {xs : List Nat} {b : Nat} {vb : Value} {bs : List Nat} (h : WrAt w a va xs) (k : WrAt w b vb bs) : va.ownBlock ≠ some b := by
  intro e
  rcases h.own.2 with ⟨rfl, _⟩ | ⟨g, cap, cur, rfl, _, hg, _⟩
  · simp [Value.ownBlock] at e
  · simp [Value.ownBlock] at e
    subst e
    rw [k.at_] at hg; simp at hg

theorem Two.step {w w1 : World} {a : Nat} {va va' : Value} {xs xs' : List Nat} {b : Nat} {vb : Value} {bs : List Nat} (h : Two w a va xs b vb bs) (h1 : WrAt w1 a va' xs') (k : Grew a va va' w w1) : Two w1 a va' xs' b vb bs := by
  refine ⟨h1, h.two.kept k.kept ?_ ?_, h.ne, ?_⟩
  · simp only [List.mem_cons, Option.mem_toList, not_or]
    exact ⟨h.ne.symm, fun e => h.one.cross h.two e⟩
  · intro g hg
    simp only [List.mem_cons, Option.mem_toList, not_or]
    exact ⟨fun e => by subst e; exact h.two.cross h.one hg, fun e => h.dis g e hg⟩
  · intro g hg hv
    rcases k.own with k1 | ⟨g', k1, k2⟩
    · exact h.dis g (by rw [← k1]; exact hg) hv
    · rw [k1] at hg; cases hg
      have := h.two.ownlt hv; omega

theorem Two.alloc {w : World} {a : Nat} {va : Value} {xs : List Nat} {b : Nat} {vb : Value} {bs : List Nat} (h : Two w a va xs b vb bs) (o : Obj) : Two (w.alloc o) a va xs b vb bs := ⟨h.one.alloc o, h.two.alloc o, h.ne, h.dis⟩

theorem Two.new (w : World) : Two ((w.alloc (.cells #[.slice none 0 0] 26)).alloc (.cells #[.slice none 0 0] 26)) w.heap.size (.slice none 0 0) [] (w.heap.size + 1) (.slice none 0 0) [] := by
  refine ⟨(WrAt.new w).alloc _, ?_, by omega, by simp [Value.ownBlock]⟩
  have := WrAt.new (w.alloc (.cells #[.slice none 0 0] 26))
  simpa using this


theorem scriptB_drop_le {ops : List OpD} (N j : Nat) : (scriptB ((ops.drop N).take j)).length ≤ (scriptB ops).length := by
  have h : scriptB ops = scriptB (ops.take N) ++ scriptB (ops.drop N) := by rw [← scriptB_append, List.take_append_drop]
  have h2 := scriptB_le (ops := ops.drop N) j
  rw [h]; simp; omega

/-- An Op of a script that came in, in a later world. -/
theorem SRd.get {w0 w : World} {ao : Option Addr} {cap : Nat} {ops : List OpD} (h : SRd w0 (.slice ao ops.length cap) ops) (k : Kept [] w0 w) (i : Nat) (o : OpD) (ho : ops[i]? = some o) :
    ∃ b off ao2 n2 c2, ao = some ⟨b, off, none⟩ ∧ o.pv = .slice ao2 n2 c2 ∧ w.cell? ⟨b, off + i * 4, none⟩ = some (.int .i64 o.k) ∧ w.cell? ⟨b, off + i * 4 + 1, none⟩ = some (.int .u64 o.x) ∧ w.cell? ⟨b, off + i * 4 + 2, none⟩ = some (.int .i64 o.n) ∧ w.cell? ⟨b, off + i * 4 + 3, none⟩ = some (.slice ao2 n2 c2) ∧
      o.x < 18446744073709551616 ∧ b < w.heap.size ∧ Rd w0 o.pv o.p := by
  obtain ⟨ao', cap', he, _, _, _, h3, h4⟩ := h
  cases he
  obtain ⟨hi, rfl⟩ := List.getElem?_eq_some_iff.1 ho
  obtain ⟨b, off, rfl, hc⟩ := h4 (by omega)
  obtain ⟨c0, c1, c2, c3⟩ := hc i _ ho
  obtain ⟨a1, _, _, _, _, a6⟩ := h3 _ (List.getElem_mem hi)
  obtain ⟨ao2, n2, c2', hpv⟩ : ∃ ao n c, (ops[i]).pv = .slice ao n c := by obtain ⟨ao, n, c, e, _⟩ := a6; exact ⟨ao, n, c, e⟩
  rw [hpv] at c3
  exact ⟨b, off, ao2, n2, c2', rfl, hpv, k.cell c0 (by simp), k.cell c1 (by simp), k.cell c2 (by simp), k.cell c3 (by simp), a1, block_lt_of_cell (k.cell c0 (by simp)), a6⟩

set_option maxRecDepth 100000 in
set_option maxHeartbeats 8000000 in
theorem wireSplits_walk (sv : Value) (ops : List OpD) (n : Int) (w : World) (hs : SRd w sv ops) (hl : (scriptB ops).length ≤ 4194304) (hp : ∀ o ∈ ops, o.p.length ≤ 1048576) (hlen : ops.length ≤ 1048576)
    (hn : -9223372036854775808 ≤ n ∧ n ≤ 9223372036854775807) :
    Calls Try.prog 6 #[sv, .int .i64 n] w fun e w' => e = .returned (.bool true) ∧ Below w.heap.size w w' := by
  have HS := hide hs
  obtain ⟨ao, cap, rfl, h1, h2, h2', h3, h4⟩ := hs
  have HP := hide hp
  clear h3 h4 hp
  have T := (show (∃ N : Nat, N ≤ ops.length ∧ n < 0 ∧ (ops.length : Int) / 2 = N) ∨ (∃ N : Nat, N ≤ ops.length ∧ ¬ n < 0 ∧ (ops.length : Int) < n ∧ (ops.length : Int) / 2 = N) ∨ (∃ N : Nat, N ≤ ops.length ∧ n = N ∧ ¬ ops.length < N ∧ ¬ (N : Int) < 0) from by
    rcases Int.lt_or_le n 0 with h | h
    · exact .inl ⟨ops.length / 2, by omega, h, by omega⟩
    · rcases Int.lt_or_le (ops.length : Int) n with h5 | h5
      · exact .inr (.inl ⟨ops.length / 2, by omega, by omega, h5, by omega⟩)
      · exact .inr (.inr ⟨n.toNat, by omega, by omega, by omega, by omega⟩))
  have Hn := hide hn
  clear hn
  rcases T with ⟨N, hNl, hn0, hdiv⟩ | ⟨N, hNl, hn0, hn1, hdiv⟩ | ⟨N, hNl, rfl, hq0, hq1⟩
  all_goals
    go_enter Try.func6, Try.ntmps6
    go_wp2_with fail
    refine (awake_any _).mono ?_
    rintro e w1 ⟨rfl, k1⟩
    have HK1 := hide k1
    have hw1 := k1.size
    clear k1
    go_wp2_with fail
    try clear hdiv
    try clear hn1
    try clear hn0
    go_loopw [7, 24] (fun t7 t24 wr => ∃ (k : Nat) (va vb : Value) (xs ys : List Nat), k ≤ ops.length ∧ t24 = .int .i64 k ∧ Hid (xs = scriptB (ops.take (min k N))) ∧ Hid (ys = scriptB ((ops.drop N).take k)) ∧
        Hid (Two wr w1.heap.size va xs (w1.heap.size + 1) vb ys) ∧ Hid (Kept [] w wr) ∧ Hid ((∀ g, va.ownBlock = some g → w.heap.size ≤ g) ∧ (∀ g, vb.ownBlock = some g → w.heap.size ≤ g))) (fun _ i _ => ops.length - (intOf i).toNat)
    case atStart => exact ⟨0, _, _, [], [], Nat.zero_le _, rfl, hide (by simp [scriptB]), hide (by simp [scriptB]), Two.new w1, ((unhide HK1).alloc _).alloc _, hide ⟨by simp [Value.ownBlock], by simp [Value.ownBlock]⟩⟩
    case round =>
      obtain ⟨k, va, vb, xs, ys, hk, rfl, Hx, Hy, HT, HK, HO⟩ := hrel
      have hxl : xs.length ≤ 4194304 := by rw [unhide Hx]; have := scriptB_le (ops := ops) (min k N); omega
      have hyl : ys.length ≤ 4194304 := by rw [unhide Hy]; have := scriptB_drop_le (ops := ops) N k; omega
      by_cases hlt : k < ops.length
      · have hkl : (k : Int) < (ops.length : Int) := by omega
        have hcases := (show ((k : Int) < N ∧ (k : Int) < (ops.length : Int) - N) ∨ ((k : Int) < N ∧ ¬ (k : Int) < (ops.length : Int) - N) ∨ (¬ (k : Int) < N ∧ (k : Int) < (ops.length : Int) - N) ∨ (¬ (k : Int) < N ∧ ¬ (k : Int) < (ops.length : Int) - N) from by omega)
        rcases hcases with ⟨hkN, hkM⟩ | ⟨hkN, hkM⟩ | ⟨hkN, hkM⟩ | ⟨hkN, hkM⟩
        · have hiA : k < ops.length := hlt
          have hsA := scriptB_take_succ (List.getElem?_eq_getElem hiA)
          rw [show k + 1 = min (k + 1) N from by omega, show ops.take k = ops.take (min k N) from by rw [Nat.min_eq_left (by omega)], ← unhide Hx] at hsA
          have hiB : N + k < ops.length := by omega
          have hsB := scriptB_take_succ (ops := ops.drop N) (k := k) (o := ops[N + k]) (by rw [List.getElem?_drop, List.getElem?_eq_getElem hiB])
          rw [← unhide Hy] at hsB
          have hgA := (unhide HS).get (unhide HK) (k) _ (List.getElem?_eq_getElem hiA)
          have hplA := unhide HP _ (List.getElem_mem hiA)
          generalize ops[k] = oA at hgA hplA hsA
          obtain ⟨bA, offA, aoA, nA, cA, heA, hpvA, d0A, d1A, d2A, d3A, a1A, hblA, hrdA⟩ := hgA
          cases heA
          obtain ⟨okA, oxA, onA, opvA, opA⟩ := oA
          simp only at hpvA d0A d1A d2A a1A hrdA hplA hsA
          subst hpvA
          have HRA := hide hrdA
          have HsA := hide hsA
          have a1'A : (oxA : Int) ≤ 18446744073709551615 := by omega
          clear hrdA hsA
          go_wp2_with fail
          refine (lay_any w1.heap.size va xs okA oxA onA _ opA _ (by exact (unhide HT).one) (by exact fun w' k => (unhide HRA).old ((unhide HK).wr k hw1 (unhide HO).1) (by simp)) a1A (by omega)).mono ?_
          rintro e wA ⟨rfl, va', h1, k1⟩
          rw [← unhide HsA] at h1
          have HT2 := hide ((unhide HT).step h1 k1)
          have HK2 := hide ((unhide HK).wr k1.kept hw1 (unhide HO).1)
          have HO2 := hide (⟨k1.fresh (unhide HO).1 (unhide HK).size, (unhide HO).2⟩ : (∀ g, va'.ownBlock = some g → w.heap.size ≤ g) ∧ (∀ g, vb.ownBlock = some g → w.heap.size ≤ g))
          clear h1 k1 HT
          have hgB := (unhide HS).get (unhide HK2) (N + k) _ (List.getElem?_eq_getElem hiB)
          have hplB := unhide HP _ (List.getElem_mem hiB)
          generalize ops[N + k] = oB at hgB hplB hsB
          obtain ⟨bB, offB, aoB, nB, cB, heB, hpvB, d0B, d1B, d2B, d3B, a1B, hblB, hrdB⟩ := hgB
          cases heB
          obtain ⟨okB, oxB, onB, opvB, opB⟩ := oB
          simp only at hpvB d0B d1B d2B a1B hrdB hplB hsB
          subst hpvB
          have HRB := hide hrdB
          have HsB := hide hsB
          have a1'B : (oxB : Int) ≤ 18446744073709551615 := by omega
          clear hrdB hsB
          go_wp2_with fail
          refine (lay_any (w1.heap.size + 1) vb ys okB oxB onB _ opB _ (by exact (unhide HT2).two) (by exact fun w' k => (unhide HRB).old ((unhide HK2).wr k (by omega) (unhide HO2).2) (by simp)) a1B (by omega)).mono ?_
          rintro e wB ⟨rfl, vb', h1, k1⟩
          rw [← unhide HsB] at h1
          have HT3 := hide ((unhide HT2).symm.step h1 k1).symm
          have HK3 := hide ((unhide HK2).wr k1.kept (by omega) (unhide HO2).2)
          have HO3 := hide (⟨(unhide HO2).1, k1.fresh (unhide HO2).2 (unhide HK2).size⟩ : (∀ g, va'.ownBlock = some g → w.heap.size ≤ g) ∧ (∀ g, vb'.ownBlock = some g → w.heap.size ≤ g))
          clear h1 k1
          go_wp2
          go_roundw
          case rel => first | exact ⟨k + 1, va', vb', _, _, by omega, by go_num, rfl, rfl, HT3, HK3, HO3⟩ | ((repeat apply Exists.intro); exact ⟨⟨k + 1, va', vb', _, _, by omega, by go_num, rfl, rfl, HT3, HK3, HO3⟩, rfl⟩)
          case measure => simp [intOf]; omega
        · have hiA : k < ops.length := hlt
          have hsA := scriptB_take_succ (List.getElem?_eq_getElem hiA)
          rw [show k + 1 = min (k + 1) N from by omega, show ops.take k = ops.take (min k N) from by rw [Nat.min_eq_left (by omega)], ← unhide Hx] at hsA
          have hye : ys = scriptB ((ops.drop N).take (k + 1)) := by rw [unhide Hy, List.take_of_length_le (by simp; omega), List.take_of_length_le (by simp; omega)]
          have Hye := hide hye
          clear hye
          have hgA := (unhide HS).get (unhide HK) (k) _ (List.getElem?_eq_getElem hiA)
          have hplA := unhide HP _ (List.getElem_mem hiA)
          generalize ops[k] = oA at hgA hplA hsA
          obtain ⟨bA, offA, aoA, nA, cA, heA, hpvA, d0A, d1A, d2A, d3A, a1A, hblA, hrdA⟩ := hgA
          cases heA
          obtain ⟨okA, oxA, onA, opvA, opA⟩ := oA
          simp only at hpvA d0A d1A d2A a1A hrdA hplA hsA
          subst hpvA
          have HRA := hide hrdA
          have HsA := hide hsA
          have a1'A : (oxA : Int) ≤ 18446744073709551615 := by omega
          clear hrdA hsA
          go_wp2_with fail
          refine (lay_any w1.heap.size va xs okA oxA onA _ opA _ (by exact (unhide HT).one) (by exact fun w' k => (unhide HRA).old ((unhide HK).wr k hw1 (unhide HO).1) (by simp)) a1A (by omega)).mono ?_
          rintro e wA ⟨rfl, va', h1, k1⟩
          rw [← unhide HsA] at h1
          have HT2 := hide ((unhide HT).step h1 k1)
          have HK2 := hide ((unhide HK).wr k1.kept hw1 (unhide HO).1)
          have HO2 := hide (⟨k1.fresh (unhide HO).1 (unhide HK).size, (unhide HO).2⟩ : (∀ g, va'.ownBlock = some g → w.heap.size ≤ g) ∧ (∀ g, vb.ownBlock = some g → w.heap.size ≤ g))
          clear h1 k1 HT
          go_wp2
          go_roundw
          case rel => first | exact ⟨k + 1, va', vb, _, _, by omega, by go_num, rfl, Hye, HT2, HK2, HO2⟩ | ((repeat apply Exists.intro); exact ⟨⟨k + 1, va', vb, _, _, by omega, by go_num, rfl, Hye, HT2, HK2, HO2⟩, rfl⟩)
          case measure => simp [intOf]; omega
        · have hxe : xs = scriptB (ops.take (min (k + 1) N)) := by rw [unhide Hx]; congr 2; omega
          have Hxe := hide hxe
          clear hxe
          have hiB : N + k < ops.length := by omega
          have hsB := scriptB_take_succ (ops := ops.drop N) (k := k) (o := ops[N + k]) (by rw [List.getElem?_drop, List.getElem?_eq_getElem hiB])
          rw [← unhide Hy] at hsB
          have hgB := (unhide HS).get (unhide HK) (N + k) _ (List.getElem?_eq_getElem hiB)
          have hplB := unhide HP _ (List.getElem_mem hiB)
          generalize ops[N + k] = oB at hgB hplB hsB
          obtain ⟨bB, offB, aoB, nB, cB, heB, hpvB, d0B, d1B, d2B, d3B, a1B, hblB, hrdB⟩ := hgB
          cases heB
          obtain ⟨okB, oxB, onB, opvB, opB⟩ := oB
          simp only at hpvB d0B d1B d2B a1B hrdB hplB hsB
          subst hpvB
          have HRB := hide hrdB
          have HsB := hide hsB
          have a1'B : (oxB : Int) ≤ 18446744073709551615 := by omega
          clear hrdB hsB
          go_wp2_with fail
          refine (lay_any (w1.heap.size + 1) vb ys okB oxB onB _ opB _ (by exact (unhide HT).two) (by exact fun w' k => (unhide HRB).old ((unhide HK).wr k (by omega) (unhide HO).2) (by simp)) a1B (by omega)).mono ?_
          rintro e wB ⟨rfl, vb', h1, k1⟩
          rw [← unhide HsB] at h1
          have HT3 := hide ((unhide HT).symm.step h1 k1).symm
          have HK3 := hide ((unhide HK).wr k1.kept (by omega) (unhide HO).2)
          have HO3 := hide (⟨(unhide HO).1, k1.fresh (unhide HO).2 (unhide HK).size⟩ : (∀ g, va.ownBlock = some g → w.heap.size ≤ g) ∧ (∀ g, vb'.ownBlock = some g → w.heap.size ≤ g))
          clear h1 k1
          go_wp2
          go_roundw
          case rel => first | exact ⟨k + 1, va, vb', _, _, by omega, by go_num, Hxe, rfl, HT3, HK3, HO3⟩ | ((repeat apply Exists.intro); exact ⟨⟨k + 1, va, vb', _, _, by omega, by go_num, Hxe, rfl, HT3, HK3, HO3⟩, rfl⟩)
          case measure => simp [intOf]; omega
        · have hxe : xs = scriptB (ops.take (min (k + 1) N)) := by rw [unhide Hx]; congr 2; omega
          have Hxe := hide hxe
          clear hxe
          have hye : ys = scriptB ((ops.drop N).take (k + 1)) := by rw [unhide Hy, List.take_of_length_le (by simp; omega), List.take_of_length_le (by simp; omega)]
          have Hye := hide hye
          clear hye
          go_wp2
          go_roundw
          case rel => first | exact ⟨k + 1, va, vb, _, _, by omega, by go_num, Hxe, Hye, HT, HK, HO⟩ | ((repeat apply Exists.intro); exact ⟨⟨k + 1, va, vb, _, _, by omega, by go_num, Hxe, Hye, HT, HK, HO⟩, rfl⟩)
          case measure => simp [intOf]; omega
      · have hkn : k = ops.length := by omega
        subst hkn
        have hxx := unhide Hx
        have hyy := unhide Hy
        rw [Nat.min_eq_right hNl] at hxx
        rw [List.take_of_length_le (by simp)] at hyy
        have Hxy := hide (by rw [hxx, hyy, ← scriptB_append, List.take_append_drop] : xs ++ ys = scriptB ops)
        have hxyl := congrArg List.length (unhide Hxy)
        simp only [List.length_append] at hxyl
        have Hxyl := hide hxyl
        clear hxx hyy hxyl
        go_wp2_with fail
        refine (written_any _ ops _ (by exact (unhide HS).old (unhide HK) (by simp)) (by omega) (by intro o ho; have := unhide HP o ho; omega)).mono ?_
        rintro e w2 ⟨g, rfl, hg, h2, k2⟩
        have HG := hide h2
        have HT2 := hide (⟨(unhide HT).one.kept k2 (by simp) (by simp), (unhide HT).two.kept k2 (by simp) (by simp), (unhide HT).ne, (unhide HT).dis⟩ : Two w2 _ va xs _ vb ys)
        have HK2 := hide ((unhide HK).trans k2 (by simp))
        clear h2 k2 hg
        generalize hZ : scriptB ops = Z at *
        have teq : ((xs.length : Int) + ys.length == (Z.length : Int)) = true := by have := unhide Hxyl; simp; omega
        have HbZ := hide (by rw [← unhide Hxy]; intro x hx; simp at hx; rcases hx with hx | hx; exact (unhide HT).one.byte x hx; exact (unhide HT).two.byte x hx : ∀ x ∈ Z, x < 256)
        clear hZ
        go_wp2_with fail
        refine (wlen_any _ va xs _ (unhide HT2).one).mono ?_
        rintro e w3 ⟨rfl, hw3⟩
        subst w3
        go_wp2_with fail
        refine (wlen_any _ vb ys _ (unhide HT2).two).mono ?_
        rintro e w3 ⟨rfl, hw3⟩
        subst w3
        go_wp2_with fail
        refine (wbytes_any _ va xs _ (unhide HT2).one (by omega)).mono ?_
        rintro e w3 ⟨rfl, k3, h3⟩
        have HK3 := hide k3
        have H3 := hide h3
        clear k3 h3
        go_wp2_with fail
        refine (wbytes_any _ vb ys _ ((unhide HT2).two.kept (unhide HK3) (by simp) (by simp)) (by omega)).mono ?_
        rintro e w4 ⟨rfl, k4, h4⟩
        have HK4 := hide k4
        have H4 := hide h4
        clear k4 h4
        go_wp2_with fail
        refine (join_any _ _ xs ys _ (by exact (rd_fresh (unhide H3) (unhide HT2).one.byte (by omega)).old (unhide HK4) (by simp)) (by exact rd_fresh (unhide H4) (unhide HT2).two.byte (by omega)) (by omega)).mono ?_
        rintro e w5 ⟨lv, rfl, hr, k5, hb⟩
        rw [unhide Hxy] at hr
        have HR5 := hide hr
        have HK5 := hide k5
        clear hr k5 hb
        go_wp2_with fail
        refine (same_any _ _ Z Z _ (unhide HR5) (by exact (((rd_fresh (unhide HG) (unhide HbZ) (by omega)).old (unhide HK3) (by simp)).old (unhide HK4) (by simp)).old (unhide HK5) (by simp))).mono ?_
        rintro e w6 ⟨rfl, n6, hw6⟩
        have HK6 := hide (by rw [hw6]; exact ((((unhide HK2).trans (unhide HK3) (by simp)).trans (unhide HK4) (by simp)).trans (unhide HK5) (by simp)).drewN n6 : Kept [] w w6)
        clear hw6 n6
        go_wp2
        go_ret
        exact ⟨by simp, (unhide HK6).below (Nat.le_refl _) (by simp)⟩
end Go.Proofs.Ytdnacefdihipnab
