import Derived.Test.YtkcanelboloihaaERoDoc
import Derived.Test.YtkcanelboloihaaRefTake3
import Derived.Test.YtkcanelboloihaaEDocT0
import Derived.Test.YtkcanelboloihaaRet4
import Derived.Deep.RegionHeld3
namespace Go.Proofs.Ytkcanelboloihaa
open Go.RowKit Go.BigFrame
set_option linter.unusedVariables false
set_option linter.unusedSimpArgs false

theorem pad32_nil : pad32 [] = z32 := by simp [pad32, z32]
/-- Bytes copied into a digest of noughts. -/
theorem copy_dig {w : World} {g n : Nat} {q : List Nat} {ao : Option Addr} {c : Nat} (hg : w.heap[g]? = some (.cells (brow z32) 29 (0, 0))) (hr : Rd w (.slice ao n c) q) (h1 : q.length ≤ 32) :
    ∃ W, (Builtin.copy_ #[24, 24] 3 #[.slice (some ⟨g, 0, none⟩) 32 32, .slice ao n c]).run Try.prog w = .ok (goInt n) W ∧ W.heap[g]? = some (.cells (brow (pad32 q)) 29 (0, 0)) ∧ Kept [g] w W := by
  obtain ⟨_, _, _, hE, hn, _⟩ := id hr
  cases hE
  by_cases h0 : 0 < n
  · subst hn
    obtain ⟨ad, rfl, hc⟩ := hr.src (by simpa using h0)
    have h9 := run_copy_row (P := Try.prog) w 24 24 3 5 g 0 32 32 ad q.length c (brow z32) 29 (q.map u8) Try.underlying24 Try.size5 hg (by rw [List.length_map]; exact (Nat.min_eq_left h1).symm) hc (by simp [brow, z32_len]; omega) (u8_oneCell q)
    rw [List.length_map] at h9
    refine ⟨_, h9, ?_, (Kept.refl [g] w).setRow (Or.inl (by simp)) _⟩
    have e9 : ((brow z32).toList.take 0 ++ q.map u8 ++ (brow z32).toList.drop (0 + q.length)).toArray = brow (pad32 q) := by
      unfold brow pad32
      rw [List.toList_toArray, Nat.zero_add, List.take_zero, List.nil_append, ← List.map_drop, z32_drop, ← List.map_append]
    rw [← e9]
    exact setRow_heap _ _ _ _ _ _ hg
  · have hq : q = [] := List.eq_nil_of_length_eq_zero (by omega)
    subst hq
    have hn0 : n = 0 := by omega
    subst hn0
    refine ⟨w, ?_, by rw [pad32_nil]; exact hg, Kept.refl _ _⟩
    exact run_copy_none (P := Try.prog) w 24 24 3 5 (some ⟨g, 0, none⟩) ao 32 32 0 c Try.underlying24 Try.size5 rfl

/-- TakeDigest's variables: the reader, the two results, the digest. -/
structure TD (w W : World) (gv : Value) (i e : Nat) (d : List Nat) : Prop where
  r : W.heap[w.heap.size]? = some (.cells #[gv, .int .i64 (i : Int), .int .i64 (e : Int)] 103 (0, 0))
  a : W.heap[w.heap.size + 1]? = some (.cells (brow z32) 29 (0, 0))
  b : W.heap[w.heap.size + 1 + 1]? = some (.cells #[.slice none 0 0, .int .i64 0, .int .i64 0] 103 (0, 0))
  c : W.heap[w.heap.size + 1 + 1 + 1]? = some (.cells (brow d) 29 (0, 0))
  kept : Kept [] w W
theorem TD.old {w W W' : World} {gv : Value} {i e : Nat} {d : List Nat} (h : TD w W gv i e d) (q : Kept [] W W') : TD w W' gv i e d :=
  ⟨q.heap h.r (by simp), q.heap h.a (by simp), q.heap h.b (by simp), q.heap h.c (by simp), h.kept.trans q (by simp)⟩
theorem TD.setR {w W : World} {gv : Value} {i e : Nat} {d : List Nat} (h : TD w W gv i e d) (gv' : Value) (i' e' : Nat) :
    TD w (((W.setCell ⟨w.heap.size, 0, none⟩ gv').setCell ⟨w.heap.size, 1, none⟩ (.int .i64 (i' : Int))).setCell ⟨w.heap.size, 2, none⟩ (.int .i64 (e' : Int))) gv' i' e' d := by
  have q := eput3_kept (Kept.refl [w.heap.size] W) w.heap.size (Or.inl (by simp)) gv' (.int .i64 (i' : Int)) (.int .i64 (e' : Int))
  exact ⟨eput3_heap h.r _ _ _, q.heap h.a (by simp), q.heap h.b (by simp; omega), q.heap h.c (by simp; omega), eput3_kept h.kept _ (Or.inr (Nat.le_refl _)) _ _ _⟩
theorem TD.start (w : World) (gv : Value) (i e : Nat) : TD w ((((w.alloc (.cells #[gv, .int .i64 (i : Int), .int .i64 (e : Int)] 103)).alloc (.cells (brow z32) 29)).alloc (.cells #[.slice none 0 0, .int .i64 0, .int .i64 0] 103)).alloc (.cells (brow z32) 29)) gv i e z32 := by
  have h3 := heap_alloc3e w (.cells #[gv, .int .i64 (i : Int), .int .i64 (e : Int)] 103) (.cells (brow z32) 29) (.cells #[.slice none 0 0, .int .i64 0, .int .i64 0] 103)
  have q := (Kept.refl [] (((w.alloc (.cells #[gv, .int .i64 (i : Int), .int .i64 (e : Int)] 103)).alloc (.cells (brow z32) 29)).alloc (.cells #[.slice none 0 0, .int .i64 0, .int .i64 0] 103))).alloc (.cells (brow z32) 29)
  refine ⟨q.heap h3.1 (by simp), q.heap h3.2.1 (by simp), q.heap h3.2.2 (by simp), ?_, (((((Kept.refl [] w).alloc _).alloc _).alloc _).alloc _)⟩
  have h9 := heap_alloc_new (((w.alloc (.cells #[gv, .int .i64 (i : Int), .int .i64 (e : Int)] 103)).alloc (.cells (brow z32) 29)).alloc (.cells #[.slice none 0 0, .int .i64 0, .int .i64 0] 103)) (.cells (brow z32) 29)
  rw [show (((w.alloc (.cells #[gv, .int .i64 (i : Int), .int .i64 (e : Int)] 103)).alloc (.cells (brow z32) 29)).alloc (.cells #[.slice none 0 0, .int .i64 0, .int .i64 0] 103)).heap.size = w.heap.size + 1 + 1 + 1 by simp] at h9
  exact h9
theorem rRaw_len (p : List Nat) (i e k : Nat) : (rRaw p i e k).1.length ≤ k := by
  unfold rRaw
  split
  · simp
  split
  · simp
  split
  · simp
  · simp; omega

set_option maxRecDepth 100000 in
set_option maxHeartbeats 2000000 in
theorem takeDigest_any (ao : Option Addr) (c k : Nat) (p : List Nat) (i e : Nat) (w : World) (h : Rd w (.slice ao p.length c) p) (hi : i ≤ p.length) (hk : 1 ≤ k ∧ k ≤ 32) :
    Calls Try.prog 103 #[.int .i64 k, rrV (.slice ao p.length c) i e] w fun r w' => r = .returned (.tuple #[.agg (brow (pad32 (rRaw p i e k).1)), rrV (.slice ao p.length c) (rRaw p i e k).2.1 (rRaw p i e k).2.2]) ∧ Kept [] w w' := by
  have H := hide h
  have hl := h.len
  clear h
  have HT0 := hide (TD.start w (.slice ao p.length c) i e)
  have HLN := hide (rRaw_len p i e k)
  obtain ⟨R, hR⟩ : ∃ R, rRaw p i e k = R := ⟨_, rfl⟩
  rw [hR] at HLN ⊢
  have HRR := hide hR
  clear hR
  obtain ⟨q, i1, e1⟩ := R
  simp only at HLN ⊢
  go_enter Try.func103, Try.ntmps103
  go_wp2_with fail
  refine Calls.mono (takeRaw_any ao c p i e k _ (by exact (unhide H).old (unhide HT0).kept (by simp)) hi (by omega)) ?_
  rintro r w1 ⟨rv, rfl, rd1, k1, b1⟩
  rw [unhide HRR] at rd1 ⊢
  simp only at rd1 ⊢
  have HT1 := hide ((unhide HT0).old k1)
  obtain ⟨a3, m3, c3, hu3, hm3, _⟩ := id rd1
  subst hu3
  have HR1 := hide rd1
  have HB1 := hide b1
  clear rd1 k1 b1
  obtain ⟨⟨s0, s1, s2⟩, t0, t1, t2⟩ := three (unhide HT1).r
  have HTA := hide ((unhide HT1).setR (.slice ao p.length c) i1 e1)
  have HRA := hide ((unhide HR1).kept (eput3_kept (Kept.refl [w.heap.size] w1) w.heap.size (Or.inl (by simp)) (.slice ao p.length c) (.int .i64 (i1 : Int)) (.int .i64 (e1 : Int))) (fun x hx => by have h9 := unhide HB1 x hx; simp at h9 ⊢; omega))
  obtain ⟨WC, hcp, hg1, kc⟩ := copy_dig (unhide HTA).c (unhide HRA) (by have := unhide HLN; omega)
  have HTC := hide (show TD w WC (.slice ao p.length c) i1 e1 (pad32 q) from ⟨kc.heap (unhide HTA).r (by simp; omega), kc.heap (unhide HTA).a (by simp), kc.heap (unhide HTA).b (by simp), hg1, (unhide HTA).kept.trans kc (by simp; omega)⟩)
  clear hg1 kc HT0 HT1 HR1
  go_wp2_with fail
  clear hcp HTA HRA s0 s1 s2 t0 t1 t2
  obtain ⟨⟨s0, s1, s2⟩, t0, t1, t2⟩ := three (unhide HTC).r
  obtain ⟨⟨q0, q1, q2⟩, h0, h1, h2⟩ := three (unhide HTC).b
  have hrg : WC.drew.rangeAt (w.heap.size + 1 + 1 + 1) 0 ((pad32 q).map u8) := range_row (unhide HTC).c
  have hlen : ((pad32 q).map u8).length = 32 := by rw [List.length_map, pad32_len (by have := unhide HLN; omega)]
  have hth : WC.drew.there (w.heap.size + 1) 0 32 := by have h9 := there_row (w := WC.drew) (cs := z32.map u8) (unhide HTC).a; rw [List.length_map, z32_len] at h9; exact h9
  have hone := u8_oneCell (pad32 q)
  have hu := Try.underlying29
  have hsz : (Try.prog.info? 29).map (·.size) = some ((pad32 q).map u8).length := by rw [hlen]; exact Try.size_dig
  have hrr : WC.drew.rangeAt w.heap.size 0 [.slice ao p.length c, .int .i64 (i1 : Int), .int .i64 (e1 : Int)] := range_row (unhide HTC).r
  have htt : WC.drew.there (w.heap.size + 1 + 1) 0 3 := there_row (w := WC.drew) (cs := [.slice none 0 0, .int .i64 0, .int .i64 0]) (unhide HTC).b
  refine wp_ret4 (by kernel_rfl) (by kernel_rfl) (by kernel_rfl) (by kernel_rfl) (by kernel_rfl) (by kernel_rfl) (by kernel_rfl) (by kernel_rfl) rfl rfl rfl rfl 29 103 _ _ _ _ _ _ rfl rfl rfl rfl
    (w.heap.size + 1 + 1 + 1) w.heap.size (w.heap.size + 1) (w.heap.size + 1 + 1) ((pad32 q).map u8) [.slice ao p.length c, .int .i64 (i1 : Int), .int .i64 (e1 : Int)] _ _ hrg hrr (by rw [hlen]; exact hth) htt (by omega)
    hu rfl hsz hone Try.underlying103 rfl Try.size_rr (by intro v hv; simp at hv; rcases hv with rfl | rfl | rfl <;> rfl) rfl rfl rfl rfl rfl rfl rfl rfl rfl rfl rfl rfl rfl ?_
  have HE1 := hide (setCells_row (vs := (pad32 q).map u8) (show WC.drew.heap[w.heap.size + 1]? = some (.cells (z32.map u8).toArray 29 (0, 0)) from (unhide HTC).a) (by rw [hlen]; simp [z32_len]))
  have k1 := setCells_kept (w.heap.size + 1) (Or.inl (by simp)) ((pad32 q).map u8) 0 _ (Kept.refl [w.heap.size + 1] WC.drew)
  have k2 := setCells_kept (w.heap.size + 1 + 1) (Or.inl (by simp)) [.slice ao p.length c, .int .i64 (i1 : Int), .int .i64 (e1 : Int)] 0 _ (Kept.refl [w.heap.size + 1 + 1] (WC.drew.setCells (w.heap.size + 1) 0 ((pad32 q).map u8)))
  have HE2 := hide (setCells_row (vs := [.slice ao p.length c, .int .i64 (i1 : Int), .int .i64 (e1 : Int)]) (k1.heap (show WC.drew.heap[w.heap.size + 1 + 1]? = some (.cells ([.slice none 0 0, .int .i64 0, .int .i64 0] : List Value).toArray 103 (0, 0)) from (unhide HTC).b) (by simp)) rfl)
  have HE1' := hide (k2.heap (unhide HE1) (by simp))
  have HKF := hide (setCells_kept (w.heap.size + 1 + 1) (Or.inr (by omega)) [.slice ao p.length c, .int .i64 (i1 : Int), .int .i64 (e1 : Int)] 0 _ (setCells_kept (w.heap.size + 1) (Or.inr (by omega)) ((pad32 q).map u8) 0 _ (unhide HTC).kept.drew))
  clear k1 k2
  go_wp2
  refine bodyPost_ret (v := .tuple #[.agg (brow (pad32 q)), .agg #[(.slice ao p.length c), .int .i64 (i1 : Int), .int .i64 (e1 : Int)]]) ?_ rfl ⟨rfl, unhide HKF⟩
  exact results_row_row rfl _ _ (w.heap.size + 1) (w.heap.size + 1 + 1) _ _ (brow (pad32 q)) #[(.slice ao p.length c), .int .i64 (i1 : Int), .int .i64 (e1 : Int)] (0, 0) (0, 0) _ _ rfl (by exact unhide HE1') rfl (by exact unhide HE2) Try.underlying29 rfl (by unfold brow; rw [List.size_toArray]; exact hsz) Try.underlying103 rfl Try.size_rr
end Go.Proofs.Ytkcanelboloihaa
