import Derived.Test.YtkcanelboloihaaERoTake
namespace Go.Proofs.Ytkcanelboloihaa
open Go.RowKit Go.BigFrame
set_option linter.unusedVariables false
set_option linter.unusedSimpArgs false

theorem setCells_midrow (b : Nat) (t : TypeId) : ∀ (vs pre mid post : List Value) (w : World), mid.length = vs.length → w.heap[b]? = some (.cells (pre ++ (mid ++ post)).toArray t (0, 0)) → (w.setCells b pre.length vs).heap[b]? = some (.cells (pre ++ (vs ++ post)).toArray t (0, 0))
  | [], pre, mid, post, w, hl, h => by
    have : mid = [] := List.eq_nil_of_length_eq_zero (by simpa using hl)
    subst this; exact h
  | v :: r, pre, mid, post, w, hl, h => by
    obtain ⟨x, mid, rfl⟩ : ∃ x q, mid = x :: q := by cases mid with | nil => simp at hl | cons x q => exact ⟨x, q, rfl⟩
    rw [World.setCells]
    have h1 := heap_setCell_same w b pre.length _ t v h
    have e1 : (pre ++ (x :: mid ++ post)).toArray.setIfInBounds pre.length v = ((pre ++ [v]) ++ (mid ++ post)).toArray := by simp
    rw [e1] at h1
    have h2 := setCells_midrow b t r (pre ++ [v]) mid post _ (by simpa using hl) h1
    rw [List.length_append, List.length_cons, List.length_nil, List.append_assoc] at h2
    simpa using h2
theorem root_log {w : World} {g s : Nat} {l m q : List Nat} (h : w.heap[g]? = some (.cells (rootC s l m).toArray 31 (0, 0))) (hl : l.length = 32) (hq : q.length = 32) : (w.setCells g 1 (q.map u8)).heap[g]? = some (.cells (rootC s q m).toArray 31 (0, 0)) :=
  setCells_midrow g 31 (q.map u8) [.int .u64 (s : Int)] (l.map u8) (m.map u8) w (by simp [hl, hq]) h
theorem root_map {w : World} {g s : Nat} {l m q : List Nat} (h : w.heap[g]? = some (.cells (rootC s l m).toArray 31 (0, 0))) (hl : l.length = 32) (hm : m.length = 32) (hq : q.length = 32) : (w.setCells g 33 (q.map u8)).heap[g]? = some (.cells (rootC s l q).toArray 31 (0, 0)) := by
  have h9 := setCells_midrow g 31 (q.map u8) (.int .u64 (s : Int) :: l.map u8) (m.map u8) [] w (by simp [hm, hq]) (by simpa [rootC] using h)
  simpa [rootC, hl] using h9

/-- TakeRoot's variables: the reader, the two results, the root. -/
structure TR (w W : World) (gv : Value) (i e : Nat) (s : Nat) (l m : List Nat) : Prop where
  r : W.heap[w.heap.size]? = some (.cells #[gv, .int .i64 (i : Int), .int .i64 (e : Int)] 103 (0, 0))
  a : W.heap[w.heap.size + 1]? = some (.cells Try.zeroCells31 31 (0, 0))
  b : W.heap[w.heap.size + 1 + 1]? = some (.cells #[.slice none 0 0, .int .i64 0, .int .i64 0] 103 (0, 0))
  c : W.heap[w.heap.size + 1 + 1 + 1]? = some (.cells (rootC s l m).toArray 31 (0, 0))
  kept : Kept [] w W
theorem TR.old {w W W' : World} {gv : Value} {i e s : Nat} {l m : List Nat} (h : TR w W gv i e s l m) (q : Kept [] W W') : TR w W' gv i e s l m :=
  ⟨q.heap h.r (by simp), q.heap h.a (by simp), q.heap h.b (by simp), q.heap h.c (by simp), h.kept.trans q (by simp)⟩
theorem TR.setR {w W : World} {gv : Value} {i e s : Nat} {l m : List Nat} (h : TR w W gv i e s l m) (gv' : Value) (i' e' : Nat) :
    TR w (((W.setCell ⟨w.heap.size, 0, none⟩ gv').setCell ⟨w.heap.size, 1, none⟩ (.int .i64 (i' : Int))).setCell ⟨w.heap.size, 2, none⟩ (.int .i64 (e' : Int))) gv' i' e' s l m := by
  have q := eput3_kept (Kept.refl [w.heap.size] W) w.heap.size (Or.inl (by simp)) gv' (.int .i64 (i' : Int)) (.int .i64 (e' : Int))
  exact ⟨eput3_heap h.r _ _ _, q.heap h.a (by simp), q.heap h.b (by simp; omega), q.heap h.c (by simp; omega), eput3_kept h.kept _ (Or.inr (Nat.le_refl _)) _ _ _⟩
theorem TR.setS {w W : World} {gv : Value} {i e s : Nat} {l m : List Nat} (h : TR w W gv i e s l m) (s' : Nat) : TR w (W.setCell ⟨w.heap.size + 1 + 1 + 1, 0, none⟩ (.int .u64 (s' : Int))) gv i e s' l m := by
  have q := (Kept.refl [w.heap.size + 1 + 1 + 1] W).setCell (p := ⟨w.heap.size + 1 + 1 + 1, 0, none⟩) (Or.inl (by simp)) (.int .u64 (s' : Int))
  refine ⟨q.heap h.r (by simp; omega), q.heap h.a (by simp), q.heap h.b (by simp), ?_, h.kept.setCell (Or.inr (by show w.heap.size ≤ w.heap.size + 1 + 1 + 1; omega)) _⟩
  have h9 := heap_setCell_same W _ 0 _ 31 (.int .u64 (s' : Int)) h.c
  simpa [rootC] using h9
theorem TR.setL {w W : World} {gv : Value} {i e s : Nat} {l m : List Nat} (h : TR w W gv i e s l m) (q : List Nat) (hl : l.length = 32) (hq : q.length = 32) : TR w (W.setCells (w.heap.size + 1 + 1 + 1) 1 (q.map u8)) gv i e s q m := by
  have k := setCells_kept (w.heap.size + 1 + 1 + 1) (Or.inl (by simp)) (q.map u8) 1 _ (Kept.refl [w.heap.size + 1 + 1 + 1] W)
  exact ⟨k.heap h.r (by simp; omega), k.heap h.a (by simp), k.heap h.b (by simp), root_log h.c hl hq, setCells_kept _ (Or.inr (by omega)) _ _ _ h.kept⟩
theorem TR.setM {w W : World} {gv : Value} {i e s : Nat} {l m : List Nat} (h : TR w W gv i e s l m) (q : List Nat) (hl : l.length = 32) (hm : m.length = 32) (hq : q.length = 32) : TR w (W.setCells (w.heap.size + 1 + 1 + 1) 33 (q.map u8)) gv i e s l q := by
  have k := setCells_kept (w.heap.size + 1 + 1 + 1) (Or.inl (by simp)) (q.map u8) 33 _ (Kept.refl [w.heap.size + 1 + 1 + 1] W)
  exact ⟨k.heap h.r (by simp; omega), k.heap h.a (by simp), k.heap h.b (by simp), root_map h.c hl hm hq, setCells_kept _ (Or.inr (by omega)) _ _ _ h.kept⟩
theorem TR.start (w : World) (gv : Value) (i e : Nat) : TR w ((((w.alloc (.cells #[gv, .int .i64 (i : Int), .int .i64 (e : Int)] 103)).alloc (.cells Try.zeroCells31 31)).alloc (.cells #[.slice none 0 0, .int .i64 0, .int .i64 0] 103)).alloc (.cells Try.zeroCells31 31)) gv i e 0 z32 z32 := by
  have h3 := heap_alloc3e w (.cells #[gv, .int .i64 (i : Int), .int .i64 (e : Int)] 103) (.cells Try.zeroCells31 31) (.cells #[.slice none 0 0, .int .i64 0, .int .i64 0] 103)
  have q := (Kept.refl [] (((w.alloc (.cells #[gv, .int .i64 (i : Int), .int .i64 (e : Int)] 103)).alloc (.cells Try.zeroCells31 31)).alloc (.cells #[.slice none 0 0, .int .i64 0, .int .i64 0] 103))).alloc (.cells Try.zeroCells31 31)
  refine ⟨q.heap h3.1 (by simp), q.heap h3.2.1 (by simp), q.heap h3.2.2 (by simp), ?_, (((((Kept.refl [] w).alloc _).alloc _).alloc _).alloc _)⟩
  have h9 := heap_alloc_new (((w.alloc (.cells #[gv, .int .i64 (i : Int), .int .i64 (e : Int)] 103)).alloc (.cells Try.zeroCells31 31)).alloc (.cells #[.slice none 0 0, .int .i64 0, .int .i64 0] 103)) (.cells Try.zeroCells31 31)
  rw [show (((w.alloc (.cells #[gv, .int .i64 (i : Int), .int .i64 (e : Int)] 103)).alloc (.cells Try.zeroCells31 31)).alloc (.cells #[.slice none 0 0, .int .i64 0, .int .i64 0] 103)).heap.size = w.heap.size + 1 + 1 + 1 by simp] at h9
  have e9 : (Try.zeroCells31 : Array Value) = (rootC 0 z32 z32).toArray := zRoot_eq
  rw [e9] at h9 ⊢
  exact h9

theorem rRaw_le {p : List Nat} {i e : Nat} (k : Nat) (h : i ≤ p.length) : (rRaw p i e k).2.1 ≤ p.length := by
  unfold rRaw
  split
  · exact h
  split
  · exact h
  split
  · exact h
  · rename_i h1 h2 h3; simp only [Int.toNat_natCast]; omega
def docR (p : List Nat) (k i e : Nat) : (Nat × List Nat × List Nat) × Nat × Nat :=
  (((rNum p i e 8).1, pad32 (rRaw p (rNum p i e 8).2.1 (rNum p i e 8).2.2 k).1, pad32 (rRaw p (rRaw p (rNum p i e 8).2.1 (rNum p i e 8).2.2 k).2.1 (rRaw p (rNum p i e 8).2.1 (rNum p i e 8).2.2 k).2.2 k).1), (rRaw p (rRaw p (rNum p i e 8).2.1 (rNum p i e 8).2.2 k).2.1 (rRaw p (rNum p i e 8).2.1 (rNum p i e 8).2.2 k).2.2 k).2)

set_option maxRecDepth 100000 in
set_option maxHeartbeats 1000000 in
theorem takeRoot_any (ao : Option Addr) (c k : Nat) (p : List Nat) (i e : Nat) (w : World) (h : Rd w (.slice ao p.length c) p) (hi : i ≤ p.length) (hk : 1 ≤ k ∧ k ≤ 32) :
    Calls Try.prog 54 #[.int .i64 k, rrV (.slice ao p.length c) i e] w fun r w' => r = .returned (.tuple #[.agg (rootC (docR p k i e).1.1 (docR p k i e).1.2.1 (docR p k i e).1.2.2).toArray, rrV (.slice ao p.length c) (docR p k i e).2.1 (docR p k i e).2.2]) ∧ Kept [] w w' := by
  have H := hide h
  have hl := h.len
  clear h
  have HT0 := hide (TR.start w (.slice ao p.length c) i e)
  obtain ⟨D, hD⟩ : ∃ D, docR p k i e = D := ⟨_, rfl⟩
  rw [hD]
  have HD := hide hD
  unfold docR at HD
  clear hD
  go_enter Try.func54, Try.ntmps54
  go_wp2_with fail
  refine Calls.mono (takeWide_any ao c p i e 8 _ (by exact (unhide H).old (unhide HT0).kept (by simp)) hi (by decide)) ?_
  rintro r w1 ⟨rfl, k1⟩
  have hli1 := rNum_le' (p := p) (i := i) (e := e) (n := 8) hi
  obtain ⟨x, hx⟩ : ∃ x, rNum p i e 8 = x := ⟨_, rfl⟩
  rw [hx] at HD hli1 ⊢
  clear hx
  obtain ⟨s, i1, e1⟩ := x
  simp only at HD hli1 ⊢
  have HT1 := hide ((unhide HT0).old k1)
  clear k1 HT0
  obtain ⟨⟨s0, s1, s2⟩, t0, t1, t2⟩ := three (unhide HT1).r
  have hc0 : w1.cell? ⟨w.heap.size + 1 + 1 + 1, 0, none⟩ = some (.int .u64 0) := by rw [cell_of_row _ _ _ _ _ _ (unhide HT1).c]; rfl
  have hf0 : w1.frozen? ⟨w.heap.size + 1 + 1 + 1, 0, none⟩ = false := frozen_of_row _ _ _ _ _ (unhide HT1).c
  have HTA := hide (((unhide HT1).setS s).setR (.slice ao p.length c) i1 e1)
  go_wp2_with fail
  clear s0 s1 s2 t0 t1 t2 hc0 hf0 HT1
  obtain ⟨WA, hWA⟩ : ∃ W, ((((w1.setCell ⟨w.heap.size + 1 + 1 + 1, 0, none⟩ (.int .u64 (s : Int))).setCell ⟨w.heap.size, 0, none⟩ (.slice ao p.length c)).setCell ⟨w.heap.size, 1, none⟩ (.int .i64 (i1 : Int))).setCell ⟨w.heap.size, 2, none⟩ (.int .i64 (e1 : Int))) = W := ⟨_, rfl⟩
  rw [hWA] at HTA ⊢
  clear hWA
  have hLq := hide (pad32_len (Nat.le_trans (rRaw_len p i1 e1 k) hk.2))
  refine Calls.mono (takeDigest_any ao c k p i1 e1 WA ((unhide H).old (unhide HTA).kept (by simp)) hli1 hk) ?_
  rintro r w2 ⟨rfl, k2⟩
  have hli2 := rRaw_le (e := e1) k hli1
  obtain ⟨x, hx⟩ : ∃ x, rRaw p i1 e1 k = x := ⟨_, rfl⟩
  rw [hx] at HD hli2 hLq ⊢
  clear hx
  obtain ⟨q1, i2, e2⟩ := x
  simp only at HD hli2 hLq ⊢
  obtain ⟨l, hl1⟩ : ∃ l, pad32 q1 = l := ⟨_, rfl⟩
  rw [hl1] at HD hLq ⊢
  clear hl1
  have HT2 := hide ((unhide HTA).old k2)
  clear k2 HTA
  have HTL := hide ((unhide HT2).setL l z32_len (unhide hLq))
  have hth1 : w2.there (w.heap.size + 1 + 1 + 1) 1 (l.map u8).toArray.size := fun j hj => by
    have h9 := unhide hLq
    have hj' : j < 32 := by simpa [h9] using hj
    exact ⟨by rw [cell_of_row _ _ _ _ _ _ (unhide HT2).c]; simp [rootC, z32_len]; omega, frozen_of_row _ _ _ _ _ (unhide HT2).c⟩
  have hTH := hide hth1
  have hSZ := hide (by rw [List.size_toArray, List.length_map, unhide hLq]; exact Try.size_dig : (Try.prog.info? 29).map (·.size) = some (l.map u8).toArray.size)
  clear hth1
  have HTB := hide (show TR w ((w2.setCells (w.heap.size + 1 + 1 + 1) 1 (l.map u8)).setCells w.heap.size 0 [.slice ao p.length c, .int .i64 (i2 : Int), .int .i64 (e2 : Int)]) (.slice ao p.length c) i2 e2 s l z32 from (unhide HTL).setR (.slice ao p.length c) i2 e2)
  have hTR := hide (there_row (w := w2.setCells (w.heap.size + 1 + 1 + 1) 1 (l.map u8)) (cs := [.slice ao p.length c, .int .i64 (i1 : Int), .int .i64 (e1 : Int)]) (unhide HTL).r)
  have hON := hide (all_oneCell_toArray (u8_oneCell l))
  unfold brow
  go_wp2_with (first
    | (refine wpList_store_mid rfl 29 _ _ rfl (w.heap.size + 1 + 1 + 1) 1 (l.map u8).toArray rfl rfl (unhide hTH) (unhide hSZ) (unhide hON) ?_)
    | (refine wpList_store_mid rfl 103 _ _ rfl w.heap.size 0 #[.slice ao p.length c, .int .i64 (i2 : Int), .int .i64 (e2 : Int)] rfl rfl (unhide hTR) Try.size_rr (row3_one rfl rfl rfl) ?_; obtain ⟨WB, hWB⟩ : ∃ W, ((w2.setCells (w.heap.size + 1 + 1 + 1) 1 (l.map u8).toArray.toList).setCells w.heap.size 0 (#[.slice ao p.length c, .int .i64 (i2 : Int), .int .i64 (e2 : Int)] : Array Value).toList) = W := ⟨_, rfl⟩; rw [hWB]; have HTW := hide (show TR w WB (.slice ao p.length c) i2 e2 s l z32 from hWB ▸ unhide HTB); clear hWB; obtain ⟨⟨s0, s1, s2⟩, t0, t1, t2⟩ := three (unhide HTW).r))
  clear s0 s1 s2 t0 t1 t2 HTB HTL HT2 hTH hTR hON hSZ
  have hLm := hide (pad32_len (Nat.le_trans (rRaw_len p i2 e2 k) hk.2))
  refine Calls.mono (takeDigest_any ao c k p i2 e2 WB ((unhide H).old (unhide HTW).kept (by simp)) hli2 hk) ?_
  rintro r w3 ⟨rfl, k3⟩
  obtain ⟨x, hx⟩ : ∃ x, rRaw p i2 e2 k = x := ⟨_, rfl⟩
  rw [hx] at HD hLm ⊢
  clear hx
  obtain ⟨q2, i3, e3⟩ := x
  simp only at HD hLm ⊢
  obtain ⟨m, hm1⟩ : ∃ m, pad32 q2 = m := ⟨_, rfl⟩
  rw [hm1] at HD hLm ⊢
  clear hm1
  have HT3 := hide ((unhide HTW).old k3)
  clear k3 HTW
  have HTM := hide ((unhide HT3).setM m (unhide hLq) z32_len (unhide hLm))
  have hth1 : w3.there (w.heap.size + 1 + 1 + 1) 33 (m.map u8).toArray.size := fun j hj => by
    have h9 := unhide hLm
    have h8 := unhide hLq
    have hj' : j < 32 := by simpa [h9] using hj
    exact ⟨by rw [cell_of_row _ _ _ _ _ _ (unhide HT3).c]; simp [rootC, z32_len, h8]; omega, frozen_of_row _ _ _ _ _ (unhide HT3).c⟩
  have hTH := hide hth1
  have hSZ := hide (by rw [List.size_toArray, List.length_map, unhide hLm]; exact Try.size_dig : (Try.prog.info? 29).map (·.size) = some (m.map u8).toArray.size)
  clear hth1
  have HTB := hide (show TR w ((w3.setCells (w.heap.size + 1 + 1 + 1) 33 (m.map u8)).setCells w.heap.size 0 [.slice ao p.length c, .int .i64 (i3 : Int), .int .i64 (e3 : Int)]) (.slice ao p.length c) i3 e3 s l m from (unhide HTM).setR (.slice ao p.length c) i3 e3)
  have hTR := hide (there_row (w := w3.setCells (w.heap.size + 1 + 1 + 1) 33 (m.map u8)) (cs := [.slice ao p.length c, .int .i64 (i2 : Int), .int .i64 (e2 : Int)]) (unhide HTM).r)
  have hON := hide (all_oneCell_toArray (u8_oneCell m))
  unfold brow
  go_wp2_with (first
    | (refine wpList_store_mid rfl 29 _ _ rfl (w.heap.size + 1 + 1 + 1) 33 (m.map u8).toArray rfl rfl (unhide hTH) (unhide hSZ) (unhide hON) ?_)
    | (refine wpList_store_mid rfl 103 _ _ rfl w.heap.size 0 #[.slice ao p.length c, .int .i64 (i3 : Int), .int .i64 (e3 : Int)] rfl rfl (unhide hTR) Try.size_rr (row3_one rfl rfl rfl) ?_; obtain ⟨WF, hWF⟩ : ∃ W, ((w3.setCells (w.heap.size + 1 + 1 + 1) 33 (m.map u8).toArray.toList).setCells w.heap.size 0 (#[.slice ao p.length c, .int .i64 (i3 : Int), .int .i64 (e3 : Int)] : Array Value).toList) = W := ⟨_, rfl⟩; rw [hWF]; have HTF := hide (show TR w WF (.slice ao p.length c) i3 e3 s l m from hWF ▸ unhide HTB); clear hWF))
  clear HTB HTM HT3 hTH hTR hON hSZ
  have hrg : WF.drew.rangeAt (w.heap.size + 1 + 1 + 1) 0 (rootC s l m) := range_row (unhide HTF).c
  have hrr : WF.drew.rangeAt w.heap.size 0 [.slice ao p.length c, .int .i64 (i3 : Int), .int .i64 (e3 : Int)] := range_row (unhide HTF).r
  have hlen : (rootC s l m).length = 65 := by simp [rootC, unhide hLq, unhide hLm]
  have hza := (unhide HTF).a
  rw [show (Try.zeroCells31 : Array Value) = (rootC 0 z32 z32).toArray from zRoot_eq] at hza
  have hth : WF.drew.there (w.heap.size + 1) 0 (rootC s l m).length := by have h9 := there_row (w := WF.drew) (cs := rootC 0 z32 z32) hza; rw [hlen]; simpa [rootC, z32_len] using h9
  have htt : WF.drew.there (w.heap.size + 1 + 1) 0 3 := there_row (w := WF.drew) (cs := [.slice none 0 0, .int .i64 0, .int .i64 0]) (unhide HTF).b
  have hsz : (Try.prog.info? 31).map (·.size) = some (rootC s l m).length := by rw [hlen]; exact Try.size_root
  have hone : ∀ v ∈ rootC s l m, v.oneCell' = true := by intro v hv; simp [rootC] at hv; rcases hv with rfl | ⟨x, _, rfl⟩ | ⟨x, _, rfl⟩ <;> rfl
  obtain ⟨R, hR⟩ : ∃ R, rootC s l m = R := ⟨_, rfl⟩
  rw [hR] at hrg hlen hth hsz hone
  have HRR := hide hR
  clear hR
  refine wp_ret4 (by kernel_rfl) (by kernel_rfl) (by kernel_rfl) (by kernel_rfl) (by kernel_rfl) (by kernel_rfl) (by kernel_rfl) (by kernel_rfl) rfl rfl rfl rfl 31 103 _ _ _ _ _ _ rfl rfl rfl rfl
    (w.heap.size + 1 + 1 + 1) w.heap.size (w.heap.size + 1) (w.heap.size + 1 + 1) R [.slice ao p.length c, .int .i64 (i3 : Int), .int .i64 (e3 : Int)] _ _ hrg hrr hth htt (by omega)
    Try.underlying31 rfl hsz hone Try.underlying103 rfl Try.size_rr (by intro v hv; simp at hv; rcases hv with rfl | rfl | rfl <;> rfl) rfl rfl rfl rfl rfl rfl rfl rfl rfl rfl rfl rfl rfl ?_
  have k1 := setCells_kept (w.heap.size + 1) (Or.inl (by simp)) R 0 _ (Kept.refl [w.heap.size + 1] WF.drew)
  have k2 := setCells_kept (w.heap.size + 1 + 1) (Or.inl (by simp)) [.slice ao p.length c, .int .i64 (i3 : Int), .int .i64 (e3 : Int)] 0 _ (Kept.refl [w.heap.size + 1 + 1] (WF.drew.setCells (w.heap.size + 1) 0 R))
  have HE1 := hide (k2.heap (setCells_row (vs := R) (show WF.drew.heap[w.heap.size + 1]? = some (.cells (rootC 0 z32 z32).toArray 31 (0, 0)) from hza) (by rw [hlen]; simp [rootC, z32_len])) (by simp))
  have HE2 := hide (setCells_row (vs := [.slice ao p.length c, .int .i64 (i3 : Int), .int .i64 (e3 : Int)]) (k1.heap (show WF.drew.heap[w.heap.size + 1 + 1]? = some (.cells ([.slice none 0 0, .int .i64 0, .int .i64 0] : List Value).toArray 103 (0, 0)) from (unhide HTF).b) (by simp)) rfl)
  have HKF := hide (setCells_kept (w.heap.size + 1 + 1) (Or.inr (by omega)) [.slice ao p.length c, .int .i64 (i3 : Int), .int .i64 (e3 : Int)] 0 _ (setCells_kept (w.heap.size + 1) (Or.inr (by omega)) R 0 _ (unhide HTF).kept.drew))
  clear k1 k2 hza hth htt hrg hrr
  have HSZ := hide hsz
  clear hsz hone hlen
  go_wp2
  refine bodyPost_ret (v := .tuple #[.agg R.toArray, .agg #[(.slice ao p.length c), .int .i64 (i3 : Int), .int .i64 (e3 : Int)]]) ?_ rfl ⟨by rw [← unhide HD, ← unhide HRR], unhide HKF⟩
  exact results_row_row rfl _ _ (w.heap.size + 1) (w.heap.size + 1 + 1) _ _ R.toArray #[(.slice ao p.length c), .int .i64 (i3 : Int), .int .i64 (e3 : Int)] (0, 0) (0, 0) _ _ rfl (by exact unhide HE1) rfl (by exact unhide HE2) Try.underlying31 rfl (by rw [List.size_toArray]; exact unhide HSZ) Try.underlying103 rfl Try.size_rr
end Go.Proofs.Ytkcanelboloihaa
