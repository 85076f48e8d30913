import Derived.Test.YtkcanelboloihaaEAw
import Derived.Test.YtkcanelboloihaaRefTake3
import Derived.Test.YtkcanelboloihaaRows2
namespace Go.Proofs.Ytkcanelboloihaa
open Go.RowKit Go.BigFrame
set_option linter.unusedVariables false
set_option linter.unusedSimpArgs false

set_option maxRecDepth 100000 in
set_option maxHeartbeats 1000000 in
theorem failed_any (ao : Option Addr) (n c i e f : Nat) (w : World) :
    Calls Try.prog 71 #[rrV (.slice ao n c) i e, .int .i64 f] w fun r w' => r = .returned (rrV (.slice ao n c) i (if e = 0 then f else e : Nat)) ∧ Kept [] w w' := by
  by_cases he : e = 0
  · have hb : ((e : Int) == 0) = true := by rw [he]; rfl
    rw [if_pos he]
    clear he
    go_enter Try.func71, Try.ntmps71
    go_wp2
    exact bodyPost_ret (v := .agg #[.slice ao n c, .int .i64 i, .int .i64 f]) (by simp [results, Try.results71, go_sem]) rfl ⟨rfl, ((Kept.refl [] w).alloc _).alloc _⟩
  · have hb : ((e : Int) == 0) = false := by rw [beq_eq_false_iff_ne]; omega
    rw [if_neg he]
    clear he
    go_enter Try.func71, Try.ntmps71
    go_wp2
    exact bodyPost_ret (v := .agg #[.slice ao n c, .int .i64 i, .int .i64 e]) (by simp [results, Try.results71, go_sem]) rfl ⟨rfl, ((Kept.refl [] w).alloc _).alloc _⟩

theorem results_row_row {P : Program} {fn : Func} {p q : Tmp} {ty ty2 : TypeId} (h : fn.results = #[.cell p ty, .cell q ty2]) (tmps : Array Value) (w : World) (g g2 : Nat) (t t2 : TypeId) (cs cs2 : Array Value) (fr fr2 : Nat × Nat) (d d2 : TypeDesc)
    (hp : tmps.getD p undef = .pointer (some ⟨g, 0, none⟩)) (hg : w.heap[g]? = some (.cells cs t fr)) (hq : tmps.getD q undef = .pointer (some ⟨g2, 0, none⟩)) (hg2 : w.heap[g2]? = some (.cells cs2 t2 fr2))
    (hu : P.underlying ty = some d) (hd : (match d with | .struct _ | .array _ _ => true | _ => false) = true) (hi : (P.info? ty).map (·.size) = some cs.size)
    (hu2 : P.underlying ty2 = some d2) (hd2 : (match d2 with | .struct _ | .array _ _ => true | _ => false) = true) (hi2 : (P.info? ty2).map (·.size) = some cs2.size) :
    (results fn tmps).run P w = .ok (.tuple #[.agg cs, .agg cs2]) w := by
  have hp' : tmps[p]?.getD undef = .pointer (some ⟨g, 0, none⟩) := by simpa using hp
  have hq' : tmps[q]?.getD undef = .pointer (some ⟨g2, 0, none⟩) := by simpa using hq
  simp [results, h, hp', hq', asAddr, run_loadVar_row w g t ty cs fr d hg hu hd hi, run_loadVar_row w g2 t2 ty2 cs2 fr2 d2 hg2 hu2 hd2 hi2]
theorem Try.size_rr : (Try.prog.info? 103).map (·.size) = some 3 := by kernel_rfl

/-- Take's variables: the reader, the two results, the entry. -/
structure TK (w W : World) (gv : Value) (i e : Nat) (k : Nat) (kv vv : Value) : Prop where
  r : W.heap[w.heap.size]? = some (.cells #[gv, .int .i64 (i : Int), .int .i64 (e : Int)] 103 (0, 0))
  a : W.heap[w.heap.size + 1]? = some (.cells #[.int .u8 0, .slice none 0 0, .slice none 0 0] 45 (0, 0))
  b : W.heap[w.heap.size + 1 + 1]? = some (.cells #[.slice none 0 0, .int .i64 0, .int .i64 0] 103 (0, 0))
  c : W.heap[w.heap.size + 1 + 1 + 1]? = some (.cells #[.int .u8 (k : Int), kv, vv] 45 (0, 0))
  kept : Kept [] w W
theorem TK.old {w W W' : World} {gv : Value} {i e k : Nat} {kv vv : Value} (h : TK w W gv i e k kv vv) (q : Kept [] W W') : TK w W' gv i e k kv vv :=
  ⟨q.heap h.r (by simp), q.heap h.a (by simp), q.heap h.b (by simp), q.heap h.c (by simp), h.kept.trans q (by simp)⟩
theorem TK.setR {w W : World} {gv : Value} {i e k : Nat} {kv vv : Value} (h : TK w W gv i e k kv vv) (gv' : Value) (i' e' : Nat) :
    TK w (((W.setCell ⟨w.heap.size, 0, none⟩ gv').setCell ⟨w.heap.size, 1, none⟩ (.int .i64 (i' : Int))).setCell ⟨w.heap.size, 2, none⟩ (.int .i64 (e' : Int))) gv' i' e' k kv vv := by
  have q := eput3_kept (Kept.refl [w.heap.size] W) w.heap.size (Or.inl (by simp)) gv' (.int .i64 (i' : Int)) (.int .i64 (e' : Int))
  exact ⟨eput3_heap h.r _ _ _, q.heap h.a (by simp), q.heap h.b (by simp; omega), q.heap h.c (by simp; omega), eput3_kept h.kept _ (Or.inr (Nat.le_refl _)) _ _ _⟩
theorem TK.setK {w W : World} {gv : Value} {i e k : Nat} {kv vv : Value} (h : TK w W gv i e k kv vv) (k' : Nat) : TK w (W.setCell ⟨w.heap.size + 1 + 1 + 1, 0, none⟩ (.int .u8 (k' : Int))) gv i e k' kv vv := by
  have q := (Kept.refl [w.heap.size + 1 + 1 + 1] W).setCell (p := ⟨w.heap.size + 1 + 1 + 1, 0, none⟩) (Or.inl (by simp)) (.int .u8 (k' : Int))
  exact ⟨q.heap h.r (by simp; omega), q.heap h.a (by simp), q.heap h.b (by simp), heap_setCell_same W _ 0 _ 45 _ h.c, h.kept.setCell (Or.inr (by show w.heap.size ≤ w.heap.size + 1 + 1 + 1; omega)) _⟩
theorem TK.setY {w W : World} {gv : Value} {i e k : Nat} {kv vv : Value} (h : TK w W gv i e k kv vv) (y : Value) : TK w (W.setCell ⟨w.heap.size + 1 + 1 + 1, 1, none⟩ y) gv i e k y vv := by
  have q := (Kept.refl [w.heap.size + 1 + 1 + 1] W).setCell (p := ⟨w.heap.size + 1 + 1 + 1, 1, none⟩) (Or.inl (by simp)) y
  exact ⟨q.heap h.r (by simp; omega), q.heap h.a (by simp), q.heap h.b (by simp), heap_setCell_same W _ 1 _ 45 _ h.c, h.kept.setCell (Or.inr (by show w.heap.size ≤ w.heap.size + 1 + 1 + 1; omega)) _⟩
theorem TK.setV {w W : World} {gv : Value} {i e k : Nat} {kv vv : Value} (h : TK w W gv i e k kv vv) (y : Value) : TK w (W.setCell ⟨w.heap.size + 1 + 1 + 1, 2, none⟩ y) gv i e k kv y := by
  have q := (Kept.refl [w.heap.size + 1 + 1 + 1] W).setCell (p := ⟨w.heap.size + 1 + 1 + 1, 2, none⟩) (Or.inl (by simp)) y
  exact ⟨q.heap h.r (by simp; omega), q.heap h.a (by simp), q.heap h.b (by simp), heap_setCell_same W _ 2 _ 45 _ h.c, h.kept.setCell (Or.inr (by show w.heap.size ≤ w.heap.size + 1 + 1 + 1; omega)) _⟩
theorem TK.start (w : World) (gv : Value) (i e : Nat) : TK w ((((w.alloc (.cells #[gv, .int .i64 (i : Int), .int .i64 (e : Int)] 103)).alloc (.cells #[.int .u8 0, .slice none 0 0, .slice none 0 0] 45)).alloc (.cells #[.slice none 0 0, .int .i64 0, .int .i64 0] 103)).alloc (.cells #[.int .u8 0, .slice none 0 0, .slice none 0 0] 45)) gv i e 0 (.slice none 0 0) (.slice none 0 0) := by
  have h3 := heap_alloc3e w (.cells #[gv, .int .i64 (i : Int), .int .i64 (e : Int)] 103) (.cells #[.int .u8 0, .slice none 0 0, .slice none 0 0] 45) (.cells #[.slice none 0 0, .int .i64 0, .int .i64 0] 103)
  have q := (Kept.refl [] (((w.alloc (.cells #[gv, .int .i64 (i : Int), .int .i64 (e : Int)] 103)).alloc (.cells #[.int .u8 0, .slice none 0 0, .slice none 0 0] 45)).alloc (.cells #[.slice none 0 0, .int .i64 0, .int .i64 0] 103))).alloc (.cells #[.int .u8 0, .slice none 0 0, .slice none 0 0] 45)
  refine ⟨q.heap h3.1 (by simp), q.heap h3.2.1 (by simp), q.heap h3.2.2 (by simp), ?_, (((((Kept.refl [] w).alloc _).alloc _).alloc _).alloc _)⟩
  have h9 := heap_alloc_new (((w.alloc (.cells #[gv, .int .i64 (i : Int), .int .i64 (e : Int)] 103)).alloc (.cells #[.int .u8 0, .slice none 0 0, .slice none 0 0] 45)).alloc (.cells #[.slice none 0 0, .int .i64 0, .int .i64 0] 103)) (.cells #[.int .u8 0, .slice none 0 0, .slice none 0 0] 45)
  rw [show (((w.alloc (.cells #[gv, .int .i64 (i : Int), .int .i64 (e : Int)] 103)).alloc (.cells #[.int .u8 0, .slice none 0 0, .slice none 0 0] 45)).alloc (.cells #[.slice none 0 0, .int .i64 0, .int .i64 0] 103)).heap.size = w.heap.size + 1 + 1 + 1 by simp] at h9
  exact h9

/-- What the document takes. -/
def docF (x e : Nat) : Nat := if x = 1 ∨ x = 2 then e else if e = 0 then 3 else e
def docT2 (p : List Nat) (x i e : Nat) : En × Nat × Nat :=
  if x = 1 then (⟨x % 256, (rBlob p i (docF x e) 64).1, (rBlob p (rBlob p i (docF x e) 64).2.1 (rBlob p i (docF x e) 64).2.2 256).1⟩, (rBlob p (rBlob p i (docF x e) 64).2.1 (rBlob p i (docF x e) 64).2.2 256).2)
  else (⟨x % 256, (rBlob p i (docF x e) 64).1, []⟩, (rBlob p i (docF x e) 64).2)
def docT (p : List Nat) (i e : Nat) : En × Nat × Nat := docT2 p (rNum p i e 1).1 (rNum p i e 1).2.1 (rNum p i e 1).2.2
theorem rNum_le' {p : List Nat} {i e n : Nat} (h : i ≤ p.length) : (rNum p i e n).2.1 ≤ p.length := by
  unfold rNum; split
  · exact h
  · split
    · exact h
    · show i + n ≤ p.length; omega
theorem rBlob_le {p : List Nat} {i e : Nat} {m : Int} (h : i ≤ p.length) : (rBlob p i e m).2.1 ≤ p.length := by
  have hf := fuv_le (p.drop i) 0 0
  unfold rBlob
  split
  · exact h
  split
  · exact h
  split
  · exact h
  split
  · exact h
  split
  · exact h
  · rename_i h5
    simp only [List.length_drop] at h5 hf ⊢
    omega
end Go.Proofs.Ytkcanelboloihaa
