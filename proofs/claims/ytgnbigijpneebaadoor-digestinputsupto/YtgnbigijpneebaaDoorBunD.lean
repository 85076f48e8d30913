import Derived.Test.YtgnbigijpneebaaDoorBunB
import Derived.StillTail
import Derived.Deep.QuietTactic
import Derived.BigQuiet
import Derived.Laws.Rows
import Derived.Test.YtgnbigijpneebaaDoorBunA
import Derived.Laws.StructEq
import Derived.BigFrame
import Derived.Test.YtgnbigijpneebaaDoorBunC
import Derived.Test.YtgnbigijpneebaaDoorCards
import Derived.Test.YtgnbigijpneebaaDoorTie
import Derived.ProofKit
import Derived.OpenShut
import Derived.Deep.Slices
import Derived.SizedLaws
namespace Go.Proofs.YtgnbigijpneebaaDoor
open Go.RowKit
set_option linter.unusedVariables false
set_option linter.unusedSimpArgs false

theorem addr_block (x : Addr) (i : Nat) : (x.add i).block = x.block := by unfold Addr.add; split <;> rfl

/-- A cut p[i:] reads as the rest. -/
theorem Rd.drop0 {w : World} {ao : Option Addr} {cap i : Nat} {p : List Nat} (h : Rd w (.slice ao p.length cap) p) (hc : cap = i) (hi : i ≤ p.length) : Rd w (.slice ao (p.length - i) 0) (p.drop i) := by
  obtain ⟨ao', len', cap', he, _, h2, ⟨h3, h3'⟩, h4, h5, h6⟩ := h
  cases he
  have e : p.length = i := by omega
  have ed : p.drop i = [] := List.drop_eq_nil_of_le (by omega)
  rw [ed]
  exact ⟨_, _, _, rfl, by simp; omega, by omega, ⟨by omega, by omega⟩, fun _ => rfl, by simp, fun hp => by omega⟩
theorem Rd.drop {w : World} {ao : Option Addr} {cap i : Nat} {p : List Nat} (h : Rd w (.slice ao p.length cap) p) (hi : i ≤ p.length) :
    Rd w (.slice (Option.map (fun x => x.add i) ao) (p.length - i) (cap - i)) (p.drop i) := by
  obtain ⟨ao', len', cap', he, _, h2, ⟨h3, h3'⟩, h4, h5, h6⟩ := h
  cases he
  refine ⟨_, _, _, rfl, by simp, by omega, ⟨by omega, by omega⟩, fun h => ?_, fun x hx => h5 x (List.mem_of_mem_drop hx), fun hp => ?_⟩
  · have := h4 (by simpa using h); omega
  · obtain ⟨b, off, rfl, hc⟩ := h6 (by omega)
    refine ⟨b, off + i, by simp [Addr.add_mid], fun j hj => ?_⟩
    have := hc (i + j) (by omega)
    rw [Nat.add_assoc, this]
    simp [List.getD_eq_getElem?_getD]
/-- A cut p[s:s+x] of a row that is there. -/
theorem Rd.mid {w : World} {b o c s x : Nat} {q : List Nat} (h : Rd w (.slice (some ⟨b, o, none⟩) q.length c) q) (hs : s + x ≤ q.length) :
    Rd w (.slice (some ⟨b, o + s, none⟩) x (c - s)) ((q.drop s).take x) := by
  obtain ⟨ao', len', cap', he, _, h2, ⟨h3, h3'⟩, h4, h5, h6⟩ := h
  cases he
  refine ⟨_, _, _, rfl, by simp; omega, by omega, ⟨by omega, by omega⟩, by simp, fun y hy => h5 y (List.mem_of_mem_drop (List.mem_of_mem_take hy)), fun hp => ?_⟩
  obtain ⟨b', o', he, hc⟩ := h6 (by omega)
  cases he
  refine ⟨b, o + s, rfl, fun j hj => ?_⟩
  rw [Nat.add_assoc, hc (s + j) (by omega)]
  simp [List.getD_eq_getElem?_getD, List.getElem?_take, hj]

/-- One block more. -/
theorem chain_next (h p : List Nat) (k : Nat) (hk : 64 * k + 64 ≤ p.length) : chain h (p.take (64 * (k + 1))) = comp (chain h (p.take (64 * k))) ((p.drop (64 * k)).take 64) := by
  have e : p.take (64 * (k + 1)) = p.take (64 * k) ++ (p.drop (64 * k)).take 64 := by rw [show 64 * (k + 1) = 64 * k + 64 by omega, List.take_add]
  have hl : ((p.drop (64 * k)).take 64).length = 64 := by simp; omega
  rw [e, chain_append _ k _ _ (by simp; omega), chain_step (p := (p.drop (64 * k)).take 64) (by omega), chain_short (by simp), List.take_of_length_le (l := (p.drop (64 * k)).take 64) (by omega)]
theorem chain_wds' {h : List Nat} (hw : Wds h) (p : List Nat) : Wds (chain h p) := chain_wds p _ h hw
theorem chain_whole (p : List Nat) : hashW p = chain (chain h0 (p.take (64 * (p.length / 64)))) (p.drop (64 * (p.length / 64)) ++ pad p.length) := by
  unfold hashW
  rw [← chain_append _ (p.length / 64) _ _ (by simp; omega), ← List.append_assoc, List.take_append_drop]
theorem tail_blocks (p : List Nat) : ∃ m, (p.drop (64 * (p.length / 64)) ++ pad p.length).length = 64 * m ∧ 1 ≤ m ∧ m ≤ 2 := by
  refine ⟨(p.drop (64 * (p.length / 64)) ++ pad p.length).length / 64, ?_⟩
  have h1 := pad_full p.length
  have h2 := pad_len p.length
  have h3 : padZ p.length = if p.length % 64 < 56 then 55 - p.length % 64 else 119 - p.length % 64 := rfl
  rw [List.length_append, List.length_drop, h2, h3]
  split <;> omega
theorem flat4 : ∀ (Y : List Nat), (Y.flatMap bytes4).length = 4 * Y.length
  | [] => rfl
  | y :: Y => by rw [List.flatMap_cons, List.length_append, flat4 Y, List.length_cons]; simp [bytes4]; omega
theorem hash_len (p : List Nat) : (hash p).length = 32 := by
  unfold hash dig
  rw [flat4, show (hashW p).length = 8 from (chain_wds' h0_wds _).1]
end Go.Proofs.YtgnbigijpneebaaDoor
namespace Go.Proofs.YtgnbigijpneebaaDoor
open Go.RowKit
set_option linter.unusedVariables false
set_option linter.unusedSimpArgs false

theorem Rd.take {w : World} {ao : Option Addr} {cap n : Nat} {p : List Nat} (h : Rd w (.slice ao p.length cap) p) (hn : n ≤ p.length) : Rd w (.slice ao n cap) (p.take n) := by
  obtain ⟨ao', len', cap', he, _, h2, ⟨h3, h3'⟩, h4, h5, h6⟩ := h
  cases he
  refine ⟨_, _, _, rfl, by simp; omega, by omega, ⟨by omega, by omega⟩, h4, fun x hx => h5 x (List.mem_of_mem_take hx), fun hp => ?_⟩
  obtain ⟨b, off, rfl, hc⟩ := h6 (by omega)
  refine ⟨b, off, rfl, fun i hi => ?_⟩
  rw [hc i (by omega)]
  simp [List.getD_eq_getElem?_getD, List.getElem?_take, hi]
theorem Rd.sub0 {w : World} {ao : Option Addr} {cap s x : Nat} {q : List Nat} (h : Rd w (.slice ao q.length cap) q) (hc : cap = s) (hs : s + x ≤ q.length) : Rd w (.slice ao x 0) ((q.drop s).take x) := by
  have h1 := h.drop0 hc (by omega)
  obtain ⟨_, _, _, he, _, h2, _⟩ := h
  cases he
  have hx : x = 0 := by omega
  subst hx
  have h3 : (q.drop s).length = q.length - s := by simp
  rw [← h3] at h1
  exact h1.take (by omega)
theorem Rd.sub {w : World} {ao : Option Addr} {cap s x : Nat} {q : List Nat} (h : Rd w (.slice ao q.length cap) q) (hs : s + x ≤ q.length) : Rd w (.slice (Option.map (fun x => x.add s) ao) x (cap - s)) ((q.drop s).take x) := by
  have h1 := h.drop (i := s) (by omega)
  have h3 : (q.drop s).length = q.length - s := by simp
  rw [← h3] at h1
  exact h1.take (by omega)
theorem Rd.blk_lt {w : World} {ao : Option Addr} {n c n' c' : Nat} {p : List Nat} (h : Rd w (.slice ao n c) p) (hp : 0 < p.length) : ∀ x ∈ blk (.slice ao n' c'), x < w.heap.size := by
  obtain ⟨ao', len', cap', he, hl, _, _, _, _, h6⟩ := h
  cases he
  obtain ⟨b, off, rfl, hc⟩ := h6 (by omega)
  have := block_lt_of_cell (hc 0 (by omega))
  intro x hx
  simp [blk] at hx
  subst hx
  simpa using this
theorem blk_drop {ao : Option Addr} {n c n' c' i : Nat} : ∀ x ∈ blk (.slice (Option.map (fun x => x.add i) ao) n' c'), x ∈ blk (.slice ao n c) := by
  cases ao with
  | none => simp [blk]
  | some a => simp [blk, addr_block]
theorem take_more (p : List Nat) (d n : Nat) : p.take d ++ (p.drop d).take n = p.take (d + n) := by rw [List.take_add]
end Go.Proofs.YtgnbigijpneebaaDoor
/-
  A drawn region whose first n operations only read (calls that only read among them) and whose others stand in one row behind them: one walk in the text's order.
-/
namespace Go.Proofs.YtgnbigijpneebaaDoor
open Go

section
variable {P : Program} {ops : Array Oper} {md : Region.Mode} {C : World → Prop}

/-- Whatever head operation comes up next, it is quiet; behind f of them stands L. -/
def AnyHead (P : Program) (md : Region.Mode) (ops : Array Oper) (C : World → Prop) (n : Nat) (L : Array Bool → Act → Prop) : Nat → Array Bool → Act → Prop
  | 0, d, a => L d a
  | f + 1, d, a => Region.ready md ops d ≠ [] ∧ ∀ i ∈ Region.ready md ops d, i < n ∧ qOp P ops C i (AnyHead P md ops C n L f (d.setIfInBounds i true)) a

theorem AnyHead.any {n g : Nat} {L : Array Bool → Act → Prop} {Q : Exit → Act → World → Prop} (hL : ∀ d a w, C w → L d a → wpAny P md ops Q g d a w) :
    ∀ (f : Nat) (d : Array Bool) (a : Act) (w : World), C w → AnyHead P md ops C n L f d a → wpAny P md ops Q (f + g) d a w := by
  intro f
  induction f with
  | zero => intro d a w hw h; rw [Nat.zero_add]; exact hL d a w hw h
  | succ f ih =>
    intro d a w hw h
    rw [Nat.add_right_comm]
    exact ⟨fun h0 => absurd h0 h.1, fun i hi => wpOp_of_qOp hw (fun a' w' hw' h' => ih _ a' w' hw' h') (h.2 i hi).2⟩

/-- A quiet head operation that is ready may be taken first. -/
theorem AnyHead.first {n i : Nat} {oi : Oper} {v : Value} {L : Array Bool → Act → Prop} (hi : ops[i]? = some oi) (hsel : ∀ (j : Nat) (o : Oper) cs b, ops[j]? = some o → o.op ≠ .select cs b)
    (hs : Region.sinkB md ops n = true) (hc : Region.chainB md ops n = true) (hn : n < ops.size) (hin : i < n) (hdone : ∀ d a, L d a → ∀ j ∈ Region.ready md ops d, n ≤ j) (f : Nat) :
    ∀ (d : Array Bool) (a : Act), HeadInv md ops n d →
      (∀ j oj, ops[j]? = some oj → j ≠ i → d.getD j true = false → (∀ e ∈ oj.after, Region.binds md e = true → e.on ≠ i) → oi.apart ops oj = true) →
      i ∈ Region.ready md ops d → YieldsIn P ops C oi v a → AnyHead P md ops C n L f (d.setIfInBounds i true) (a.put oi.dst v) → AnyHead P md ops C n L (f + 1) d a := by
  induction f with
  | zero =>
    intro d a inv _ hr hy H
    refine ⟨List.ne_nil_of_mem hr, fun j hj => ?_⟩
    have hjn : j < n := Nat.lt_of_not_le fun h => tail_waits hs hc hn inv _ i rfl hin (mem_ready.1 hr).1 j h hj
    refine ⟨hjn, ?_⟩
    by_cases e : j = i
    · rw [e]; exact hy.qOp hi H
    · exact absurd (hdone _ _ H j (ready_mono hj e)) (by omega)
  | succ f ih =>
    intro d a inv hfree hr hy H
    refine ⟨List.ne_nil_of_mem hr, fun j hj => ?_⟩
    have hun := (mem_ready.1 hr).1
    have hjn : j < n := Nat.lt_of_not_le fun h => tail_waits hs hc hn inv _ i rfl hin hun j h hj
    refine ⟨hjn, ?_⟩
    by_cases e : j = i
    · rw [e]; exact hy.qOp hi H
    · obtain ⟨hjun, oj, hoj, hall⟩ := mem_ready.1 hj
      have hap : oi.apart ops oj = true := hfree j oj hoj e hjun fun x hx hb heq => by
        have h1 := hall x hx hb
        rw [heq, getD_both hun] at h1
        cases h1
      refine qOp_mono (fun a' h3 => ih (d.setIfInBounds j true) a' (inv.set hj hjn) (fun k ok hk hki hu hno => hfree k ok hk hki ?_ hno) (ready_mono hr (Ne.symm e)) h3.1 ?_)
        (qOp_put hoj hap (fun cs b => hsel i oi cs b hi) (fun cs b => hsel j oj cs b hoj) hy (H.2 j (ready_mono hj e)).2)
      · by_cases hjk : j = k
        · rw [← hjk]; exact hjun
        · rwa [getD_set_ne true hjk] at hu
      · rw [Array.setIfInBounds_comm _ _ e]
        exact h3.2

theorem AnyHead.lex {n g : Nat} {Lq : Act → Prop} (hsel : Region.noSelect ops = true) (hs : Region.sinkB md ops n = true) (hc : Region.chainB md ops n = true) (hn : n < ops.size) (l : List Oper) :
    ∀ (k : Nat) (d : Array Bool) (a : Act), (∀ j, j < l.length → l[j]? = ops[k + j]?) → k + l.length = n → HeadInv md ops n d → Region.lexHead md ops g l.length k d = true → wpQuiet P ops C Lq l a →
    AnyHead P md ops C n (fun d' a' => Region.seqB md ops g n d' = true ∧ Lq a') l.length d a := by
  induction l with
  | nil =>
    intro k d a _ hk _ hB h
    obtain rfl : k = n := by simpa using hk
    exact ⟨by simpa [Region.lexHead] using hB, h⟩
  | cons o l ih =>
    intro k d a hl hk inv hB h
    have h0 : ops[k]? = some o := by have := hl 0 (by simp); simpa using this.symm
    simp only [List.length_cons, Region.lexHead, Bool.and_eq_true] at hB hk
    obtain ⟨⟨hr, hf⟩, hB'⟩ := hB
    have hr' : k ∈ Region.ready md ops d := by simpa using hr
    obtain ⟨v, hy, hK⟩ := yieldsIn_of_qOp h0 (show qOp P ops C k (wpQuiet P ops C Lq l) a by unfold qOp; simp only [h0]; exact h)
    refine AnyHead.first h0 (Region.noSelect_spec hsel) hs hc hn (by omega) (fun d' a' hL => seqB_ready hL.1) l.length d a inv (Region.free_spec h0 hf) hr' hy
      (ih (k + 1) _ _ (fun j hj => ?_) (by omega) (inv.set hr' (by omega)) hB' hK)
    have := hl (j + 1) (by simp; omega)
    rw [List.getElem?_cons_succ] at this
    rw [this]; congr 1; omega

/-- THE REGION: its first n operations by a quiet walk, the others one behind the other. -/
theorem wp_quiet_tail {id : Nat} {Q : Exit → Act → World → Prop} {a : Act} {w : World} {l : List Oper} (n : Nat) (hm : P.follows .mixedOrders = true) (hB : Region.lexTailB .any l.toArray n = true)
    (h : wpQuiet P l.toArray (fun w' => ∃ m, w' = w.drewN m) (fun a' => ∀ w', (∃ m, w' = w.drewN m) → wpList P l.toArray Q (l.drop n) a' w') (l.take n) a) : (Code.region id l.toArray true).wp P Q a w := by
  simp only [Region.lexTailB, Bool.and_eq_true, decide_eq_true_eq] at hB
  obtain ⟨⟨⟨⟨hsel, hn⟩, hs⟩, hc⟩, hlex⟩ := hB
  have hn' : n < l.length := by simpa using hn
  have htl : (l.take n).length = n := by simp; omega
  have hdl : (l.drop n).length = l.toArray.size - n := by simp
  have inv : HeadInv .any l.toArray n (Array.replicate l.toArray.size false) :=
    ⟨by simp, fun j oj _ hl => absurd hl (by rw [getD_replicate_false]; decide), fun t _ ht => getD_in (by simpa using ht) (getD_replicate_false _ _)⟩
  have H := AnyHead.lex (md := .any) (g := l.toArray.size - n) hsel hs hc hn (l.take n) 0 _ a (fun j hj => by
    rw [htl] at hj
    simp [hj]) (by omega) inv (by rw [htl]; exact hlex) h
  refine wp_region_any hm ?_
  have K := AnyHead.any (Q := Q) (g := l.toArray.size - n) (fun d a' w' hw' hL => by
    have := wpAny_of_seq (md := .any) (Q' := Q) (l.drop n) n d a' w' (fun j => by simp [List.getElem?_drop]) (by rw [hdl]; exact hL.1) (hL.2 w' hw')
    rwa [hdl] at this) _ _ _ (w.drewN 1) ⟨1, rfl⟩ H
  rw [htl, show n + (l.toArray.size - n) = l.toArray.size by omega] at K
  exact K
end
end Go.Proofs.YtgnbigijpneebaaDoor
/-
  A whole row by value, read within a quiet walk.
-/
namespace Go.Proofs.YtgnbigijpneebaaDoor
open Go Go.RowKit Go.BigFrame

theorem wpQuiet_load_row {P : Program} {ops : Array Oper} {C : World → Prop} {Q : Act → Prop} {a : Act} {o : Oper} {rest : List Oper} (hgd : o.guard = none) (ty : TypeId) (x : Operand) (ho : o.op = .load ty x)
    (g : Nat) (hx : a.eval x = .pointer (some ⟨g, 0, none⟩)) (t : TypeId) (cs : Array Value) (fr : Nat × Nat) (d : TypeDesc) (hg : ∀ w, C w → w.heap[g]? = some (.cells cs t fr))
    (hu : P.underlying ty = some d) (hd : (match d with | .struct _ | .array _ _ => true | _ => false) = true) (hi : (P.info? ty).map (·.size) = some cs.size)
    (h : wpQuiet P ops C Q rest (a.put o.dst (.agg cs))) : wpQuiet P ops C Q (o :: rest) a := by
  refine wpQuiet_want (by simp [Region.wanted, hgd]) fun K hK => ⟨.agg cs, fun w hw => ?_, hK _ h⟩
  unfold Oper.quietAt execOp
  simp only [ho]
  have := run_loadVar_row (P := P) w g t ty cs fr d (hg w hw) hu hd hi
  simp only [hx, Instr.loadAt, Instr.sureAddr, Sem.run_bind, Sem.run_pure, Result.andThen_ok, this, Oper.quietUpon, and_self]
end Go.Proofs.YtgnbigijpneebaaDoor
/-
  A drawn region whose operations read and whose callees leave all that was there as it was: one walk in the text's order, over the class of the worlds that keep W.
-/
namespace Go.Proofs.YtgnbigijpneebaaDoor
open Go Go.RowKit Go.BigFrame
set_option linter.unusedSimpArgs false

theorem wp_region_keep {P : Program} {id : Nat} {Q : Exit → Act → World → Prop} {a : Act} {W : World} {l : List Oper} (hm : P.follows .mixedOrders = true) (hB : Region.lexB .any l.toArray = true)
    (h : wpQuiet P l.toArray (fun w' => Kept [] W w') (fun a' => ∀ w', Kept [] W w' → Q .normal a' w') l a) : (Code.region id l.toArray true).wp P Q a W :=
  wp_region_quiet (C := fun w' => Kept [] W w') hm hB ((Kept.refl [] W).drew) (by simpa using h)

theorem wpQuiet_row {P : Program} {ops : Array Oper} {C : World → Prop} {Q : Act → Prop} {a : Act} {o : Oper} {rest : List Oper} (hw : Region.wanted o (yielded ops a.tmps) = true) (ty : TypeId) (x : Operand) (ho : o.op = .load ty x)
    (g : Nat) (hx : a.eval x = .pointer (some ⟨g, 0, none⟩)) (t : TypeId) (cs : Array Value) (fr : Nat × Nat) (d : TypeDesc) (hg : ∀ w, C w → w.heap[g]? = some (.cells cs t fr))
    (hu : P.underlying ty = some d) (hd : (match d with | .struct _ | .array _ _ => true | _ => false) = true) (hi : (P.info? ty).map (·.size) = some cs.size)
    (h : wpQuiet P ops C Q rest (a.put o.dst (.agg cs))) : wpQuiet P ops C Q (o :: rest) a := by
  refine wpQuiet_want hw fun K hK => ⟨.agg cs, fun w hw => ?_, hK _ h⟩
  unfold Oper.quietAt execOp
  simp only [ho]
  have := run_loadVar_row (P := P) w g t ty cs fr d (hg w hw) hu hd hi
  simp only [hx, Instr.loadAt, Instr.sureAddr, Sem.run_bind, Sem.run_pure, Result.andThen_ok, this, Oper.quietUpon, and_self]

theorem wpQuiet_val {P : Program} {ops : Array Oper} {C : World → Prop} {Q : Act → Prop} {a : Act} {o : Oper} {rest : List Oper} (hw : Region.wanted o (yielded ops a.tmps) = true) (v : Value)
    (hr : ∀ w, C w → (execOp a.eval o).run P w = .ok (.value v) w) (h : wpQuiet P ops C Q rest (a.put o.dst v)) : wpQuiet P ops C Q (o :: rest) a := by
  refine wpQuiet_want hw fun K hK => ⟨v, fun w hw => ?_, hK _ h⟩
  unfold Oper.quietAt
  rw [hr w hw]
  exact ⟨rfl, rfl⟩

theorem run_load1 {P : Program} {o : Oper} {a : Act} (ty : TypeId) (x : Operand) (ho : o.op = .load ty x) (ad : Addr) (hx : a.eval x = .pointer (some ad)) (w : World) (v : Value) (k : IntKind) (hu : P.underlying ty = some (.int k)) (hc : w.cell? ad = some v) :
    (execOp a.eval o).run P w = .ok (.value v) w := by
  have h2 : (isAgg ty).run P w = .ok false w := by
    unfold isAgg
    rw [Sem.run_bind, run_underlying hu w]; simp
  unfold execOp
  simp only [ho, hx, Instr.loadAt, Instr.sureAddr, Sem.run_bind, Sem.run_pure, Result.andThen_ok, loadVar, h2]
  simp [go_sem, hc]
theorem run_eql {P : Program} {o : Oper} {a : Act} (ty : TypeId) (x y : Operand) (r : TypeId) (ho : o.op = .binOp .eql ty x y r) (xs ys : Array Value) (hx : a.eval x = .agg xs) (hy : a.eval y = .agg ys) (w : World) (b : Bool)
    (hm : P.eqGuardType P.depth ty = false) (h : (Op.equalIn 10000 ty (.agg xs) (.agg ys)).run P w = .ok b w) : (execOp a.eval o).run P w = .ok (.value (.bool b)) w := by
  unfold execOp
  simp only [ho, hx, hy, binOp, Op.equal, Sem.run_bind, run_eqGuard_agg (P := P) w _ _ _ _ _ _ hm, Result.andThen_ok]
  rw [show Op.maxDepth = 10000 from rfl, h]; rfl
theorem run_neq {P : Program} {o : Oper} {a : Act} (ty : TypeId) (x y : Operand) (r : TypeId) (ho : o.op = .binOp .neq ty x y r) (xs ys : Array Value) (hx : a.eval x = .agg xs) (hy : a.eval y = .agg ys) (w : World) (b : Bool)
    (hm : P.eqGuardType P.depth ty = false) (h : (Op.equalIn 10000 ty (.agg xs) (.agg ys)).run P w = .ok b w) : (execOp a.eval o).run P w = .ok (.value (.bool (!b))) w := by
  unfold execOp
  simp only [ho, hx, hy, binOp, Op.equal, Sem.run_bind, run_eqGuard_agg (P := P) w _ _ _ _ _ _ hm, Result.andThen_ok]
  rw [show Op.maxDepth = 10000 from rfl, h]; rfl

/-- A whole row by value behind '&&' or '||': the guard is met. -/
theorem wpList_load_rowG {P : Program} {ops : Array Oper} {rest : List Oper} {o : Oper} {a : Act} {w : World} {Q : Exit → Act → World → Prop} (hw : Region.wanted o (yielded ops a.tmps) = true) (ty : TypeId) (x : Operand) (ho : o.op = .load ty x)
    (g : Nat) (hx : a.eval x = .pointer (some ⟨g, 0, none⟩)) (t : TypeId) (cs : Array Value) (fr : Nat × Nat) (d : TypeDesc) (hg : w.heap[g]? = some (.cells cs t fr))
    (hu : P.underlying ty = some d) (hd : (match d with | .struct _ | .array _ _ => true | _ => false) = true) (hi : (P.info? ty).map (·.size) = some cs.size)
    (h : wpList P ops Q rest (a.put o.dst (.agg cs)) w) : wpList P ops Q (o :: rest) a w :=
  wpList_want hw fun _ hK => wp_load_row ty x ho g hx t cs fr d hg hu hd hi (hK _ _ h)
end Go.Proofs.YtgnbigijpneebaaDoor
namespace Go.Proofs.YtgnbigijpneebaaDoor
open Go.RowKit
set_option linter.unusedVariables false
set_option linter.unusedSimpArgs false

set_option maxRecDepth 100000 in
set_option maxHeartbeats 1000000 in
theorem turn_any (x n : Nat) (w : World) (hx : x < 4294967296) (h1 : 1 ≤ n) (h2 : n ≤ 31) :
    Calls Tryd.prog 101 #[.int .u32 x, .int .i64 n] w fun e w' => e = .returned (.int .u32 (rotr n x)) ∧ ∃ n, w' = w.drewN n := by
  obtain ⟨m, hm⟩ : ∃ m, m + n = 32 := ⟨32 - n, by omega⟩
  have hmn : (32 : Int) - (n : Int) = (m : Int) := by omega
  have hadd : ((x : Int) / 2 ^ n + (x : Int) * 2 ^ m % 4294967296) % 4294967296 = ((rotr n x : Nat) : Int) := by
    have e1 : (x : Int) * 2 ^ m % 4294967296 = ((x * 2 ^ m % 4294967296 : Nat) : Int) := by simp
    have e2 : (x : Int) / 2 ^ n = ((x / 2 ^ n : Nat) : Int) := by simp
    have e3 := rotr_shift n x (by omega) hx
    rw [show 32 - n = m by omega] at e3
    have e4 := rotr_lt (n := n) (by omega) hx
    have e5 : rotr n x = x / 2 ^ n + x * 2 ^ m % 4294967296 := by rw [e3]; unfold rotr; rw [show 32 - n = m by omega]
    rw [e1, e2]; omega
  have hn0 : (0 : Int) ≤ n := by omega
  have hm0 : (0 : Int) ≤ m := by omega
  have hm32 : (m : Int) ≤ 32 := by omega
  have hn32 : (n : Int) ≤ 32 := by omega
  have hnn : ¬ (n : Int) < 0 := by omega
  have hmm : ¬ (m : Int) < 0 := by omega
  go_enter Tryd.func101, Tryd.ntmps101
  go_wp2_with fail
  go_quiet (fail)
  go_wp2
  go_ret
  exact ⟨by rw [← hadd]; rfl, _, rfl⟩

set_option maxRecDepth 100000 in
set_option maxHeartbeats 1000000 in
theorem big_any (v : Value) (p : List Nat) (k : Nat) (z : Int) (w : World) (h : Rd w v p) (hz : z = k) (hk : k + 4 ≤ p.length) :
    Calls Tryd.prog 103 #[v, .int .i64 z] w fun e w' => e = .returned (.int .u32 (p.getD k 0 * 16777216 + p.getD (k + 1) 0 * 65536 + p.getD (k + 2) 0 * 256 + p.getD (k + 3) 0 : Nat)) ∧ ∃ n, w' = w.drewN n := by
  subst hz
  have HB := hide h.byte
  obtain ⟨ao, len, cap, rfl, rfl, h2, ⟨h3, h3'⟩, h4, h5, h6⟩ := h
  obtain ⟨b, o, rfl, hc⟩ := h6 (by omega)
  have c0 := hc k (by omega)
  have c1 := hc (k + 1) (by omega)
  have c2 := hc (k + 2) (by omega)
  have c3 := hc (k + 3) (by omega)
  have b0 := byteD (unhide HB) k
  have b1 := byteD (unhide HB) (k + 1)
  have b2 := byteD (unhide HB) (k + 2)
  have b3 := byteD (unhide HB) (k + 3)
  clear hc h4 h5 h6
  generalize p.getD k 0 = y0 at *
  generalize p.getD (k + 1) 0 = y1 at *
  generalize p.getD (k + 2) 0 = y2 at *
  generalize p.getD (k + 3) 0 = y3 at *
  have i0 : (k : Int) < p.length := by omega
  have i1 : (k : Int) + 1 < p.length := by omega
  have i2 : (k : Int) + 2 < p.length := by omega
  have i3 : (k : Int) + 3 < p.length := by omega
  go_enter Tryd.func103, Tryd.ntmps103
  go_wp2_with fail
  go_quiet (fail)
  go_wp2
  go_ret
  exact ⟨by simp, _, rfl⟩
theorem wpList_build_as' {P : Program} {ops : Array Oper} {rest : List Oper} {o : Oper} {a : Act} {w : World} {Q : Exit → Act → World → Prop} (hg : o.guard = none) (t : TypeId) (parts : Array (Nat × Operand)) (ho : o.op = .build t parts) (cs : Array Value)
    (hb : P.built t (parts.map fun (i, x) => (i, a.eval x)).toList = some cs) (h : wpList P ops Q rest (a.put o.dst (.agg cs)) w) : wpList P ops Q (o :: rest) a w :=
  wpList_build hg t parts ho (by rw [hb]; rfl) (by rw [hb]; exact h)

set_option maxRecDepth 100000 in
set_option maxHeartbeats 1000000 in
theorem words_any (w : World) : Calls Tryd.prog 100 #[] w fun e w' => e = .returned (.agg (row kt)) ∧ Kept [] w w' := by
  go_enter Tryd.func100, Tryd.ntmps100
  go_wp2_with (first
    | (refine wpList_build_as' rfl 127 _ rfl (row kt) (by kernel_rfl) ?_)
    | (rw [zw64]; refine wpList_store_row rfl 127 _ _ rfl w.heap.size (row kt) rfl rfl _ (zw 64) (heap_alloc_new _ _) (by rw [row_size]; exact Tryd.size_a64w) (by rw [zw_size, row_size]; rfl) (row_one _) ?_))
  refine bodyPost_ret (v := .agg (row kt)) ?_ rfl ⟨rfl, ((Kept.refl [] w).alloc _).setRow (by simp) _⟩
  exact results_cell_row rfl _ _ w.heap.size _ (row kt) (0, 0) _ rfl (setRow_heap _ _ _ _ _ _ (heap_alloc_new _ _)) Tryd.underlying127 rfl (by rw [row_size]; exact Tryd.size_a64w)

set_option maxRecDepth 100000 in
set_option maxHeartbeats 1000000 in
theorem first_any (w : World) : Calls Tryd.prog 94 #[] w fun e w' => e = .returned (.agg (row h0)) ∧ Kept [] w w' := by
  go_enter Tryd.func94, Tryd.ntmps94
  go_wp2_with (first
    | (refine wpList_build_as' rfl 117 _ rfl (row h0) (by kernel_rfl) ?_)
    | (rw [zw8]; refine wpList_store_row rfl 117 _ _ rfl w.heap.size (row h0) rfl rfl _ (zw 8) (heap_alloc_new _ _) (by rw [row_size]; exact Tryd.size_a8) (by rw [zw_size, row_size]; rfl) (row_one _) ?_))
  refine bodyPost_ret (v := .agg (row h0)) ?_ rfl ⟨rfl, ((Kept.refl [] w).alloc _).setRow (by simp) _⟩
  exact results_cell_row rfl _ _ w.heap.size _ (row h0) (0, 0) _ rfl (setRow_heap _ _ _ _ _ _ (heap_alloc_new _ _)) Tryd.underlying117 rfl (by rw [row_size]; exact Tryd.size_a8)
end Go.Proofs.YtgnbigijpneebaaDoor
namespace Go.Proofs.YtgnbigijpneebaaDoor
open Go.RowKit Go.BigFrame
set_option linter.unusedVariables false
set_option linter.unusedSimpArgs false

theorem Calls.qd {P : Program} {f : FuncId} {args : Array Value} {w : World} {p n : Nat} {v : Value}
    (h : Calls P f args (w.drewN (p + n)) fun e w' => e = .returned v ∧ ∃ m, w' = (w.drewN (p + n)).drewN m) : Calls P f args (w.drewN (p + n)) fun e w'' => e = .returned v ∧ ∃ m, w'' = w.drewN (p + m) :=
  h.mono fun _ _ ⟨he, m, hm⟩ => ⟨he, n + m, by rw [hm, World.drewN_drewN, Nat.add_assoc]⟩

set_option maxRecDepth 100000 in
set_option maxHeartbeats 1000000 in
theorem spread_any (v : Value) (b : List Nat) (w : World) (h : Rd w v b) (hl : b.length = 64) :
    Calls Tryd.prog 99 #[v] w fun e w' => ∃ ws, e = .returned (.agg (row ws)) ∧ ws.length = 64 ∧ (∀ i, i < 64 → ws.getD i 0 = wd b i) ∧ Kept [] w w' := by
  have H := hide h
  have HB := hide h.byte
  clear h
  go_enter Tryd.func99, Tryd.ntmps99
  go_wp2
  rw [zw64]
  go_loopw [4] (fun t4 wr => ∃ (k : Nat) (ws : List Nat), k ≤ 64 ∧ t4 = .int .i64 k ∧ Hid (ws.length = 64 ∧ ∀ i, i < k → ws.getD i 0 = wd b i) ∧ Hid (wr.heap[w.heap.size + 1]? = some (.cells (row ws) 127 (0, 0))) ∧ Hid (wr.heap[w.heap.size]? = some (.cells (zw 64) 127 (0, 0))) ∧ Hid (Kept [] w wr)) (fun t _ => 64 - (intOf t).toNat)
  case atStart => exact ⟨0, List.replicate 64 0, by omega, rfl, hide ⟨by simp, by intro i hi; omega⟩, hide (heap_alloc2_new _ _ _), hide (heap_alloc2_old _ _ _), hide (((Kept.refl [] w).alloc _).alloc _)⟩
  case round =>
    obtain ⟨k, ws, hk, rfl, HM, HR, HZ, HK⟩ := hrel
    by_cases hlt : k < 64
    · have hlt' : (k : Int) < 64 := by omega
      have HMN := hide (⟨by simpa using (unhide HM).1, fun i hi => by
        by_cases hik : i = k
        · subst hik; exact getD_set_same _ _ _ (by rw [(unhide HM).1]; omega)
        · rw [getD_set_other _ _ _ _ hik]; exact (unhide HM).2 i (by omega)⟩ : (ws.set k (wd b k)).length = 64 ∧ ∀ i, i < k + 1 → (ws.set k (wd b k)).getD i 0 = wd b i)
      have HN := hide (by
        have h1 := heap_setCell_same wr (w.heap.size + 1) k _ 127 (wv (wd b k)) (unhide HR)
        rw [row_set] at h1; exact h1 : (wr.setCell ⟨w.heap.size + 1, k, none⟩ (wv (wd b k))).heap[w.heap.size + 1]? = some (.cells (row (ws.set k (wd b k))) 127 (0, 0)))
      have HZN := hide ((heap_setCell_other wr ⟨w.heap.size + 1, k, none⟩ w.heap.size (wv (wd b k)) (by simp)).trans (unhide HZ))
      have fg : wr.frozen? ⟨w.heap.size + 1, k, none⟩ = false := frozen_of_row _ _ _ _ _ (unhide HR)
      have cg := row_cell (unhide HR) k (by rw [(unhide HM).1]; omega)
      by_cases hs : k < 16
      · have hs' : (k : Int) < 16 := by omega
        have HW := hide (by rw [wd_small b k hs]; rfl : wd b k = b.getD (4 * k) 0 * 16777216 + b.getD (4 * k + 1) 0 * 65536 + b.getD (4 * k + 2) 0 * 256 + b.getD (4 * k + 3) 0)
        go_wp2_with fail
        refine (big_any v b (4 * k) _ _ ((unhide H).old (unhide HK) (by simp)) (by omega) (by omega)).mono ?_
        rintro e1 w1 ⟨rfl, n1, rfl⟩
        rw [← unhide HW]
        have HKN := hide (((unhide HK).drewN n1).setCell (p := ⟨w.heap.size + 1, k, none⟩) (by simp) (wv (wd b k)))
        go_wp2
        go_roundw
        case rel => exact ⟨k + 1, _, by omega, by go_num, HMN, HN, HZN, HKN⟩
        case measure => simp [intOf]; omega
      · have hs' : ¬ (k : Int) < 16 := by omega
        have hge : (16 : Int) ≤ k := by omega
        have hvl := (unhide HM).1
        have c15 := row_cell (unhide HR) (k - 15) (by omega)
        have c2 := row_cell (unhide HR) (k - 2) (by omega)
        have c16 := row_cell (unhide HR) (k - 16) (by omega)
        have c7 := row_cell (unhide HR) (k - 7) (by omega)
        rw [(unhide HM).2 (k - 15) (by omega)] at c15
        rw [(unhide HM).2 (k - 2) (by omega)] at c2
        rw [(unhide HM).2 (k - 16) (by omega)] at c16
        rw [(unhide HM).2 (k - 7) (by omega)] at c7
        have x1 := wd_lt b (unhide HB) (k - 15)
        have x2 := wd_lt b (unhide HB) (k - 2)
        have x3 := wd_lt b (unhide HB) (k - 16)
        have x4 := wd_lt b (unhide HB) (k - 7)
        have HW := hide (wd_big b k (by omega))
        generalize wd b (k - 15) = x at c15 x1 HW
        generalize wd b (k - 2) = y at c2 x2 HW
        generalize wd b (k - 16) = p at c16 x3 HW
        generalize wd b (k - 7) = q at c7 x4 HW
        have s0l := sg0_lt x1
        have s1l := sg1_lt x2
        have a1 : bits .xor .u32 (rotr 7 x : Int) (rotr 18 x : Int) = ((rotr 7 x ^^^ rotr 18 x : Nat) : Int) := u32_xor_nat _ _ (rotr_lt (by omega) x1) (rotr_lt (by omega) x1)
        have a2 : bits .xor .u32 ((rotr 7 x ^^^ rotr 18 x : Nat) : Int) ((x : Int) / 8) = (sg0 x : Nat) := by
          rw [show ((x : Int) / 8) = ((x / 8 : Nat) : Int) by omega]; exact u32_xor_nat _ _ (xlt (rotr_lt (by omega) x1) (rotr_lt (by omega) x1)) (by omega)
        have a3 : bits .xor .u32 (rotr 17 y : Int) (rotr 19 y : Int) = ((rotr 17 y ^^^ rotr 19 y : Nat) : Int) := u32_xor_nat _ _ (rotr_lt (by omega) x2) (rotr_lt (by omega) x2)
        have a4 : bits .xor .u32 ((rotr 17 y ^^^ rotr 19 y : Nat) : Int) ((y : Int) / 1024) = (sg1 y : Nat) := by
          rw [show ((y : Int) / 1024) = ((y / 1024 : Nat) : Int) by omega]; exact u32_xor_nat _ _ (xlt (rotr_lt (by omega) x2) (rotr_lt (by omega) x2)) (by omega)
        clear hvl
        have T7 : Hid (∀ w, Calls Tryd.prog 101 #[wv x, .int .i64 7] w fun e w' => e = .returned (.int .u32 (rotr 7 x : Nat)) ∧ ∃ m, w' = w.drewN m) := hide fun w => turn_any x 7 w x1 (by decide) (by decide)
        have T18 : Hid (∀ w, Calls Tryd.prog 101 #[wv x, .int .i64 18] w fun e w' => e = .returned (.int .u32 (rotr 18 x : Nat)) ∧ ∃ m, w' = w.drewN m) := hide fun w => turn_any x 18 w x1 (by decide) (by decide)
        have T17 : Hid (∀ w, Calls Tryd.prog 101 #[wv y, .int .i64 17] w fun e w' => e = .returned (.int .u32 (rotr 17 y : Nat)) ∧ ∃ m, w' = w.drewN m) := hide fun w => turn_any y 17 w x2 (by decide) (by decide)
        have T19 : Hid (∀ w, Calls Tryd.prog 101 #[wv y, .int .i64 19] w fun e w' => e = .returned (.int .u32 (rotr 19 y : Nat)) ∧ ∃ m, w' = w.drewN m) := hide fun w => turn_any y 19 w x2 (by decide) (by decide)
        go_wp2_with fail
        go_quiet (fail)
        go_wp2_with fail
        generalize hz0 : sg0 x = z0 at a2 HW s0l
        generalize hz1 : sg1 y = z1 at a4 HW s1l
        clear hz0 hz1
        have hval : ((p : Int) + q + z0 + z1) % 4294967296 = ((wd b k : Nat) : Int) := by rw [unhide HW]; omega
        refine wp_quiet_tail 28 (by kernel_rfl) (by kernel_rfl) ?_
        simp only [List.take_succ_cons, List.take_zero, List.drop_succ_cons, List.drop_zero]
        repeat (go_big_quiet_step (first | (go_at_call 101; with_reducible exact Calls.qd (unhide T7 _)) | (go_at_call 101; with_reducible exact Calls.qd (unhide T18 _)) | (go_at_call 101; with_reducible exact Calls.qd (unhide T17 _)) | (go_at_call 101; with_reducible exact Calls.qd (unhide T19 _))))
        refine wpQuiet_nil ?_
        intro _ hw'
        obtain ⟨n1, hw''⟩ := hw'
        subst hw''
        have HKN := hide (((unhide HK).drewN (nq + n1)).setCell (p := ⟨w.heap.size + 1, k, none⟩) (by simp) (wv (wd b k)))
        go_wp2
        go_roundw
        case rel => exact ⟨k + 1, _, by omega, by go_num, HMN, HN, HZN, HKN⟩
        case measure => simp [intOf]; omega
    · have hlt' : ¬ (k : Int) < 64 := by omega
      have hk64 : k = 64 := by omega
      subst hk64
      go_wp2_with (first
        | (refine wpList_load_row rfl 127 (.tmp 3) rfl (w.heap.size + 1) rfl _ (row ws) (0, 0) _ (unhide HR) Tryd.underlying127 rfl (by rw [row_size, (unhide HM).1]; exact Tryd.size_a64w) ?_)
        | (refine wpList_store_row rfl 127 (.tmp 2) (.tmp 56) rfl w.heap.size (row ws) rfl rfl _ (zw 64) (unhide HZ) (by rw [row_size, (unhide HM).1]; exact Tryd.size_a64w) (by rw [zw_size, row_size, (unhide HM).1]) (row_one _) ?_))
      refine bodyPost_ret (v := .agg (row ws)) ?_ rfl ⟨ws, rfl, (unhide HM).1, (unhide HM).2, (unhide HK).setRow (by simp) _⟩
      exact results_cell_row rfl _ _ w.heap.size _ (row ws) (0, 0) _ rfl (setRow_heap _ _ _ _ _ _ (unhide HZ)) Tryd.underlying127 rfl (by rw [row_size, (unhide HM).1]; exact Tryd.size_a64w)
end Go.Proofs.YtgnbigijpneebaaDoor
namespace Go.Proofs.YtgnbigijpneebaaDoor
set_option linter.unusedVariables false
set_option linter.unusedSimpArgs false

/-- The register number j at round k, held at the place (64 - k + j) modulo 8. -/
structure Ring (rs : List Nat) (k : Nat) (s : Rg) : Prop where
  len : rs.length = 8
  a : rs.getD ((64 - k) % 8) 0 = s.a
  b : rs.getD ((64 - k + 1) % 8) 0 = s.b
  c : rs.getD ((64 - k + 2) % 8) 0 = s.c
  d : rs.getD ((64 - k + 3) % 8) 0 = s.d
  e : rs.getD ((64 - k + 4) % 8) 0 = s.e
  f : rs.getD ((64 - k + 5) % 8) 0 = s.f
  g : rs.getD ((64 - k + 6) % 8) 0 = s.g
  h : rs.getD ((64 - k + 7) % 8) 0 = s.h

theorem Ring.first {h : List Nat} (w : Wds h) : Ring h 0 (rg h) := ⟨w.1, rfl, rfl, rfl, rfl, rfl, rfl, rfl, rfl⟩

theorem Ring.step {rs : List Nat} {k : Nat} {s : Rg} (K W : Nat) (h : Ring rs k s) (hk : k < 64) :
    Ring ((rs.set ((64 - k + 3) % 8) ((s.d + t1 K W s) % 4294967296)).set ((64 - k + 7) % 8) ((t1 K W s + t2 s) % 4294967296)) (k + 1) (rnd K W s) := by
  have hl := h.len
  refine ⟨by simp [hl], ?_, ?_, ?_, ?_, ?_, ?_, ?_, ?_⟩
  · rw [show (64 - (k + 1)) % 8 = (64 - k + 7) % 8 by omega, getD_set_same _ _ _ (by simp only [List.length_set, hl]; omega)]; rfl
  · rw [show (64 - (k + 1) + 1) % 8 = (64 - k) % 8 by omega, getD_set_other _ _ _ _ (by omega), getD_set_other _ _ _ _ (by omega)]; exact h.a
  · rw [show (64 - (k + 1) + 2) % 8 = (64 - k + 1) % 8 by omega, getD_set_other _ _ _ _ (by omega), getD_set_other _ _ _ _ (by omega)]; exact h.b
  · rw [show (64 - (k + 1) + 3) % 8 = (64 - k + 2) % 8 by omega, getD_set_other _ _ _ _ (by omega), getD_set_other _ _ _ _ (by omega)]; exact h.c
  · rw [show (64 - (k + 1) + 4) % 8 = (64 - k + 3) % 8 by omega, getD_set_other _ _ _ _ (by omega), getD_set_same _ _ _ (by rw [hl]; omega)]; rfl
  · rw [show (64 - (k + 1) + 5) % 8 = (64 - k + 4) % 8 by omega, getD_set_other _ _ _ _ (by omega), getD_set_other _ _ _ _ (by omega)]; exact h.e
  · rw [show (64 - (k + 1) + 6) % 8 = (64 - k + 5) % 8 by omega, getD_set_other _ _ _ _ (by omega), getD_set_other _ _ _ _ (by omega)]; exact h.f
  · rw [show (64 - (k + 1) + 7) % 8 = (64 - k + 6) % 8 by omega, getD_set_other _ _ _ _ (by omega), getD_set_other _ _ _ _ (by omega)]; exact h.g

theorem eight_ext {l m : List Nat} (hl : l.length = 8) (hm : m.length = 8) (h : ∀ i, i < 8 → l.getD i 0 = m.getD i 0) : l = m := by
  apply List.ext_getElem (by omega)
  intro i h1 h2
  have := h i (by omega)
  rwa [List.getD_eq_getElem?_getD, List.getD_eq_getElem?_getD, List.getElem?_eq_getElem h1, List.getElem?_eq_getElem h2] at this

theorem Ring.last {h b rs hs : List Nat} (r : Ring rs 64 (rounds b (rg h) 64)) (hl : hs.length = 8) (hh : ∀ i, i < 8 → hs.getD i 0 = (h.getD i 0 + rs.getD i 0) % 4294967296) : hs = comp h b := by
  refine eight_ext hl (comp_wds h b).1 ?_
  have ra := r.a; have rb := r.b; have rc := r.c; have rd := r.d; have re := r.e; have rf := r.f; have rg' := r.g; have rh := r.h
  intro i hi
  rw [hh i hi]
  unfold comp addH
  rw [← ra, ← rb, ← rc, ← rd, ← re, ← rf, ← rg', ← rh]
  rcases i with _ | _ | _ | _ | _ | _ | _ | _ | i
  all_goals first | rfl | omega
end Go.Proofs.YtgnbigijpneebaaDoor
namespace Go.Proofs.YtgnbigijpneebaaDoor
open Go.RowKit Go.BigFrame
set_option linter.unusedVariables false
set_option linter.unusedSimpArgs false

theorem place0 {o p : Nat} (e : o % 8 = p) : Int.tmod (o : Int) 8 = (p : Int) ∧ (p : Int) < 8 ∧ p < 8 := by
  rw [Int.tmod_eq_emod_of_nonneg (by omega)]; omega
theorem placej {o p : Nat} (j : Nat) (e : (o + j) % 8 = p) : Int.tmod ((o : Int) + (j : Int)) 8 = (p : Int) ∧ (p : Int) < 8 ∧ p < 8 := by
  rw [Int.tmod_eq_emod_of_nonneg (by omega)]; omega
theorem olt {a b : Nat} (ha : a < 4294967296) (hb : b < 4294967296) : a ||| b < 4294967296 := Nat.or_lt_two_pow (n := 32) ha hb
theorem word5 {a b c d e t : Nat} (h : t = (a + b + c + d + e) % 4294967296) : ((a : Int) + b + c + d + e) % 4294967296 = (t : Int) := by omega
theorem word2 {a b t : Nat} (h : (a + b) % 4294967296 = t) : ((a : Int) + b) % 4294967296 = (t : Int) := by omega
theorem word3 {t z m u r : Nat} (hu : u = (z + m) % 4294967296) (h : (t + u) % 4294967296 = r) : ((t : Int) + z + m) % 4294967296 = (r : Int) := by omega
theorem place37 {o p q : Nat} (e : (o + 3) % 8 = p) (e' : (o + 7) % 8 = q) : p ≠ q := by omega

set_option maxRecDepth 100000 in
set_option maxHeartbeats 4000000 in
theorem refcomp_any (v : Value) (h b : List Nat) (w : World) (hh : Wds h) (hr : Rd w v b) (hl : b.length = 64) :
    Calls Tryd.prog 95 #[.agg (row h), v] w fun e w' => e = .returned (.agg (row (comp h b))) ∧ Kept [] w w' := by
  have HH := hide hh
  have HB := hide hr.byte
  have H := hide hr
  clear hh hr
  go_enter Tryd.func95, Tryd.ntmps95
  go_wp2_with fail
  rw [zw8]
  refine (spread_any v b _ ((unhide H).old (((Kept.refl [] w).alloc _).alloc _) (by simp)) hl).mono ?_
  rintro e w1 ⟨ws, rfl, wl, wg, k1⟩
  have HA := hide (k1.heap (heap_alloc2_old w (.cells (row h) 117) (.cells (zw 8) 117)) (by simp))
  have HZ := hide (k1.heap (heap_alloc2_new w (.cells (row h) 117) (.cells (zw 8) 117)) (by simp))
  have HK1 := hide ((((Kept.refl [] w).alloc (.cells (row h) 117)).alloc (.cells (zw 8) 117)).trans k1 (by simp))
  have HW := hide wg
  have Hs1 := hide (show w.heap.size + 1 < w1.heap.size by have := k1.size; simp at this; omega)
  clear k1 wg
  go_wp2_with (rw [zw64]; refine wpList_store_row rfl 127 _ _ rfl w1.heap.size (row ws) rfl rfl _ (zw 64) (heap_alloc_new _ _) (by rw [row_size, wl]; exact Tryd.size_a64w) (by rw [zw_size, row_size, wl]) (row_one _) ?_)
  obtain ⟨W1, hW⟩ : ∃ W, (w1.alloc (.cells (zw 64) 127)).setRow w1.heap.size (row ws) = W := ⟨_, rfl⟩
  obtain ⟨gw, hgw⟩ : ∃ gw, w1.heap.size = gw := ⟨_, rfl⟩
  have HK2 := hide (by rw [← hW]; exact ((unhide HK1).alloc _).setRow (Or.inr (by have := unhide Hs1; omega)) _ : Kept [] w W1)
  have HR2 := hide (by rw [← hW, ← hgw]; exact setRow_heap _ _ _ _ _ _ (heap_alloc_new _ _) : W1.heap[gw]? = some (.cells (row ws) 127 (0, 0)))
  have HA2 := hide (by rw [← hW, setRow_other _ _ _ _ (by have := unhide Hs1; omega), heap_alloc_old _ _ (by have := unhide Hs1; omega)]; exact unhide HA : W1.heap[w.heap.size]? = some (.cells (row h) 117 (0, 0)))
  have HZ2 := hide (by rw [← hW, setRow_other _ _ _ _ (by have := unhide Hs1; omega), heap_alloc_old _ _ (by have := unhide Hs1; omega)]; exact unhide HZ : W1.heap[w.heap.size + 1]? = some (.cells (zw 8) 117 (0, 0)))
  have Hs2 := hide (by have := lt_of_block (unhide HR2); have := unhide Hs1; omega : w.heap.size + 1 < gw ∧ gw < W1.heap.size)
  rw [hW, hgw]
  clear hW hgw HA HZ HK1 Hs1
  refine (words_any _).mono ?_
  rintro e w2 ⟨rfl, k2⟩
  have HK3 := hide ((unhide HK2).trans k2 (by simp))
  have HR3 := hide (k2.heap (unhide HR2) (by simp))
  have HA3 := hide (k2.heap (unhide HA2) (by simp))
  have HZ3 := hide (k2.heap (unhide HZ2) (by simp))
  have Hs3 := hide (by have := k2.size; have := unhide Hs2; omega : w.heap.size + 1 < gw ∧ gw < w2.heap.size)
  clear k2 HK2 HR2 HA2 HZ2 Hs2
  go_wp2_with (first
    | (rw [zw64]; refine wpList_store_row rfl 127 _ _ rfl w2.heap.size (row kt) rfl rfl _ (zw 64) (heap_alloc_new _ _) (by rw [row_size]; exact Tryd.size_a64w) (by rw [zw_size, row_size]; rfl) (row_one _) ?_)
    | (refine wpList_load_row rfl 117 (.tmp 2) rfl w.heap.size rfl _ (row h) (0, 0) _ (by rw [setRow_other _ _ _ _ (by have := unhide Hs3; omega), heap_alloc_old _ _ (by have := unhide Hs3; omega)]; exact unhide HA3) Tryd.underlying117 rfl (by rw [row_size, (unhide HH).1]; exact Tryd.size_a8) ?_)
    | (rw [zw8]; refine wpList_store_row rfl 117 _ _ rfl (w2.heap.size + 1) (row h) rfl rfl _ (zw 8) (by rw [show w2.heap.size + 1 = ((w2.alloc (.cells (zw 64) 127)).setRow w2.heap.size (row kt)).heap.size by simp [World.setRow]]; exact heap_alloc_new _ _) (by rw [row_size, (unhide HH).1]; exact Tryd.size_a8) (by rw [zw_size, row_size, (unhide HH).1]) (row_one _) ?_))
  obtain ⟨X, hX⟩ : ∃ X, (w2.alloc (.cells (zw 64) 127)).setRow w2.heap.size (row kt) = X := ⟨_, rfl⟩
  have HKX := hide (by rw [← hX]; exact ((unhide HK3).alloc _).setRow (Or.inr (by have := unhide Hs3; omega)) _ : Kept [] w X)
  have hXs : X.heap.size = w2.heap.size + 1 := by rw [← hX]; simp [World.setRow]
  have HXk := hide (by rw [← hX]; exact setRow_heap _ _ _ _ _ _ (heap_alloc_new _ _) : X.heap[w2.heap.size]? = some (.cells (row kt) 127 (0, 0)))
  have HXw := hide (by rw [← hX, setRow_other _ _ _ _ (by have := unhide Hs3; omega), heap_alloc_old _ _ (by have := unhide Hs3; omega)]; exact unhide HR3 : X.heap[gw]? = some (.cells (row ws) 127 (0, 0)))
  have HXh := hide (by rw [← hX, setRow_other _ _ _ _ (by have := unhide Hs3; omega), heap_alloc_old _ _ (by have := unhide Hs3; omega)]; exact unhide HA3 : X.heap[w.heap.size]? = some (.cells (row h) 117 (0, 0)))
  have HXz := hide (by rw [← hX, setRow_other _ _ _ _ (by have := unhide Hs3; omega), heap_alloc_old _ _ (by have := unhide Hs3; omega)]; exact unhide HZ3 : X.heap[w.heap.size + 1]? = some (.cells (zw 8) 117 (0, 0)))
  rw [hX]
  obtain ⟨gk, hgk⟩ : ∃ gk, w2.heap.size = gk := ⟨_, rfl⟩
  obtain ⟨gr, hgr⟩ : ∃ gr, gk + 1 = gr := ⟨_, rfl⟩
  rw [hgk] at HXk Hs3 hXs
  rw [hgr] at hXs
  have Hs4 := hide (by have := unhide Hs3; omega : w.heap.size + 1 < gw ∧ gw < gk ∧ gk < gr)
  obtain ⟨W, hW⟩ : ∃ W, (X.alloc (.cells (zw 8) 117)).setRow gr (row h) = W := ⟨_, rfl⟩
  have HK := hide (by rw [← hW]; exact ((unhide HKX).alloc _).setRow (Or.inr (by have := unhide Hs4; omega)) _ : Kept [] w W)
  have HRr := hide (by rw [← hW, ← hXs]; exact setRow_heap _ _ _ _ _ _ (heap_alloc_new _ _) : W.heap[gr]? = some (.cells (row h) 117 (0, 0)))
  have HRk := hide (by rw [← hW, setRow_other _ _ _ _ (by have := unhide Hs4; omega), heap_alloc_old _ _ (by rw [hXs]; have := unhide Hs4; omega)]; exact unhide HXk : W.heap[gk]? = some (.cells (row kt) 127 (0, 0)))
  have HRw := hide (by rw [← hW, setRow_other _ _ _ _ (by have := unhide Hs4; omega), heap_alloc_old _ _ (by rw [hXs]; have := unhide Hs4; omega)]; exact unhide HXw : W.heap[gw]? = some (.cells (row ws) 127 (0, 0)))
  have HRh := hide (by rw [← hW, setRow_other _ _ _ _ (by have := unhide Hs4; omega), heap_alloc_old _ _ (by rw [hXs]; have := unhide Hs4; omega)]; exact unhide HXh : W.heap[w.heap.size]? = some (.cells (row h) 117 (0, 0)))
  have HRz := hide (by rw [← hW, setRow_other _ _ _ _ (by have := unhide Hs4; omega), heap_alloc_old _ _ (by rw [hXs]; have := unhide Hs4; omega)]; exact unhide HXz : W.heap[w.heap.size + 1]? = some (.cells (zw 8) 117 (0, 0)))
  rw [hgk, hgr, hW]
  clear hW hgr hgk hXs hX HXk HXw HXh HXz HKX HK3 HR3 HA3 HZ3 Hs3
  go_loopw [8] (fun t8 wr => ∃ (k : Nat) (rs : List Nat), k ≤ 64 ∧ t8 = .int .i64 k ∧ Hid (Ring rs k (rounds b (rg h) k)) ∧ Hid (wr.heap[gr]? = some (.cells (row rs) 117 (0, 0))) ∧ Hid (wr.heap[gk]? = some (.cells (row kt) 127 (0, 0))) ∧ Hid (wr.heap[gw]? = some (.cells (row ws) 127 (0, 0))) ∧ Hid (wr.heap[w.heap.size]? = some (.cells (row h) 117 (0, 0))) ∧ Hid (wr.heap[w.heap.size + 1]? = some (.cells (zw 8) 117 (0, 0))) ∧ Hid (Kept [] w wr)) (fun t _ => 64 - (intOf t).toNat)
  case atStart => exact ⟨0, h, by omega, rfl, hide (Ring.first (unhide HH)), HRr, HRk, HRw, HRh, HRz, HK⟩
  case round =>
    clear HRr HRk HRw HRh HRz HK
    obtain ⟨k, rs, hk, rfl, HM, HRr, HRk, HRw, HRh, HRz, HK⟩ := hrel
    by_cases hlt : k < 64
    · have hlt' : (k : Int) < 64 := by omega
      obtain ⟨o, hko⟩ : ∃ o : Nat, k + o = 64 := ⟨64 - k, by omega⟩
      have hov : 64 - k = o := by omega
      have ho64 : (o : Int) ≤ 64 := by omega
      have hoi : (64 : Int) - (k : Int) = (o : Int) := by omega
      have hS := (unhide HM)
      have hok := rounds_ok (b := b) (rg_ok (unhide HH)) k
      have HN : Hid (∀ K V, rnd K V (rounds b (rg h) k) = rnd K V (rounds b (rg h) k)) := hide fun _ _ => rfl
      have HNX := hide (show rounds b (rg h) (k + 1) = rnd (kt.getD k 0) (wd b k) (rounds b (rg h) k) from rfl)
      generalize rounds b (rg h) k = S at hS hok HNX
      obtain ⟨a, b', c, d, e, f, g, h'⟩ := S
      obtain ⟨oa, ob, oc, od, oe, of_, og, oh⟩ := hok
      simp only at oa ob oc od oe of_ og oh
      have HST := hide (hS.step (kt.getD k 0) (wd b k) hlt)
      rw [hov] at HST
      obtain ⟨hlen, s0, s1, s2, s3, s4, s5, s6, s7⟩ := hS
      rw [hov] at s0 s1 s2 s3 s4 s5 s6 s7
      obtain ⟨p0, e0⟩ : ∃ p, o % 8 = p := ⟨_, rfl⟩
      obtain ⟨p1, e1⟩ : ∃ p, (o + 1) % 8 = p := ⟨_, rfl⟩
      obtain ⟨p2, e2⟩ : ∃ p, (o + 2) % 8 = p := ⟨_, rfl⟩
      obtain ⟨p3, e3⟩ : ∃ p, (o + 3) % 8 = p := ⟨_, rfl⟩
      obtain ⟨p4, e4⟩ : ∃ p, (o + 4) % 8 = p := ⟨_, rfl⟩
      obtain ⟨p5, e5⟩ : ∃ p, (o + 5) % 8 = p := ⟨_, rfl⟩
      obtain ⟨p6, e6⟩ : ∃ p, (o + 6) % 8 = p := ⟨_, rfl⟩
      obtain ⟨p7, e7⟩ : ∃ p, (o + 7) % 8 = p := ⟨_, rfl⟩
      obtain ⟨m0, i0, l0⟩ := place0 e0
      obtain ⟨m1, i1, l1⟩ : Int.tmod ((o : Int) + 1) 8 = (p1 : Int) ∧ (p1 : Int) < 8 ∧ p1 < 8 := placej 1 e1
      obtain ⟨m2, i2, l2⟩ : Int.tmod ((o : Int) + 2) 8 = (p2 : Int) ∧ (p2 : Int) < 8 ∧ p2 < 8 := placej 2 e2
      obtain ⟨m3, i3, l3⟩ : Int.tmod ((o : Int) + 3) 8 = (p3 : Int) ∧ (p3 : Int) < 8 ∧ p3 < 8 := placej 3 e3
      obtain ⟨m4, i4, l4⟩ : Int.tmod ((o : Int) + 4) 8 = (p4 : Int) ∧ (p4 : Int) < 8 ∧ p4 < 8 := placej 4 e4
      obtain ⟨m5, i5, l5⟩ : Int.tmod ((o : Int) + 5) 8 = (p5 : Int) ∧ (p5 : Int) < 8 ∧ p5 < 8 := placej 5 e5
      obtain ⟨m6, i6, l6⟩ : Int.tmod ((o : Int) + 6) 8 = (p6 : Int) ∧ (p6 : Int) < 8 ∧ p6 < 8 := placej 6 e6
      obtain ⟨m7, i7, l7⟩ : Int.tmod ((o : Int) + 7) 8 = (p7 : Int) ∧ (p7 : Int) < 8 ∧ p7 < 8 := placej 7 e7
      have c0 := row_cell (unhide HRr) p0 (Nat.lt_of_lt_of_eq l0 hlen.symm)
      have c1 := row_cell (unhide HRr) p1 (Nat.lt_of_lt_of_eq l1 hlen.symm)
      have c2 := row_cell (unhide HRr) p2 (Nat.lt_of_lt_of_eq l2 hlen.symm)
      have c3 := row_cell (unhide HRr) p3 (Nat.lt_of_lt_of_eq l3 hlen.symm)
      have c4 := row_cell (unhide HRr) p4 (Nat.lt_of_lt_of_eq l4 hlen.symm)
      have c5 := row_cell (unhide HRr) p5 (Nat.lt_of_lt_of_eq l5 hlen.symm)
      have c6 := row_cell (unhide HRr) p6 (Nat.lt_of_lt_of_eq l6 hlen.symm)
      have c7 := row_cell (unhide HRr) p7 (Nat.lt_of_lt_of_eq l7 hlen.symm)
      have cK := row_cell (unhide HRk) k (by simpa [kt] using hlt)
      have cW := row_cell (unhide HRw) k (Nat.lt_of_lt_of_eq hlt wl.symm)
      rw [unhide HW k hlt] at cW
      rw [← e0, s0] at c0
      rw [← e1, s1] at c1
      rw [← e2, s2] at c2
      rw [← e3, s3] at c3
      rw [← e4, s4] at c4
      rw [← e5, s5] at c5
      rw [← e6, s6] at c6
      rw [← e7, s7] at c7
      rw [e0] at c0
      rw [e1] at c1
      rw [e2] at c2
      rw [e3] at c3 HST
      rw [e4] at c4
      rw [e5] at c5
      rw [e6] at c6
      rw [e7] at c7 HST
      have n37 : p3 ≠ p7 := place37 e3 e7
      clear e0 e1 e2 e3 e4 e5 e6 e7 s0 s1 s2 s3 s4 s5 s6 s7 hov hko HM
      have lK := kt_lt k hlt
      have lW := wd_lt b (unhide HB) k
      generalize kt.getD k 0 = K at cK HST HNX lK
      generalize wd b k = V at cW HST HNX lW
      have f1 : bits .xor .u32 (f : Int) (g : Int) = ((f ^^^ g : Nat) : Int) := u32_xor_nat f g of_ og
      have f2 : bits .and .u32 (e : Int) ((f ^^^ g : Nat) : Int) = ((e &&& (f ^^^ g) : Nat) : Int) := u32_and_nat e _ oe (xlt of_ og)
      have f3 : bits .xor .u32 (g : Int) ((e &&& (f ^^^ g) : Nat) : Int) = (cho e f g : Nat) := by rw [u32_xor_nat g _ og (alt oe), chol_ref oe of_ og]
      have f4 : bits .and .u32 (a : Int) (b' : Int) = ((a &&& b' : Nat) : Int) := u32_and_nat a b' oa ob
      have f5 : bits .or .u32 (a : Int) (b' : Int) = ((a ||| b' : Nat) : Int) := u32_or_nat a b' oa ob
      have f6 : bits .and .u32 (c : Int) ((a ||| b' : Nat) : Int) = ((c &&& (a ||| b') : Nat) : Int) := u32_and_nat c _ oc (olt oa ob)
      have f7 : bits .or .u32 ((a &&& b' : Nat) : Int) ((c &&& (a ||| b') : Nat) : Int) = (maj a b' c : Nat) := by rw [u32_or_nat _ _ (alt oa) (alt oc), maj_ref]
      have g1 : bits .xor .u32 (rotr 6 e : Int) (rotr 11 e : Int) = ((rotr 6 e ^^^ rotr 11 e : Nat) : Int) := u32_xor_nat _ _ (rotr_lt (by omega) oe) (rotr_lt (by omega) oe)
      have g2 : bits .xor .u32 ((rotr 6 e ^^^ rotr 11 e : Nat) : Int) (rotr 25 e : Int) = (bs1 e : Nat) := u32_xor_nat _ _ (xlt (rotr_lt (by omega) oe) (rotr_lt (by omega) oe)) (rotr_lt (by omega) oe)
      have g3 : bits .xor .u32 (rotr 2 a : Int) (rotr 13 a : Int) = ((rotr 2 a ^^^ rotr 13 a : Nat) : Int) := u32_xor_nat _ _ (rotr_lt (by omega) oa) (rotr_lt (by omega) oa)
      have g4 : bits .xor .u32 ((rotr 2 a ^^^ rotr 13 a : Nat) : Int) (rotr 22 a : Int) = (bs0 a : Nat) := u32_xor_nat _ _ (xlt (rotr_lt (by omega) oa) (rotr_lt (by omega) oa)) (rotr_lt (by omega) oa)
      have T6 : Hid (∀ w, Calls Tryd.prog 101 #[wv e, .int .i64 6] w fun x w' => x = .returned (.int .u32 (rotr 6 e : Nat)) ∧ ∃ m, w' = w.drewN m) := hide fun w => turn_any e 6 w oe (by decide) (by decide)
      have T11 : Hid (∀ w, Calls Tryd.prog 101 #[wv e, .int .i64 11] w fun x w' => x = .returned (.int .u32 (rotr 11 e : Nat)) ∧ ∃ m, w' = w.drewN m) := hide fun w => turn_any e 11 w oe (by decide) (by decide)
      have T25 : Hid (∀ w, Calls Tryd.prog 101 #[wv e, .int .i64 25] w fun x w' => x = .returned (.int .u32 (rotr 25 e : Nat)) ∧ ∃ m, w' = w.drewN m) := hide fun w => turn_any e 25 w oe (by decide) (by decide)
      have T2 : Hid (∀ w, Calls Tryd.prog 101 #[wv a, .int .i64 2] w fun x w' => x = .returned (.int .u32 (rotr 2 a : Nat)) ∧ ∃ m, w' = w.drewN m) := hide fun w => turn_any a 2 w oa (by decide) (by decide)
      have T13 : Hid (∀ w, Calls Tryd.prog 101 #[wv a, .int .i64 13] w fun x w' => x = .returned (.int .u32 (rotr 13 a : Nat)) ∧ ∃ m, w' = w.drewN m) := hide fun w => turn_any a 13 w oa (by decide) (by decide)
      have T22 : Hid (∀ w, Calls Tryd.prog 101 #[wv a, .int .i64 22] w fun x w' => x = .returned (.int .u32 (rotr 22 a : Nat)) ∧ ∃ m, w' = w.drewN m) := hide fun w => turn_any a 22 w oa (by decide) (by decide)
      have lz1 := bs1_lt oe
      have lz0 := bs0_lt oa
      have lch := chol (f := f) (g := g) oe
      have lmj := majl (c := c) oa ob
      have ht1 : t1 K V ⟨a, b', c, d, e, f, g, h'⟩ = (h' + bs1 e + cho e f g + K + V) % 4294967296 := rfl
      have ht2 : t2 ⟨a, b', c, d, e, f, g, h'⟩ = (bs0 a + maj a b' c) % 4294967296 := rfl
      generalize t1 K V ⟨a, b', c, d, e, f, g, h'⟩ = T at ht1 HST
      generalize t2 ⟨a, b', c, d, e, f, g, h'⟩ = U at ht2 HST
      simp only at HST
      generalize bs1 e = z1 at g2 lz1 ht1
      generalize bs0 a = z0 at g4 lz0 ht2
      generalize cho e f g = ch at f3 lch ht1
      generalize maj a b' c = mj at f7 lmj ht2
      obtain ⟨D, hD⟩ : ∃ D, (d + T) % 4294967296 = D := ⟨_, rfl⟩
      obtain ⟨A, hA⟩ : ∃ A, (T + U) % 4294967296 = A := ⟨_, rfl⟩
      rw [hD, hA] at HST
      have v1 : ((h' : Int) + z1 + ch + K + V) % 4294967296 = (T : Int) := word5 ht1
      have v1' : (((h' : Int) + z1 + ch + K) % 4294967296 + V) % 4294967296 = (T : Int) := by rw [← v1]; omega
      have v2 : ((d : Int) + T) % 4294967296 = (D : Int) := word2 hD
      have v3 : ((T : Int) + z0 + mj) % 4294967296 = (A : Int) := word3 ht2 hA
      clear ht1 ht2 hD hA
      have HR1 := hide (by
        have h1 := heap_setCell_same wr gr p3 _ 117 (wv D) (unhide HRr)
        rw [row_set] at h1; exact h1 : (wr.setCell ⟨gr, p3, none⟩ (wv D)).heap[gr]? = some (.cells (row (rs.set p3 D)) 117 (0, 0)))
      have HR2 := hide (by
        have h1 := heap_setCell_same _ gr p7 _ 117 (wv A) (unhide HR1)
        rw [row_set] at h1; exact h1 : ((wr.setCell ⟨gr, p3, none⟩ (wv D)).setCell ⟨gr, p7, none⟩ (wv A)).heap[gr]? = some (.cells (row ((rs.set p3 D).set p7 A)) 117 (0, 0)))
      have fr1 : wr.frozen? ⟨gr, p3, none⟩ = false := frozen_of_row _ _ _ _ _ (unhide HRr)
      have fr2 : ∀ x y, (((wr.drewN x).setCell ⟨gr, p3, none⟩ (.int .u32 (D : Int))).drewN y).frozen? ⟨gr, p7, none⟩ = false := fun x y => frozen_of_row _ _ _ _ _ (unhide HR1)
      have c7' : ∀ x y, (((wr.drewN x).setCell ⟨gr, p3, none⟩ (.int .u32 (D : Int))).drewN y).cell? ⟨gr, p7, none⟩ = some (wv ((rs.set p3 D).getD p7 0)) := fun x y => row_cell (w := ((wr.drewN x).setCell ⟨gr, p3, none⟩ (.int .u32 (D : Int))).drewN y) (unhide HR1) p7 (by rw [List.length_set, hlen]; exact l7)
      have HRkN := hide ((heap_setCell_other (wr.setCell ⟨gr, p3, none⟩ (wv D)) ⟨gr, p7, none⟩ gk (wv A) (by have := unhide Hs4; simp only [ne_eq]; omega)).trans ((heap_setCell_other wr ⟨gr, p3, none⟩ gk (wv D) (by have := unhide Hs4; simp only [ne_eq]; omega)).trans (unhide HRk)))
      have HRwN := hide ((heap_setCell_other (wr.setCell ⟨gr, p3, none⟩ (wv D)) ⟨gr, p7, none⟩ gw (wv A) (by have := unhide Hs4; simp only [ne_eq]; omega)).trans ((heap_setCell_other wr ⟨gr, p3, none⟩ gw (wv D) (by have := unhide Hs4; simp only [ne_eq]; omega)).trans (unhide HRw)))
      have HRhN := hide ((heap_setCell_other (wr.setCell ⟨gr, p3, none⟩ (wv D)) ⟨gr, p7, none⟩ w.heap.size (wv A) (by have := unhide Hs4; simp only [ne_eq]; omega)).trans ((heap_setCell_other wr ⟨gr, p3, none⟩ w.heap.size (wv D) (by have := unhide Hs4; simp only [ne_eq]; omega)).trans (unhide HRh)))
      have HRzN := hide ((heap_setCell_other (wr.setCell ⟨gr, p3, none⟩ (wv D)) ⟨gr, p7, none⟩ (w.heap.size + 1) (wv A) (by have := unhide Hs4; simp only [ne_eq]; omega)).trans ((heap_setCell_other wr ⟨gr, p3, none⟩ (w.heap.size + 1) (wv D) (by have := unhide Hs4; simp only [ne_eq]; omega)).trans (unhide HRz)))
      go_wp2_with fail
      go_quiet (fail)
      go_wp2_with fail
      go_quiet (fail)
      go_wp2_with fail
      go_quiet (first | (go_at_call 101; with_reducible exact Calls.qd (unhide T6 _)) | (go_at_call 101; with_reducible exact Calls.qd (unhide T11 _)) | (go_at_call 101; with_reducible exact Calls.qd (unhide T25 _)))
      go_wp2_with fail
      rw [v1']
      refine (unhide T2 _).mono ?_
      rintro x2 w3 ⟨rfl, n2, rfl⟩
      go_wp2_with fail
      refine (unhide T13 _).mono ?_
      rintro x2 w3 ⟨rfl, n3, rfl⟩
      go_wp2_with fail
      refine (unhide T22 _).mono ?_
      rintro x2 w3 ⟨rfl, n4, rfl⟩
      go_wp2
      go_roundw
      case rel => exact ⟨k + 1, _, by omega, by go_num, hide (by rw [unhide HNX]; exact unhide HST), HR2, HRkN, HRwN, HRhN, HRzN, hide ((((((unhide HK).drewN _).setCell (p := ⟨gr, p3, none⟩) (Or.inr (by have := unhide Hs4; simp only; omega)) _).drewN _).setCell (p := ⟨gr, p7, none⟩) (Or.inr (by have := unhide Hs4; simp only; omega)) _))⟩
      case measure => simp [intOf]; omega
    · have hlt' : ¬ (k : Int) < 64 := by omega
      have hk64 : k = 64 := by omega
      subst hk64
      go_wp2
      go_loopw [19] (fun t19 wq => ∃ (j : Nat) (hs : List Nat), j ≤ 8 ∧ t19 = .int .i64 j ∧ Hid (hs.length = 8 ∧ ∀ i, i < 8 → hs.getD i 0 = if i < j then (h.getD i 0 + rs.getD i 0) % 4294967296 else h.getD i 0) ∧ Hid (wq.heap[gr]? = some (.cells (row rs) 117 (0, 0))) ∧ Hid (wq.heap[w.heap.size]? = some (.cells (row hs) 117 (0, 0))) ∧ Hid (wq.heap[w.heap.size + 1]? = some (.cells (zw 8) 117 (0, 0))) ∧ Hid (Kept [] w wq)) (fun t _ => 8 - (intOf t).toNat)
      case atStart => exact ⟨0, h, by omega, rfl, hide ⟨(unhide HH).1, by intro i hi; rw [if_neg (by omega)]⟩, HRr, HRh, HRz, HK⟩
      case round =>
        have HRing := HM
        clear HRr HRk HRw HRh HRz HK HM
        obtain ⟨j, hs, hj, rfl, HM, HRr, HRh, HRz, HK⟩ := hrel
        have hlr := (unhide HRing).len
        by_cases hlt2 : j < 8
        · have hlt2' : (j : Int) < 8 := by omega
          have cr := row_cell (unhide HRr) j (by omega)
          have chh := row_cell (unhide HRh) j (by rw [(unhide HM).1]; exact hlt2)
          rw [(unhide HM).2 j hlt2, if_neg (by omega)] at chh
          have HMN := hide (⟨by simpa using (unhide HM).1, fun i hi => by
            by_cases hij : i = j
            · subst hij; rw [getD_set_same _ _ _ (by rw [(unhide HM).1]; exact hi), if_pos (by omega)]
            · rw [getD_set_other _ _ _ _ hij, (unhide HM).2 i hi]
              by_cases h9 : i < j
              · rw [if_pos h9, if_pos (by omega)]
              · rw [if_neg h9, if_neg (by omega)]⟩ : (hs.set j ((h.getD j 0 + rs.getD j 0) % 4294967296)).length = 8 ∧ ∀ i, i < 8 → (hs.set j ((h.getD j 0 + rs.getD j 0) % 4294967296)).getD i 0 = if i < j + 1 then (h.getD i 0 + rs.getD i 0) % 4294967296 else h.getD i 0)
          generalize h.getD j 0 = x at chh HMN
          generalize rs.getD j 0 = y at cr HMN
          obtain ⟨z, hz⟩ : ∃ z, (x + y) % 4294967296 = z := ⟨_, rfl⟩
          rw [hz] at HMN
          have hzv : ((x : Int) + y) % 4294967296 = (z : Int) := word2 hz
          have fr : wr.frozen? ⟨w.heap.size, j, none⟩ = false := frozen_of_row _ _ _ _ _ (unhide HRh)
          have HNh := hide (by
            have h1 := heap_setCell_same wr w.heap.size j _ 117 (wv z) (unhide HRh)
            rw [row_set] at h1; exact h1 : (wr.setCell ⟨w.heap.size, j, none⟩ (wv z)).heap[w.heap.size]? = some (.cells (row (hs.set j z)) 117 (0, 0)))
          have HNr := hide ((heap_setCell_other wr ⟨w.heap.size, j, none⟩ gr (wv z) (by have := unhide Hs4; simp only [ne_eq]; omega)).trans (unhide HRr))
          have HNz := hide ((heap_setCell_other wr ⟨w.heap.size, j, none⟩ (w.heap.size + 1) (wv z) (by simp)).trans (unhide HRz))
          clear hz
          go_wp2_with fail
          refine wp_quiet_tail 7 (by kernel_rfl) (by kernel_rfl) ?_
          simp only [List.take_succ_cons, List.take_zero, List.drop_succ_cons, List.drop_zero]
          repeat (go_big_quiet_step (fail))
          refine wpQuiet_nil ?_
          intro _ hw'
          obtain ⟨n1, hw''⟩ := hw'
          subst hw''
          have HKN := hide (((unhide HK).drewN n1).setCell (p := ⟨w.heap.size, j, none⟩) (Or.inr (by simp)) (wv z))
          go_wp2
          go_roundw
          case rel => exact ⟨j + 1, _, by omega, by go_num, HMN, HNr, HNh, HNz, HKN⟩
          case measure => simp [intOf]; omega
        · have hlt2' : ¬ (j : Int) < 8 := by omega
          have hj8 : j = 8 := by omega
          subst hj8
          have hfin : hs = comp h b := Ring.last (unhide HRing) (unhide HM).1 (fun i hi => by rw [(unhide HM).2 i hi, if_pos hi])
          subst hfin
          go_wp2_with (first
            | (refine wpList_load_row rfl 117 (.tmp 2) rfl w.heap.size rfl _ (row (comp h b)) (0, 0) _ (unhide HRh) Tryd.underlying117 rfl (by rw [row_size]; exact Tryd.size_a8) ?_)
            | (refine wpList_store_row rfl 117 (.tmp 4) _ rfl (w.heap.size + 1) (row (comp h b)) rfl rfl _ (zw 8) (unhide HRz) (by rw [row_size]; exact Tryd.size_a8) (by rw [zw_size, row_size]; rfl) (row_one _) ?_))
          refine bodyPost_ret (v := .agg (row (comp h b))) ?_ rfl ⟨rfl, (unhide HK).setRow (by simp) _⟩
          exact results_cell_row rfl _ _ (w.heap.size + 1) _ (row (comp h b)) (0, 0) _ rfl (setRow_heap _ _ _ _ _ _ (unhide HRz)) Tryd.underlying117 rfl (by rw [row_size]; exact Tryd.size_a8)
end Go.Proofs.YtgnbigijpneebaaDoor
namespace Go.Proofs.YtgnbigijpneebaaDoor
open Go.RowKit
set_option linter.unusedVariables false
set_option linter.unusedSimpArgs false

theorem pad_test (n k : Nat) (hk : k ≤ padZ n) : ((n % 64 + (k + 1) + 8) % 64 = 0) ↔ k = padZ n := by
  unfold padZ at hk ⊢; split at hk <;> rename_i h <;> simp only [h, if_true, if_false] <;> omega
theorem padZ_le (n : Nat) : padZ n ≤ 63 := by unfold padZ; split <;> omega

def sLen : Value → Nat
  | .slice _ n _ => n
  | _ => 0

set_option maxRecDepth 100000 in
set_option maxHeartbeats 1000000 in
theorem docPadding_any (n : Nat) (w : World) (hn : n < 18446744073709551616) :
    Calls Tryd.prog 96 #[.int .u64 n] w fun e w' => ∃ lv, e = .returned lv ∧ Rd w' lv (pad n) ∧ Kept [] w w' := by
  go_enter Tryd.func96, Tryd.ntmps96
  go_wp2
  have HL := hide (padZ_le n)
  have HO0 := hide (⟨rfl, Or.inr ⟨w.heap.size, 1, #[.int .u8 128], rfl, Nat.le_refl _, heap_alloc_new _ _, Nat.le_refl _, by unfold maxLen; omega, rfl, rfl⟩⟩ : (w.alloc (.cells #[.int .u8 128] 5)).ownsRow w.heap.size 5 1 (.slice (some ⟨w.heap.size, 0, none⟩) 1 1) 1 ([128].map u8))
  go_loopw [3] (fun t3 wr => ∃ (k : Nat) (ao : Option Addr) (cap : Nat), k ≤ padZ n ∧ t3 = .slice ao (k + 1) cap ∧ Hid (wr.ownsRow w.heap.size 5 1 (.slice ao (k + 1) cap) (k + 1) ((128 :: List.replicate k 0).map u8)) ∧ Hid (Kept [] w wr)) (fun t _ => 64 - sLen t)
  case atStart => exact ⟨0, _, 1, Nat.zero_le _, rfl, HO0, hide ((Kept.refl [] w).alloc _)⟩
  case round =>
    obtain ⟨k, ao, cap, hk, rfl, HO, HK⟩ := hrel
    have hk63 := Nat.le_trans hk (unhide HL)
    have ht := pad_test n k hk
    have hsz := (unhide HK).size
    by_cases hend : k = padZ n
    · have hc0 : (((n : Int) % 64 + ((k : Int) + 1) + 8) % 64 != 0) = false := by
        rw [bne_eq_false_iff_eq]; have := ht.2 hend; omega
      subst hend
      clear ht
      go_wp2
      have HV := hide (show 8 * n % 18446744073709551616 < 18446744073709551616 from Nat.mod_lt _ (by decide))
      have HP0 := hide (by simpa [pz] using unhide HO : wr.ownsRow w.heap.size 5 1 (.slice ao (padZ n + 1) cap) (padZ n + 1) ((pz n ++ (be8 (8 * n % 18446744073709551616)).take 0).map Go.Proofs.YtgnbigijpneebaaDoor.u8))
      go_loopw [3, 4] (fun t3 t4 wq => ∃ (m : Nat) (ao : Option Addr) (cap : Nat), m ≤ 8 ∧ t3 = .slice ao (padZ n + 1 + m) cap ∧ t4 = .int .i64 (7 - (m : Int)) ∧ Hid (wq.ownsRow w.heap.size 5 1 (.slice ao (padZ n + 1 + m) cap) (padZ n + 1 + m) ((pz n ++ (be8 (8 * n % 18446744073709551616)).take m).map Go.Proofs.YtgnbigijpneebaaDoor.u8)) ∧ Hid (Kept [] w wq)) (fun _ t _ => (intOf t + 1).toNat)
      case atStart => exact ⟨0, ao, cap, by omega, rfl, rfl, HP0, HK⟩
      case round =>
        obtain ⟨m, ao2, cap2, hm, rfl, rfl, HO2, HK2⟩ := hrel
        have hsz2 := (unhide HK2).size
        by_cases hlt : m < 8
        · obtain ⟨i, hi⟩ : ∃ i : Nat, i + m = 7 := ⟨7 - m, by omega⟩
          have ei : (7 : Int) - (m : Int) = (i : Int) := by omega
          rw [ei]
          have hi0 : (0 : Int) ≤ i := by omega
          have hi8 : (i : Int) < 8 := by omega
          have hb8 := be8_get i (by omega) (8 * n % 18446744073709551616)
          have hpl : (pz n ++ (be8 (8 * n % 18446744073709551616)).take m).length = padZ n + 1 + m := by rw [List.length_append, pz_len, List.length_take]; simp [be8]; omega
          have HSn := hide (by
            rw [List.append_assoc]; congr 1
            rw [List.take_succ_eq_append_getElem (show m < (be8 (8 * n % 18446744073709551616)).length by simp [be8]; omega)]
            congr 2
            rw [← hb8, show 7 - i = m by omega, List.getD_eq_getElem?_getD, List.getElem?_eq_getElem (show m < (be8 (8 * n % 18446744073709551616)).length by simp [be8]; omega)]; rfl : pz n ++ (be8 (8 * n % 18446744073709551616)).take (m + 1) = (pz n ++ (be8 (8 * n % 18446744073709551616)).take m) ++ [8 * n % 18446744073709551616 / 2 ^ (8 * i) % 256])
          have HO' := hide (by rw [hpl]; exact unhide HO2 : wr.ownsRow w.heap.size 5 1 (.slice ao2 (padZ n + 1 + m) cap2) (pz n ++ (be8 (8 * n % 18446744073709551616)).take m).length ((pz n ++ (be8 (8 * n % 18446744073709551616)).take m).map Go.Proofs.YtgnbigijpneebaaDoor.u8))
          have Hpl := hide hpl
          have HVi := hide (by rw [IntKind.wrap_u64]; simp : IntKind.u64.wrap (8 * (n : Int)) / 2 ^ (8 * i) % 256 = ((8 * n % 18446744073709551616 / 2 ^ (8 * i) % 256 : Nat) : Int))
          have HVj := hide (by simp : (8 : Int) * (n : Int) % 18446744073709551616 / 2 ^ (8 * i) % 256 = ((8 * n % 18446744073709551616 / 2 ^ (8 * i) % 256 : Nat) : Int))
          obtain ⟨z, hz⟩ : ∃ z, 8 * n % 18446744073709551616 / 2 ^ (8 * i) % 256 = z := ⟨_, rfl⟩
          have hzb : z < 256 := by rw [← hz]; exact Nat.mod_lt _ (by decide)
          rw [hz] at HSn HVi HVj
          clear hb8 hpl hz
          have hrs : Rd (wr.alloc (.cells #[.int .u8 (z : Int)] 5)) (.slice (some ⟨wr.heap.size, 0, none⟩) 1 1) [z] := rd_lit (heap_alloc_new wr _) rfl (by simp; omega) 1 rfl (by omega)
          have HRs := hide hrs
          clear hrs
          go_wp2_with (at_builtin; first | rw [unhide HVi] | rw [unhide HVj] | skip; go_must (refine wpList_appendAll rfl (.tmp 22) (.tmp 29) rfl rfl _ w.heap.size (.slice ao2 (padZ n + 1 + m) cap2) (pz n ++ (be8 (8 * n % 18446744073709551616)).take m) [z] _ 1 1 (by exact (unhide HO').alloc _) (by exact unhide HRs) (by rw [unhide Hpl]; simp; omega) (by simp; omega) rfl rfl ?_; intro ao3 cap3 w3 HO3 HG3 HA3; rw [unhide Hpl] at HO3 HA3 ⊢; simp only [List.length_cons, List.length_nil, Nat.zero_add] at HO3 HG3 HA3))
          have HK3 := hide (((unhide HK2).alloc (.cells #[.int .u8 (z : Int)] 5)).grown (unhide HG3) (by intro j hj; right; exact ((unhide HO2).lt j hj).1))
          have HO4 := hide (by
            have h5 := unhide HO3
            have e : ((pz n ++ (be8 (8 * n % 18446744073709551616)).take m) ++ [z]).length = padZ n + 1 + (m + 1) := by rw [List.length_append, unhide Hpl]; rfl
            rw [e] at h5
            rw [unhide HSn]; exact h5 : w3.ownsRow w.heap.size 5 1 (.slice ao3 (padZ n + 1 + (m + 1)) cap3) (padZ n + 1 + (m + 1)) ((pz n ++ (be8 (8 * n % 18446744073709551616)).take (m + 1)).map Go.Proofs.YtgnbigijpneebaaDoor.u8))
          have em : (i : Int) - 1 = 7 - ((m + 1 : Nat) : Int) := by omega
          have Hem := hide em
          clear em
          go_wp2
          go_roundw
          case rel => exact ⟨m + 1, ao3, cap3, by omega, by simp [Nat.add_assoc], by rw [unhide Hem], HO4, HK3⟩
          case measure => simp [intOf]
        · have hm8 : m = 8 := by omega
          subst hm8
          go_wp2
          go_ret
          refine ⟨_, rfl, ?_, unhide HK2⟩
          have hpp : pz n ++ (be8 (8 * n % 18446744073709551616)).take 8 = pad n := rfl
          have h5 := unhide HO2
          rw [hpp] at h5
          have el : padZ n + 1 + 8 = (pad n).length := by rw [pad_len]
          have h6 : wr.ownsRow w.heap.size 5 1 (.slice ao2 (padZ n + 1 + 8) cap2) (pad n).length ((pad n).map Go.Proofs.YtgnbigijpneebaaDoor.u8) := by rw [← el]; exact h5
          exact rd_owns h6 (pad_byte n) (by rw [pad_len]; have := unhide HL; omega)
    · have hc0 : (((n : Int) % 64 + ((k : Int) + 1) + 8) % 64 != 0) = true := by
        rw [bne_iff_ne]; have := fun h => hend (ht.1 h); omega
      have HO' := hide (by simpa using unhide HO : wr.ownsRow w.heap.size 5 1 (.slice ao (k + 1) cap) (128 :: List.replicate k 0).length ((128 :: List.replicate k 0).map Go.Proofs.YtgnbigijpneebaaDoor.u8))
      have hrs : Rd (wr.alloc (.cells #[.int .u8 0] 5)) (.slice (some ⟨wr.heap.size, 0, none⟩) 1 1) [0] := rd_lit (heap_alloc_new wr _) rfl (by simp) 1 rfl (by omega)
      have HRs := hide hrs
      clear hrs ht
      go_wp2_with (at_builtin; go_must (refine wpList_appendAll rfl (.tmp 15) (.tmp 16) rfl rfl _ w.heap.size (.slice ao (k + 1) cap) (128 :: List.replicate k 0) [0] _ 1 1 (by exact (unhide HO').alloc _) (by exact unhide HRs) (by simp; omega) (by simp; omega) rfl rfl ?_; intro ao1 cap1 w1 HO1 HG1 HA1; simp only [List.length_cons, List.length_replicate, List.length_nil, Nat.zero_add] at HO1 HG1 HA1))
      have HK1 := hide (((unhide HK).alloc (.cells #[.int .u8 0] 5)).grown (unhide HG1) (by intro j hj; right; exact ((unhide HO).lt j hj).1))
      have HO2 := hide (by
        have h5 := unhide HO1
        have e : (128 :: List.replicate k 0) ++ [0] = 128 :: List.replicate (k + 1) 0 := by rw [List.replicate_succ']; rfl
        rw [e] at h5
        simpa using h5 : w1.ownsRow w.heap.size 5 1 (.slice ao1 (k + 1 + 1) cap1) (k + 1 + 1) ((128 :: List.replicate (k + 1) 0).map Go.Proofs.YtgnbigijpneebaaDoor.u8))
      go_wp2
      go_roundw
      case rel => exact ⟨k + 1, ao1, cap1, by omega, by simp, HO2, HK1⟩
      case measure => simp [sLen]; have := unhide HL; omega
end Go.Proofs.YtgnbigijpneebaaDoor
namespace Go.Proofs.YtgnbigijpneebaaDoor
open Go.RowKit Go.BigFrame
set_option linter.unusedVariables false
set_option linter.unusedSimpArgs false

theorem dig_at (Y : List Nat) (i : Nat) (hi : i < 32) (hl : Y.length = 8) : (dig Y).getD i 0 = Y.getD (i / 4) 0 / 2 ^ (24 - 8 * (i % 4)) % 256 := by
  have h := dig_get Y (i / 4) (i % 4) (by omega) (by omega)
  rw [show 4 * (i / 4) + i % 4 = i by omega] at h
  rw [h]
  obtain ⟨r, hr⟩ : ∃ r, i % 4 = r := ⟨_, rfl⟩
  rw [hr]
  have hr4 : r < 4 := by omega
  rcases r with _ | _ | _ | _ | r
  · simp [bytes4]
  · simp [bytes4]
  · simp [bytes4]
  · simp [bytes4]
  · omega

set_option maxRecDepth 100000 in
set_option maxHeartbeats 4000000 in
theorem refsum_any (v : Value) (p : List Nat) (w : World) (h : Rd w v p) :
    Calls Tryd.prog 87 #[v] w fun e w' => e = .returned (.agg (brow (hash p))) ∧ Kept [] w w' := by
  have H := hide h
  obtain ⟨ao, len, cap, rfl, hlen, h2, ⟨h3, h3'⟩, h4, h5, h6⟩ := h
  subst hlen
  have HB := hide h5
  have HC := hide h6
  clear h5 h6 h4
  go_enter Tryd.func87, Tryd.ntmps87
  go_wp2_with fail
  rw [zb32]
  refine (first_any _).mono ?_
  rintro e w1 ⟨rfl, k1⟩
  have HZ := hide (k1.heap (heap_alloc_new w (.cells (zb 32) 25)) (by simp))
  have HK1 := hide (((Kept.refl [] w).alloc (.cells (zb 32) 25)).trans k1 (by simp))
  have Hs1 := hide (show w.heap.size < w1.heap.size by have := k1.size; simp at this; omega)
  clear k1
  go_wp2_with (first
    | (rw [zw8]; refine wpList_store_row rfl 117 _ _ rfl w1.heap.size (row h0) rfl rfl _ (zw 8) (heap_alloc_new _ _) (by rw [row_size]; exact Tryd.size_a8) (by rw [zw_size, row_size]; rfl) (row_one _) ?_))
  obtain ⟨W1, hW⟩ : ∃ W, (w1.alloc (.cells (zw 8) 117)).setRow w1.heap.size (row h0) = W := ⟨_, rfl⟩
  obtain ⟨gh, hgh⟩ : ∃ gh, w1.heap.size = gh := ⟨_, rfl⟩
  have HK2 := hide (by rw [← hW]; exact ((unhide HK1).alloc _).setRow (Or.inr (by have := unhide Hs1; omega)) _ : Kept [] w W1)
  have HR2 := hide (by rw [← hW, ← hgh]; exact setRow_heap _ _ _ _ _ _ (heap_alloc_new _ _) : W1.heap[gh]? = some (.cells (row h0) 117 (0, 0)))
  have HZ2 := hide (by rw [← hW, setRow_other _ _ _ _ (by have := unhide Hs1; omega), heap_alloc_old _ _ (by have := unhide Hs1; omega)]; exact unhide HZ : W1.heap[w.heap.size]? = some (.cells (zb 32) 25 (0, 0)))
  have Hs2 := hide (by have := lt_of_block (unhide HR2); have := unhide Hs1; omega : w.heap.size < gh ∧ gh < W1.heap.size)
  rw [hW, hgh]
  clear hW hgh HZ HK1 Hs1
  go_loopw [5] (fun t5 wr => ∃ (k : Nat) (hs : List Nat), k ≤ p.length / 64 ∧ t5 = .int .i64 (64 * k : Nat) ∧ Hid (hs = chain h0 (p.take (64 * k))) ∧ Hid (wr.heap[gh]? = some (.cells (row hs) 117 (0, 0))) ∧ Hid (wr.heap[w.heap.size]? = some (.cells (zb 32) 25 (0, 0))) ∧ Hid (Kept [] w wr)) (fun t _ => p.length - (intOf t).toNat)
  case atStart => exact ⟨0, h0, Nat.zero_le _, rfl, hide (by rw [show 64 * 0 = 0 from rfl, List.take_zero, chain_short (by simp)]), HR2, HZ2, HK2⟩
  case round =>
    clear HR2 HZ2 HK2
    obtain ⟨k, hs, hk, rfl, HM, HRh, HRz, HK⟩ := hrel
    obtain ⟨s, hs64⟩ : ∃ s, 64 * k = s := ⟨_, rfl⟩
    rw [hs64]
    by_cases hlt : k < p.length / 64
    · have hse : s + 64 ≤ p.length := by omega
      have hltI : (s : Int) < (p.length : Int) / 64 * 64 := by omega
      obtain ⟨b, o, hao, _⟩ := unhide HC (by omega)
      subst hao
      have HRd := hide (((unhide H).old (unhide HK) (by simp)).mid (s := s) (x := 64) hse)
      have hwd := hide (by rw [unhide HM]; exact chain_wds' h0_wds _ : Wds hs)
      have HCN := hide (by rw [chain_next h0 p k (by omega), ← unhide HM, hs64] : chain h0 (p.take (64 * (k + 1))) = comp hs ((p.drop s).take 64))
      have hbl : ((p.drop s).take 64).length = 64 := by simp; omega
      have hI1 : (s : Int) + 64 ≤ cap := by omega
      have hcs : ¬ cap = s := by omega
      have hcs2 : ¬ cap - s = 0 := by omega
      go_wp2_with fail
      refine wp_quiet_tail 6 (by kernel_rfl) (by kernel_rfl) ?_
      simp only [List.take_succ_cons, List.take_zero, List.drop_succ_cons, List.drop_zero]
      refine wpQuiet_load_row rfl 117 (.tmp 3) rfl gh rfl _ (row hs) (0, 0) _ (fun w' hw' => by obtain ⟨m, e⟩ := hw'; rw [e]; exact unhide HRh) Tryd.underlying117 rfl (by rw [row_size, (unhide hwd).1]; exact Tryd.size_a8) ?_
      simp only [Act.put, List.setIfInBounds_toArray, List.set_cons_succ, List.set_cons_zero]
      repeat (go_big_quiet_step (fail))
      refine wpQuiet_nil ?_
      intro _ hw'
      obtain ⟨n1, hw''⟩ := hw'
      subst hw''
      go_wp2_with fail
      refine (refcomp_any _ hs ((p.drop s).take 64) (wr.drewN n1) (unhide hwd) (unhide HRd) hbl).mono ?_
      rintro e w2 ⟨rfl, k2⟩
      rw [← unhide HCN]
      obtain ⟨cn, hcn⟩ : ∃ cn, chain h0 (p.take (64 * (k + 1))) = cn := ⟨_, rfl⟩
      rw [hcn]
      have hcw := hide (by rw [← hcn]; exact chain_wds' h0_wds _ : Wds cn)
      have HK2 := hide (((unhide HK).drewN n1).trans k2 (by simp))
      have HR2 := hide (k2.heap (unhide HRh) (by simp))
      have HZ2 := hide (k2.heap (unhide HRz) (by simp))
      clear k2
      go_wp2_with (refine wpList_store_row rfl 117 (.tmp 3) _ rfl gh (row cn) rfl rfl _ (row hs) (unhide HR2) (by rw [row_size, (unhide hcw).1]; exact Tryd.size_a8) (by rw [row_size, row_size, (unhide hwd).1, (unhide hcw).1]) (row_one _) ?_)
      go_roundw
      case rel => exact ⟨k + 1, cn, by omega, by rw [← hs64]; congr 1 <;> omega, hide hcn.symm, hide (setRow_heap _ _ _ _ _ _ (unhide HR2)), hide (by rw [setRow_other _ _ _ _ (by have := unhide Hs2; omega)]; exact unhide HZ2), hide ((unhide HK2).setRow (Or.inr (by have := unhide Hs2; omega)) _)⟩
      case measure => first | (simp [intOf]; done) | (simp [intOf]; omega)
    · have hke : k = p.length / 64 := by omega
      have hltI : ¬ (s : Int) < (p.length : Int) / 64 * 64 := by omega
      have hwd := hide (by rw [unhide HM]; exact chain_wds' h0_wds _ : Wds hs)
      obtain ⟨i0, hi, hz0, hz1, hz2⟩ := info_parts Tryd.info5
      obtain ⟨wm, hrun, ho, hgr⟩ := run_make_own (P := Tryd.prog) wr wr.heap.size 24 5 i0 (.int .u8 0) 1 Tryd.underlying24 hi hz0 hz1 .i64 .i64 136 (by rw [hz2]; decide) (by unfold maxLen; decide) (Nat.le_refl _)
      have hrun' : (Instr.makeSlice 24 (.int .i64 0) (.int .i64 136)).run Tryd.prog wr = .ok (.slice (some ⟨wr.heap.size, 0, none⟩) 0 136) wm := hrun
      have HO := hide ho
      have HKm := hide ((Kept.refl [] wr).grown hgr (by simp))
      clear hrun ho hgr hi hz0 hz1 hz2
      have hwh : (p.length : Int) / 64 * 64 = (s : Int) := by omega
      have hsl : s ≤ p.length := by omega
      have hI1 : (s : Int) ≤ p.length := by omega
      have hI2 : (p.length : Int) ≤ cap := by omega
      have HRd0 := hide ((unhide H).old ((unhide HK).trans (unhide HKm) (by simp)) (by simp) : Rd wm (.slice ao p.length cap) p)
      obtain ⟨R, hR⟩ : ∃ R, p.drop s = R := ⟨_, rfl⟩
      have hRl : p.length - s = R.length := by rw [← hR]; simp
      have hR64 : R.length < 64 := by omega
      obtain ⟨T, hT⟩ : ∃ T, R ++ pad p.length = T := ⟨_, rfl⟩
      have hes : 64 * (p.length / 64) = s := by omega
      obtain ⟨m, hTl, hm1, hm2⟩ := tail_blocks p
      have HCW := hide (chain_whole p)
      rw [hes, hR, hT] at hTl HCW
      rw [hs64] at HM
      have HCW2 := hide (by rw [unhide HM]; exact unhide HCW : hashW p = chain hs T)
      obtain ⟨N, hN⟩ : ∃ N, R.length + (pad p.length).length = N := ⟨_, rfl⟩
      have hTN : T.length = N := by rw [← hT, List.length_append]; exact hN
      have hTb := hide (by rw [← hT, ← hR]; intro x hx; rcases List.mem_append.1 hx with h | h; exact unhide HB x (List.mem_of_mem_drop h); exact pad_byte _ x h : ∀ x ∈ T, x < 256)
      have hpl := padZ_le p.length
      have hpl2 := pad_len p.length
      by_cases hcs : cap = s
      rotate_left
      have HRt := hide ((unhide HRd0).drop (i := s) hsl)
      rotate_left
      have HRt := hide ((unhide HRd0).drop0 (i := s) hcs hsl)
      all_goals
        rw [hR] at HRt
        rw [hRl] at HRt
        go_wp2_with (at_builtin; go_must (refine wpList_appendAll rfl (.tmp 28) (.tmp 31) rfl rfl _ wr.heap.size (.slice (some ⟨wr.heap.size, 0, none⟩) 0 136) [] R _ R.length _ (by exact unhide HO) (by exact unhide HRt) (by simp; omega) (unhide HKm).size rfl rfl ?_; intro ao1 cap1 w3 HO1 HG1 HA1; simp only [List.nil_append, List.length_nil, Nat.zero_add] at HO1 HG1 HA1 ⊢))
        refine (docPadding_any p.length w3 (by omega)).mono ?_
        rintro e w4 ⟨lv, rfl, hrp, k4⟩
        obtain ⟨pa, pn, pc, rfl, hpn, _⟩ := id hrp
        have HRp := hide hrp
        have HO4 := hide (k4.owns (unhide HO1) (by simp))
        have HK4 := hide (((unhide HKm).grown (unhide HG1) (by intro j hj; right; cases hj; exact Nat.le_refl _)).trans k4 (by simp))
        have Hpn := hide hpn
        clear hrp k4 hpn
        go_wp2_with (at_builtin; go_must (refine wpList_appendAll rfl (.tmp 33) (.tmp 37) rfl rfl _ wr.heap.size (.slice ao1 R.length cap1) R (pad p.length) _ pn pc (by exact unhide HO4) (by exact unhide HRp) (by omega) (unhide HK4).size rfl rfl ?_; intro ao5 cap5 w5 HO5 HG5 HA5; rw [hT] at HO5; rw [hN] at HO5 HA5 ⊢; rw [hTN] at HO5))
        have HK5 := hide ((unhide HK4).grown (unhide HG5) (by intro j hj; right; exact ((unhide HO4).lt j hj).1))
        have HT5 := hide (rd_owns (bs := T) (by rw [hTN]; exact unhide HO5) (unhide hTb) (by omega) : Rd w5 (.slice ao5 N cap5) T)
        have HT6 := HT5
        obtain ⟨_, _, _, he5, _, hc5, ⟨hc5', _⟩, _, _, hx5⟩ := unhide HT6
        cases he5
        obtain ⟨gb, go5, rfl, _⟩ := hx5 (by omega)
        have hgb := ((unhide HO5).lt gb rfl).1
        have hghw := lt_of_block (unhide HRh)
        have Hne := hide (by omega : gb ≠ gh)
        have HR5 := hide ((unhide HK5).heap (unhide HRh) (by simp))
        have HZ5 := hide ((unhide HK5).heap (unhide HRz) (by simp))
        have HKK := hide ((unhide HK).trans (unhide HK5) (by simp))
        clear hx5 HO5 HG5 HA5 HT6 HRp HO4 HO1 HG1 HA1 hgb hghw HRt
        go_wp2_with fail
        go_loopw [7] (fun t7 wq => ∃ (j : Nat) (ys : List Nat), j ≤ m ∧ t7 = .int .i64 (64 * j : Nat) ∧ Hid (ys = chain hs (T.take (64 * j))) ∧ Hid (wq.heap[gh]? = some (.cells (row ys) 117 (0, 0))) ∧ Hid (wq.heap[w.heap.size]? = some (.cells (zb 32) 25 (0, 0))) ∧ Hid (Kept [] w wq) ∧ Hid (Kept [gh] w5 wq)) (fun t _ => N - (intOf t).toNat)
        case atStart => exact ⟨0, hs, Nat.zero_le _, rfl, hide (by rw [show 64 * 0 = 0 from rfl, List.take_zero, chain_short (by simp)]), HR5, HZ5, HKK, hide (Kept.refl _ _)⟩
        case round =>
          clear HR5 HZ5 HKK
          have hs64' := hide hs64
          clear hs64
          obtain ⟨j, ys, hj, rfl, HM2, HRh2, HRz2, HK2, HKg2⟩ := hrel
          obtain ⟨s2, hs2⟩ : ∃ s2, 64 * j = s2 := ⟨_, rfl⟩
          rw [hs2]
          have hyw := hide (by rw [unhide HM2]; exact chain_wds' (unhide hwd) _ : Wds ys)
          by_cases hlt2 : j < m
          · have hse : s2 + 64 ≤ N := by omega
            have hltI2 : (s2 : Int) < (N : Int) := by omega
            have HRd2 := hide (((unhide HT5).kept (unhide HKg2) (by have := unhide Hne; simpa [blk] using this)) : Rd wr (.slice (some ⟨gb, go5, none⟩) N cap5) T)
            rw [← hTN] at HRd2
            have HRd3 := hide ((unhide HRd2).mid (s := s2) (x := 64) (by omega))
            have HCN := hide (by rw [chain_next hs T j (by omega), ← unhide HM2, hs2] : chain hs (T.take (64 * (j + 1))) = comp ys ((T.drop s2).take 64))
            have hbl : ((T.drop s2).take 64).length = 64 := by simp; omega
            have hI1 : (s2 : Int) + 64 ≤ cap5 := by omega
            have hcs5 : ¬ cap5 = s2 := by omega
            go_wp2_with fail
            refine wp_quiet_tail 6 (by kernel_rfl) (by kernel_rfl) ?_
            simp only [List.take_succ_cons, List.take_zero, List.drop_succ_cons, List.drop_zero]
            refine wpQuiet_load_row rfl 117 (.tmp 3) rfl gh rfl _ (row ys) (0, 0) _ (fun w' hw' => by obtain ⟨m, e⟩ := hw'; rw [e]; exact unhide HRh2) Tryd.underlying117 rfl (by rw [row_size, (unhide hyw).1]; exact Tryd.size_a8) ?_
            simp only [Act.put, List.setIfInBounds_toArray, List.set_cons_succ, List.set_cons_zero]
            repeat (go_big_quiet_step (fail))
            refine wpQuiet_nil ?_
            intro _ hw'
            obtain ⟨n1, hw''⟩ := hw'
            subst hw''
            go_wp2_with fail
            refine (refcomp_any _ ys ((T.drop s2).take 64) (wr.drewN n1) (unhide hyw) (unhide HRd3) hbl).mono ?_
            rintro e w6 ⟨rfl, k6⟩
            rw [← unhide HCN]
            obtain ⟨cn, hcn⟩ : ∃ cn, chain hs (T.take (64 * (j + 1))) = cn := ⟨_, rfl⟩
            rw [hcn]
            have hcw := hide (by rw [← hcn]; exact chain_wds' (unhide hwd) _ : Wds cn)
            have HK6 := hide (((unhide HK2).drewN n1).trans k6 (by simp))
            have HKg6 := hide (((unhide HKg2).drewN n1).trans k6 (by simp))
            have HR6 := hide (k6.heap (unhide HRh2) (by simp))
            have HZ6 := hide (k6.heap (unhide HRz2) (by simp))
            clear k6
            go_wp2_with (refine wpList_store_row rfl 117 (.tmp 3) _ rfl gh (row cn) rfl rfl _ (row ys) (unhide HR6) (by rw [row_size, (unhide hcw).1]; exact Tryd.size_a8) (by rw [row_size, row_size, (unhide hyw).1, (unhide hcw).1]) (row_one _) ?_)
            go_roundw
            case rel => exact ⟨j + 1, cn, by omega, by rw [← hs2]; congr 1 <;> omega, hide hcn.symm, hide (setRow_heap _ _ _ _ _ _ (unhide HR6)), hide (by rw [setRow_other _ _ _ _ (by have := unhide Hs2; omega)]; exact unhide HZ6), hide ((unhide HK6).setRow (Or.inr (by have := unhide Hs2; omega)) _), hide ((unhide HKg6).setRow (by simp) _)⟩
            case measure => first | (simp [intOf]; done) | (simp [intOf]; omega)
          · have hje : j = m := by omega
            have hltI2 : ¬ (s2 : Int) < (N : Int) := by omega
            have HYS := hide (by rw [unhide HM2, unhide HCW2, List.take_of_length_le (by omega)] : ys = hashW p)
            go_wp2_with fail
            rw [zb32]
            obtain ⟨gd, hgd⟩ : ∃ gd, wr.heap.size = gd := ⟨_, rfl⟩
            have hghr := lt_of_block (unhide HRh2)
            have hwr := lt_of_block (unhide HRz2)
            have HD0 := hide (by rw [← hgd]; exact heap_alloc_new wr (.cells (zb 32) 25) : (wr.alloc (.cells (zb 32) 25)).heap[gd]? = some (.cells (brow (List.replicate 32 0)) 25 (0, 0)))
            have HR0 := hide (by rw [heap_alloc_old _ _ hghr]; exact unhide HRh2 : (wr.alloc (.cells (zb 32) 25)).heap[gh]? = some (.cells (row ys) 117 (0, 0)))
            have HZ0 := hide (by rw [heap_alloc_old _ _ hwr]; exact unhide HRz2 : (wr.alloc (.cells (zb 32) 25)).heap[w.heap.size]? = some (.cells (zb 32) 25 (0, 0)))
            have HK0 := hide ((unhide HK2).alloc (.cells (zb 32) 25))
            have Hs5 := hide (by have := unhide Hs2; omega : w.heap.size < gh ∧ gh < gd)
            have hyl := (unhide hyw).1
            have HYW := hide (unhide hyw).2
            rw [hgd]
            clear hghr hwr hgd
            go_loopw [9] (fun t9 wq => ∃ (i : Nat) (ds : List Nat), i ≤ 32 ∧ t9 = .int .i64 i ∧ Hid (ds.length = 32 ∧ ∀ x, x < i → ds.getD x 0 = (dig ys).getD x 0) ∧ Hid (wq.heap[gd]? = some (.cells (brow ds) 25 (0, 0))) ∧ Hid (wq.heap[gh]? = some (.cells (row ys) 117 (0, 0))) ∧ Hid (wq.heap[w.heap.size]? = some (.cells (zb 32) 25 (0, 0))) ∧ Hid (Kept [] w wq)) (fun t _ => 32 - (intOf t).toNat)
            case atStart => exact ⟨0, _, by omega, rfl, hide ⟨by simp, by intro x hx; omega⟩, HD0, HR0, HZ0, HK0⟩
            case round =>
              clear HD0 HR0 HZ0 HK0
              obtain ⟨i, ds, hi, rfl, HM3, HD3, HR3, HZ3, HK3⟩ := hrel
              by_cases hlt3 : i < 32
              · have hlt3' : (i : Int) < 32 := by omega
                obtain ⟨q, hq⟩ : ∃ q, i / 4 = q := ⟨_, rfl⟩
                obtain ⟨r, hr⟩ : ∃ r, i % 4 = r := ⟨_, rfl⟩
                obtain ⟨sh, hsh⟩ : ∃ sh, 24 - 8 * r = sh := ⟨_, rfl⟩
                have hqI : (i : Int) / 4 = (q : Int) := by omega
                have hqI' : Int.tdiv (i : Int) 4 = (q : Int) := by rw [Int.tdiv_eq_ediv_of_nonneg (by omega)]; omega
                have hrI : (i : Int) % 4 = (r : Int) := by omega
                have hrI' : Int.tmod (i : Int) 4 = (r : Int) := by rw [Int.tmod_eq_emod_of_nonneg (by omega)]; omega
                have hshI : (24 : Int) - 8 * (r : Int) = (sh : Int) := by omega
                have hq8 : (q : Int) < 8 := by omega
                have hr4 : (r : Int) < 4 := by omega
                have hsh24 : (sh : Int) ≤ 24 := by omega
                have hshn : ¬ (sh : Int) < 0 := by omega
                have HV := hide (by have := dig_at ys i hlt3 hyl; rw [hq, hr, hsh] at this; exact this : (dig ys).getD i 0 = ys.getD q 0 / 2 ^ sh % 256)
                have cq := row_cell (unhide HR3) q (by omega)
                have lq := wordD (unhide HYW) q
                have cd := brow_cell (unhide HD3) i (by rw [(unhide HM3).1]; exact hlt3)
                generalize ys.getD q 0 = x at cq HV lq
                obtain ⟨z, hz⟩ : ∃ z, x / 2 ^ sh % 256 = z := ⟨_, rfl⟩
                have hzv : (x : Int) / 2 ^ sh % 256 = (z : Int) := by rw [← hz]; simp
                rw [hz] at HV
                have HMN := hide (⟨by simpa using (unhide HM3).1, fun y hy => by
                  by_cases hij : y = i
                  · subst hij; rw [getD_set_same _ _ _ (by rw [(unhide HM3).1]; exact hlt3), unhide HV]
                  · rw [getD_set_other _ _ _ _ hij]; exact (unhide HM3).2 y (by omega)⟩ : (ds.set i z).length = 32 ∧ ∀ y, y < i + 1 → (ds.set i z).getD y 0 = (dig ys).getD y 0)
                have fr : wr.frozen? ⟨gd, i, none⟩ = false := frozen_of_row _ _ _ _ _ (unhide HD3)
                have HND := hide (brow_setCell (unhide HD3) i z)
                have HNR := hide ((heap_setCell_other wr ⟨gd, i, none⟩ gh (Go.Proofs.YtgnbigijpneebaaDoor.u8 z) (by have := unhide Hs5; simp only [ne_eq]; omega)).trans (unhide HR3))
                have HNZ := hide ((heap_setCell_other wr ⟨gd, i, none⟩ w.heap.size (Go.Proofs.YtgnbigijpneebaaDoor.u8 z) (by have := unhide Hs5; simp only [ne_eq]; omega)).trans (unhide HZ3))
                have HNK := hide (fun n => ((unhide HK3).drewN n).setCell (p := ⟨gd, i, none⟩) (Or.inr (by have := unhide Hs5; simp only; omega)) (Go.Proofs.YtgnbigijpneebaaDoor.u8 z))
                clear hz hq hr hsh
                go_wp2_with fail
                go_roundw
                case rel => exact ⟨i + 1, _, by omega, by go_num, HMN, HND, HNR, HNZ, unhide HNK 0⟩
                case measure => simp [intOf]; omega
              · have hlt3' : ¬ (i : Int) < 32 := by omega
                have hi32 : i = 32 := by omega
                subst hi32
                have hfin : ds = hash p := by
                  unfold hash
                  rw [← unhide HYS]
                  refine list_ext_getD (by rw [(unhide HM3).1, dig_len, hyl]) (fun x hx => (unhide HM3).2 x (by rw [(unhide HM3).1] at hx; exact hx))
                have hhl : (hash p).length = 32 := by rw [← hfin]; exact (unhide HM3).1
                rw [hfin] at HD3
                clear hfin
                go_wp2_with (first
                  | (refine wpList_load_row rfl 25 _ rfl gd rfl _ (brow (hash p)) (0, 0) _ (unhide HD3) Tryd.underlying25 rfl (by rw [brow_size, hhl]; exact Tryd.size_a32b) ?_)
                  | (refine wpList_store_row rfl 25 (.tmp 2) _ rfl w.heap.size (brow (hash p)) rfl rfl _ (zb 32) (unhide HZ3) (by rw [brow_size, hhl]; exact Tryd.size_a32b) (by rw [zb_size, brow_size, hhl]) (brow_one _) ?_))
                refine bodyPost_ret (v := .agg (brow (hash p))) ?_ rfl ⟨rfl, (unhide HK3).setRow (by simp) _⟩
                exact results_cell_row rfl _ _ w.heap.size _ (brow (hash p)) (0, 0) _ rfl (setRow_heap _ _ _ _ _ _ (unhide HZ3)) Tryd.underlying25 rfl (by rw [brow_size, hhl]; exact Tryd.size_a32b)
end Go.Proofs.YtgnbigijpneebaaDoor
namespace Go.Proofs.YtgnbigijpneebaaDoor
open Go.ChangeShapes Go.WideShapes Go.ChangeAt Go.RowKit Go.Deep
set_option linter.unusedVariables false
set_option linter.unusedSimpArgs false

theorem own : ownKnob Tryd.prog.godebug = none := by kernel_rfl
theorem laidOut : laidOutB Tryd.prog = true := by kernel_rfl
theorem byte_of_wf {x : Int} (h : (Lit.int .u8 x).wf = true) : 0 ≤ x ∧ x < 256 := by
  simp [Lit.wf, IntKind.min, IntKind.max, IntKind.signed, IntKind.bits] at h
  exact ⟨by omega, by omega⟩
theorem int_of_wf {x : Int} (h : (Lit.int .i64 x).wf = true) : -9223372036854775808 ≤ x ∧ x ≤ 9223372036854775807 := by
  simp [Lit.wf, IntKind.min, IntKind.max, IntKind.signed, IntKind.bits] at h
  exact ⟨by omega, by omega⟩

theorem bulk_one {H : Type} (d : DataW H) : 1 ≤ Rows.uptoBulk d := by
  cases d with
  | lit l => cases l <;> simp [Rows.uptoBulk]
  | nil => simp [Rows.uptoBulk]
  | ptr d => simp [Rows.uptoBulk]
  | slice elems spare => simp [Rows.uptoBulk]
  | agg parts => simp [Rows.uptoBulk]
  | iface t d => simp [Rows.uptoBulk]
  | map entries => simp [Rows.uptoBulk]
  | held h => simp [Rows.uptoBulk]
theorem bulk_len {H : Type} (l : List (DataW H)) : l.length ≤ Rows.uptoBulkAll l := by
  induction l with
  | nil => simp [Rows.uptoBulkAll]
  | cons x r ih => have := bulk_one x; simp only [Rows.uptoBulkAll, List.length_cons]; omega
theorem Tryd.bytes5 : Tryd.prog.bytesOf 5 = 1 := by kernel_rfl

section
variable {H : Type} {enc : TypeId × Value → H} {W : World}

/-- Bytes that came in, as the walks want them, of whatever length. -/
theorem open_bytes {fuel : Nat} {cs : List Value} {x : DataW H × List MemPlace} (h : DataW.trod enc Tryd.prog W 0 (fun _ => true) true fuel 24 cs = some x) :
    ∃ v bs, cs = [v] ∧ (bs.length ≤ 140737488355328 → Rd W v bs) ∧ ((bs = [] ∧ x.1 = .nil) ∨ ∃ elems spare, x.1 = .slice elems spare ∧ elems.length = bs.length) := by
  rcases open_ints Tryd.underlying24 Tryd.underlying5 (by kernel_rfl) h with ⟨rfl, rfl⟩ | ⟨a, len, cap, zs, rfl, _, hl, hm, hz, rfl, hcell, hwz⟩
  · exact ⟨_, [], rfl, fun _ => Rd.nil W, .inl ⟨rfl, rfl⟩⟩
  · have h2 : (lits (H := H) .u8 (zs.take len)).length = len := by simp only [lits, List.length_map, List.length_take]; simp at hz; omega
    have hbl : ((zs.take len).map Int.toNat).length = len := by simp at hz; simp; omega
    refine ⟨_, (zs.take len).map Int.toNat, rfl, fun hB => ⟨_, _, _, rfl, hbl, hl, ⟨by unfold maxLen at hm; omega, by omega⟩, by simp, ?_, ?_⟩, .inr ⟨_, _, rfl, by rw [h2, hbl]⟩⟩
    · intro y hy
      obtain ⟨z, hz1, rfl⟩ := List.mem_map.1 hy
      have := byte_of_wf (hwz z (List.mem_of_mem_take hz1)); omega
    · intro hp
      simp at hz
      have hc0 := hcell 0 (by omega)
      obtain ⟨b, off, spot⟩ := a
      have hspot : spot = none := by simpa [Addr.add] using World.cell?_spot hc0
      subst hspot
      refine ⟨b, off, rfl, fun i hi => ?_⟩
      have hc := hcell i (by omega)
      have hzi : i < zs.length := by omega
      rw [Addr.add_mid] at hc
      rw [hc]
      have hw := byte_of_wf (hwz (zs[i]) (List.getElem_mem hzi))
      simp only [List.getD_eq_getElem?_getD, List.getElem?_eq_getElem hzi, Option.getD_some, List.getElem?_map, List.getElem?_take, hi, if_true, Option.map_some]
      simp [u8]; omega
/-- Their length, by the reach. -/
theorem reach_bytes {ts : List TypeId} {ds : List (DataW H)} (h : (DataW.weightsEach Tryd.prog ts ds).all (· ≤ reachBytes) = true) {j : Nat} (ht : ts[j]? = some 24) {d : DataW H} (hd : ds[j]? = some d) {bs : List Nat}
    (hx : (bs = [] ∧ d = .nil) ∨ ∃ elems spare, d = .slice elems spare ∧ elems.length = bs.length) : bs.length ≤ 140737488351232 := by
  rcases hx with ⟨rfl, _⟩ | ⟨elems, spare, rfl, he⟩
  · simp
  · have := sized_slice h ht hd Tryd.underlying24
    rw [Tryd.bytes5, Nat.mul_one] at this
    unfold reachBytes at this
    omega
/-- Their length, by the bulk. -/
theorem bulk_bytes {d : DataW H} {bs : List Nat} (hx : (bs = [] ∧ d = .nil) ∨ ∃ elems spare, d = .slice elems spare ∧ elems.length = bs.length) : bs.length + 1 ≤ Rows.uptoBulk d := by
  rcases hx with ⟨rfl, rfl⟩ | ⟨elems, spare, rfl, he⟩
  · simp [Rows.uptoBulk]
  · have := bulk_len elems
    simp only [Rows.uptoBulk]; omega
end
end Go.Proofs.YtgnbigijpneebaaDoor
