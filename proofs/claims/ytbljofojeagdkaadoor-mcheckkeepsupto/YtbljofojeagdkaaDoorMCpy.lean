import Derived.Test.YtbljofojeagdkaaDoorMP8
import Derived.Test.YtbljofojeagdkaaDoorMPart
import Derived.Test.YtbljofojeagdkaaDoorMP11
import Derived.Laws.CopyRow
namespace Go.Proofs.YtbljofojeagdkaaDoor
open Go.RowKit Go.BigFrame
set_option linter.unusedVariables false
set_option linter.unusedSimpArgs false

section
variable {P : Program}
theorem run_copy_rowN (w : World) (dT sT ty elem : TypeId) (sz g o dLen dCap : Nat) (a : Addr) (sLen sCap : Nat) (cur : Array Value) (t : TypeId) (cs : List Value)
    (hu : P.underlying dT = some (.slice elem)) (hs : (P.info? elem).map (·.size) = some sz)
    (hg : w.heap[g]? = some (.cells cur t (0, 0))) (hn : cs.length = Nat.min sLen dLen * sz)
    (hsrc : ∀ j v, cs[j]? = some v → w.cell? (a.add j) = some v) (hfit : o + cs.length ≤ cur.size) (h1 : ∀ v ∈ cs, v.oneCell' = true) :
    (Builtin.copy_ #[dT, sT] ty #[.slice (some ⟨g, o, none⟩) dLen dCap, .slice (some a) sLen sCap]).run P w =
      .ok (goInt (Nat.min sLen dLen)) (w.setRow g (cur.toList.take o ++ cs ++ cur.toList.drop (o + cs.length)).toArray) := by
  have hl := run_loadCells_list (P := P) w a cs hsrc
  have hst := run_storeCells_at P g o t cs 0 cur w hg (by simpa using hfit) h1
  cases hq : P.info? elem with
  | none => simp [hq] at hs
  | some i =>
    have hi : i.size = sz := by simpa [hq] using hs
    simp [Builtin.copy_, run_underlying hu, Builtin.lenOf, Builtin.firstCells, sizeOf, typeInfo, hq, hi, ← hn, hl, hst]
theorem run_copy_noneN (w : World) (dT sT ty elem : TypeId) (sz : Nat) (d a : Option Addr) (dLen dCap sLen sCap : Nat) (hu : P.underlying dT = some (.slice elem)) (hs : (P.info? elem).map (·.size) = some sz) (hn : Nat.min sLen dLen = 0) :
    (Builtin.copy_ #[dT, sT] ty #[.slice d dLen dCap, .slice a sLen sCap]).run P w = .ok (goInt 0) w := by
  cases hq : P.info? elem with
  | none => simp [hq] at hs
  | some i =>
    have hl : ∀ (x : Addr), (loadCells x 0).run P w = .ok #[] w := fun x => by simpa using run_loadCells_list (P := P) w x [] (by simp)
    cases d <;> cases a <;> simp [Builtin.copy_, run_underlying hu, Builtin.lenOf, Builtin.firstCells, sizeOf, typeInfo, hq, hn, storeCells, hl]
end

theorem wpList_copyD {ops : Array Oper} {rest : List Oper} {o : Oper} {a : Act} {w : World} {Q : Exit → Act → World → Prop} (hgd : o.guard = none) (d s : Operand)
    (ho : o.op = .call { callee := .builtin .copy, args := #[d, s], argTypes := #[25, 25] }) (v u r : Value) (w1 : World) (hd : a.eval d = v) (hs : a.eval s = u)
    (hrun : (Builtin.copy_ #[25, 25] o.type #[v, u]).run Tryd.prog w = .ok r w1) (hK : wpList Tryd.prog ops Q rest (a.put o.dst r) w1) :
    wpList Tryd.prog ops Q (o :: rest) a w := by
  refine wpList_plain hgd fun K hK' => ?_
  unfold Oper.wp execOp
  simp only [ho, resolve, invoke, builtin, Sem.run_bind, Sem.run_pure, Result.andThen_ok, List.map_toArray, List.map_cons, List.map_nil, hd, hs, hrun]
  exact hK' _ _ hK

/-- Digests copied into an owned row. -/
def cpD (full other : List (List Nat)) (n : Nat) : List (List Nat) := other.take (min other.length n) ++ full.drop (min other.length n)
theorem cpD_len {full other : List (List Nat)} {n : Nat} (hn : n ≤ full.length) : (cpD full other n).length = full.length := by
  unfold cpD
  rw [List.length_append, List.length_take, List.length_drop]
  omega
theorem cpD_dg {full other : List (List Nat)} {n : Nat} (h1 : ∀ d ∈ full, Dg d) (h2 : ∀ d ∈ other, Dg d) : ∀ d ∈ cpD full other n, Dg d := by
  intro d hd
  unfold cpD at hd
  rcases List.mem_append.1 hd with hd | hd
  · exact h2 d (List.mem_of_mem_take hd)
  · exact h1 d (List.mem_of_mem_drop hd)
theorem copyD_any (w : World) (base g n cap : Nat) (full other : List (List Nat)) (oa : Option Addr) (on oc : Nat) (ty : TypeId) (ho : w.ownsRow base 23 32 (.slice (some ⟨g, 0, none⟩) full.length cap) full.length (flatD full)) (hn : n ≤ full.length) (hr : RdD w (.slice oa on oc) other) (hd : ∀ d ∈ full, Dg d) :
    ∃ m w1, (Builtin.copy_ #[25, 25] ty #[.slice (some ⟨g, 0, none⟩) n cap, .slice oa on oc]).run Tryd.prog w = .ok (goInt m) w1 ∧ w1.ownsRow base 23 32 (.slice (some ⟨g, 0, none⟩) full.length cap) full.length (flatD (cpD full other n)) ∧ ∀ a : World, Kept [] a w → a.heap.size ≤ g → Kept [] a w1 := by
  have hsz : (Tryd.prog.info? 23).map (·.size) = some 32 := Tryd.size_dig
  have hon : other.length = on := hr.nlP
  subst hon
  by_cases hm : min other.length n = 0
  · refine ⟨0, w, run_copy_noneN w _ _ ty 23 32 _ _ _ _ _ _ Tryd.underlying25 hsz hm, ?_, fun a h _ => h⟩
    unfold cpD
    rw [hm, List.take_zero, List.drop_zero, List.nil_append]
    exact ho
  · rcases ho.2 with ⟨h9, _⟩ | ⟨g', cap', cur, e, hb, hg, hc1, hc2, hcs, htk⟩
    · simp at h9
    · simp only [Value.slice.injEq, Option.some.injEq, Addr.mk.injEq, and_true, true_and] at e
      obtain ⟨rfl, rfl⟩ := e
      obtain ⟨b, off, rfl, _⟩ := hr.range (by omega)
      have hdl : ∀ d ∈ other.take (min other.length n), d.length = 32 := fun d h => (hr.dg (List.mem_of_mem_take h)).1
      have hfl := flatD_len hdl
      rw [List.length_take, Nat.min_eq_left (Nat.min_le_left _ _)] at hfl
      have hsrc : ∀ j v, (flatD (other.take (min other.length n)))[j]? = some v → w.cell? ((⟨b, off, none⟩ : Addr).add j) = some v := by
        intro j v hv
        refine hr.news j v ?_
        rw [← List.take_append_drop (min other.length n) other, flatD_app, List.getElem?_append_left (by have := (List.getElem?_eq_some_iff.1 hv).1; exact this)]
        exact hv
      have hrun := run_copy_rowN (P := Tryd.prog) w 25 25 ty 23 32 g 0 n cap ⟨b, off, none⟩ other.length oc cur 23 (flatD (other.take (min other.length n))) Tryd.underlying25 hsz hg hfl hsrc (by rw [hfl, hcs]; omega) (flatD_one _)
      refine ⟨_, _, hrun, ⟨?_, Or.inr ⟨g, cap, _, rfl, hb, setRow_heap _ _ _ _ _ _ hg, hc1, hc2, ?_, ?_⟩⟩, fun a h hle => h.setRow (Or.inr hle) _⟩
      · rw [flatD_len (fun d h => (cpD_dg hd (fun d h => hr.dg h) d h).1), cpD_len hn]
      · simp only [List.take_zero, List.nil_append, Nat.zero_add, List.size_toArray, List.length_append, List.length_drop, Array.length_toList]
        rw [hfl, hcs]
        omega
      · simp only [List.take_zero, List.nil_append, Nat.zero_add]
        unfold cpD
        rw [flatD_app, List.take_append, hfl, List.take_of_length_le (by rw [hfl]; omega)]
        have h7 : List.take (full.length * 32 - min other.length n * 32) (cur.toList.drop (min other.length n * 32)) = flatD (full.drop (min other.length n)) := by
          rw [← List.drop_take, htk]
          have h6 : flatD full = flatD (full.take (min other.length n)) ++ flatD (full.drop (min other.length n)) := by rw [← flatD_app, List.take_append_drop]
          have h5 := flatD_len (ds := full.take (min other.length n)) (fun d h => (hd d (List.mem_of_mem_take h)).1)
          rw [List.length_take, Nat.min_eq_left (show min other.length n ≤ full.length by omega)] at h5
          rw [h6, List.drop_append, List.drop_of_length_le (by rw [h5]; exact Nat.le_refl _), List.nil_append, h5, Nat.sub_self, List.drop_zero]
        rw [h7]

set_option maxRecDepth 100000 in
set_option maxHeartbeats 1000000 in
theorem twinB_any (v : Value) (ds : List (List Nat)) (w : World) (hv : RdD w v ds) (hl : ds.length ≤ 2000000) :
    Calls Tryd.prog 7 #[v] w fun e w' => ∃ u, e = .returned u ∧ RdD w' u ds ∧ Kept [] w w' ∧ w'.ownsRow w.heap.size 23 32 u ds.length (flatD ds) := by
  have HV := hide hv
  obtain ⟨ao, len, cap, rfl, h1, h2, h3, h4, h5⟩ := hv
  subst h1
  clear h4 h5
  go_enter Tryd.func7, Tryd.ntmps7
  have HO := hide (World.ownsRow_made (base := w.heap.size) (e := 23) (size := 32) w #[] 0 (Nat.le_refl _) (by unfold maxLen; omega) (by simp))
  have HV1 := hide ((unhide HV).old ((Kept.refl [] w).alloc (.cells #[] 23)))
  go_wp2_with (at_builtin; refine wpList_appendD rfl (.tmp 3) (.tmp 4) rfl rfl _ w.heap.size (.slice (some ⟨w.heap.size, 0, none⟩) 0 0) [] ds ao ds.length cap (by exact unhide HO) (by exact unhide HV1) (by simp; omega) (by simp) rfl rfl ?_; intro ao1 cap1 w1 HO1 HG1; simp only [List.nil_append, List.length_nil, Nat.zero_add] at HO1; have HK1 := hide (((Kept.refl [] w).alloc _).grown (unhide HG1) (by intro k hk; right; simp [Value.ownBlock] at hk; omega)); clear HG1; simp only [List.length_nil, Nat.zero_add])
  go_ret
  exact ⟨_, rfl, rdd_owns (unhide HO1) (fun d hd => (unhide HV).dg hd), unhide HK1, unhide HO1⟩
end Go.Proofs.YtbljofojeagdkaaDoor
