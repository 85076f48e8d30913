import Derived.Test.YtckkalmhekfnhaaGreatDoorTopD
import Derived.Test.YtckkalmhekfnhaaGreatDoorTopC
import Derived.Test.YtckkalmhekfnhaaGreatDoorTopB
import Derived.Test.YtckkalmhekfnhaaGreatDoorRBlob
import Derived.Test.YtckkalmhekfnhaaGreatDoorBase
import Derived.Test.YtckkalmhekfnhaaGreatDoorCards
import Derived.Test.YtckkalmhekfnhaaGreatDoorTie
import Derived.ProofKit
import Derived.OpenShut
import Derived.Deep.Slices
import Derived.SizedLaws
namespace Go.Proofs.YtckkalmhekfnhaaGreatDoor
open Go.RowKit Go.BigFrame
set_option linter.unusedVariables false
set_option linter.unusedSimpArgs false

theorem rBlob_bad {p : List Nat} {i e : Nat} (m : Int) (h : e ≠ 0) : rBlob p i e m = ([], i, e) := by unfold rBlob; rw [if_pos h]
theorem rNum1_lt (p : List Nat) (hp : ∀ x ∈ p, x < 256) (i : Nat) : (rNum p i 0 1).1 < 256 := by
  unfold rNum
  rw [if_neg (by simp)]
  split
  · show (0 : Nat) < 256; omega
  · rename_i h
    show beL ((p.drop i).take 1) < 256
    have hi : i < p.length := by omega
    rw [List.drop_eq_getElem_cons hi, List.take_succ_cons, List.take_zero]
    have h9 := hp _ (List.getElem_mem hi)
    simp only [beL, List.foldl_cons, List.foldl_nil]
    omega
/-- What the document takes is what the program takes, or both are refused by one fault. -/
theorem docT_eq (p : List Nat) (hp : ∀ x ∈ p, x < 256) (i : Nat) : (docT p i 0).2.2 = (takeE p i).2.2 ∧ ((takeE p i).2.2 = 0 → docT p i 0 = takeE p i) := by
  have hx := rNum1_lt p hp i
  have he : (rNum p i 0 1).2.2 = 0 ∨ (rNum p i 0 1).2.2 = 3 := by
    unfold rNum
    rw [if_neg (by simp)]
    split
    · exact Or.inr rfl
    · exact Or.inl rfl
  unfold docT docT2 takeE docF
  obtain ⟨X, hX⟩ : ∃ X, rNum p i 0 1 = X := ⟨_, rfl⟩
  rw [hX] at hx he ⊢
  obtain ⟨x, j, e⟩ := X
  simp only at hx he ⊢
  rw [Nat.mod_eq_of_lt hx]
  by_cases h1 : x = 1
  · subst h1; simp
  by_cases h2 : x = 2
  · subst h2; simp
  have hn : ¬ (x = 1 ∨ x = 2) := by omega
  rw [if_neg h1, if_neg hn, if_neg hn]
  have h3 : (if e = 0 then 3 else e) = 3 := by rcases he with h | h <;> subst h <;> rfl
  rw [h3, rBlob_bad 64 (by decide)]
  exact ⟨rfl, fun h => by simp at h⟩
def docD (p : List Nat) : En × Nat := if doneE p (docT p 0 0).2.1 (docT p 0 0).2.2 ≠ 0 then (⟨0, [], []⟩, doneE p (docT p 0 0).2.1 (docT p 0 0).2.2) else ((docT p 0 0).1, 0)
theorem docD_eq (p : List Nat) (hp : ∀ x ∈ p, x < 256) : docD p = decE p := by
  obtain ⟨h1, h2⟩ := docT_eq p hp 0
  unfold docD decE
  by_cases h0 : (takeE p 0).2.2 = 0
  · rw [h2 h0, h0, if_neg (by simp : ¬ (0 ≠ 0))]
  · rw [if_pos h0]
    have h9 : doneE p (docT p 0 0).2.1 (docT p 0 0).2.2 = (takeE p 0).2.2 := by unfold doneE; rw [h1, if_neg (by omega)]
    rw [h9, if_pos h0]
/-- So many entries off the document's reader. -/
def docN (p : List Nat) : Nat → Nat → List En × Nat × Nat
  | i, 0 => ([], i, 0)
  | i, n + 1 => if (docT p i 0).2.2 ≠ 0 then ([(docT p i 0).1], (docT p i 0).2) else ((docT p i 0).1 :: (docN p (docT p i 0).2.1 n).1, (docN p (docT p i 0).2.1 n).2)
theorem docN_eq (p : List Nat) (hp : ∀ x ∈ p, x < 256) : ∀ n i, (docN p i n).2.2 = (takeN p i n).2.2 ∧ ((takeN p i n).2.2 = 0 → docN p i n = takeN p i n)
  | 0, i => ⟨rfl, fun _ => rfl⟩
  | n + 1, i => by
    obtain ⟨h1, h2⟩ := docT_eq p hp i
    unfold docN takeN
    by_cases h0 : (takeE p i).2.2 = 0
    · rw [h2 h0, if_neg (by simp [h0]), if_neg (by simp [h0])]
      obtain ⟨h3, h4⟩ := docN_eq p hp n (takeE p i).2.1
      exact ⟨h3, fun h => by rw [h4 h]⟩
    · rw [if_pos h0, if_pos (by rw [h1]; exact h0)]
      exact ⟨h1, fun h => absurd h h0⟩
def docY (p : List Nat) (f : Nat) (es : List En) (Y : List En × Nat × Nat) : Nat × List En × Nat :=
  if doneE p Y.2.1 Y.2.2 ≠ 0 then (0, [], doneE p Y.2.1 Y.2.2) else (f, es ++ Y.1, 0)
theorem doneE_bad {p : List Nat} {i e : Nat} (h : e ≠ 0) : doneE p i e = e := by unfold doneE; rw [if_neg (by omega)]
theorem docY_bad {p : List Nat} {f i e : Nat} {es l : List En} (h : e ≠ 0) : docY p f es (l, i, e) = (0, [], e) := by
  unfold docY; rw [doneE_bad h, if_pos h]
theorem docY_step {p : List Nat} {f i n : Nat} {es : List En} (h : (docT p i 0).2.2 = 0) : docY p f es (docN p i (n + 1)) = docY p f (es ++ [(docT p i 0).1]) (docN p (docT p i 0).2.1 n) := by
  rw [show docN p i (n + 1) = if (docT p i 0).2.2 ≠ 0 then ([(docT p i 0).1], (docT p i 0).2) else ((docT p i 0).1 :: (docN p (docT p i 0).2.1 n).1, (docN p (docT p i 0).2.1 n).2) from rfl, if_neg (by simp [h])]
  unfold docY; simp
theorem docY_stop {p : List Nat} {f i n : Nat} {es : List En} (h : (docT p i 0).2.2 ≠ 0) : docY p f es (docN p i (n + 1)) = (0, [], (docT p i 0).2.2) := by
  rw [show docN p i (n + 1) = if (docT p i 0).2.2 ≠ 0 then ([(docT p i 0).1], (docT p i 0).2) else ((docT p i 0).1 :: (docN p (docT p i 0).2.1 n).1, (docN p (docT p i 0).2.1 n).2) from rfl, if_pos h]
  exact docY_bad h
/-- A batch, by the document's reader. -/
theorem decB_doc (p : List Nat) (hp : ∀ x ∈ p, x < 256) {f i1 e1 n i2 e2 : Nat} (h1 : rUvar p 0 0 = (f, i1, e1)) (h2 : rUvar p i1 e1 = (n, i2, e2)) :
    (e2 ≠ 0 → decB p = (0, [], e2)) ∧ (e2 = 0 → cntE f n ≠ 0 → decB p = (0, [], cntE f n)) ∧ (e2 = 0 → cntE f n = 0 → decB p = docY p f [] (docN p i2 n)) := by
  unfold decB takeB
  rw [h1]
  simp only
  rw [h2]
  simp only
  refine ⟨fun h => ?_, fun h hc => ?_, fun h hc => ?_⟩
  · simp [h]
  · simp [h, hc]
  · obtain ⟨h3, h4⟩ := docN_eq p hp n i2
    simp only [h, hc, ne_eq, not_true_eq_false, if_false]
    by_cases h0 : (takeN p i2 n).2.2 = 0
    · rw [if_neg (by simp [h0])]
      unfold docY
      rw [h4 h0, h0]
      simp
    · rw [if_pos h0]
      unfold docY
      rw [h3, doneE_bad h0, if_pos h0]
theorem rUvar_zero {p : List Nat} {i e n j x : Nat} (h : rUvar p i e = (n, j, x)) (hx : x ≠ 0) : n = 0 := by
  unfold rUvar at h
  split at h
  · injection h with h1 h2; exact h1.symm
  · split at h
    · injection h with h1 h2; exact h1.symm
    · injection h with h1 h2; injection h2 with h3 h4; exact absurd h4.symm hx
end Go.Proofs.YtckkalmhekfnhaaGreatDoor
namespace Go.Proofs.YtckkalmhekfnhaaGreatDoor
open Go.RowKit Go.BigFrame
set_option linter.unusedVariables false
set_option linter.unusedSimpArgs false

set_option maxRecDepth 100000 in
set_option maxHeartbeats 1000000 in
theorem refDone_any (ao : Option Addr) (c : Nat) (p : List Nat) (i e : Nat) (w : World) :
    Calls Tryz.prog 84 #[rrV (.slice ao p.length c) i e] w fun r w' => r = .returned (.int .i64 (doneE p i e)) ∧ Kept [] w w' := by
  by_cases he : e = 0
  · subst he
    by_cases hi : i < p.length
    · have HV := hide (by simp [doneE, hi] : doneE p i 0 = 3)
      have hi' : (i : Int) < p.length := by omega
      go_enter Tryz.func84, Tryz.ntmps84
      go_wp2
      go_ret
      exact ⟨by rw [unhide HV]; rfl, (Kept.refl [] w).alloc _⟩
    · have HV := hide (by simp [doneE, hi] : doneE p i 0 = 0)
      have hi' : ¬ (i : Int) < p.length := by omega
      go_enter Tryz.func84, Tryz.ntmps84
      go_wp2
      go_ret
      exact ⟨by rw [unhide HV]; rfl, (Kept.refl [] w).alloc _⟩
  · have HV := hide (by simp [doneE, he] : doneE p i e = e)
    have he' : ((e : Int) == 0) = false := by simp; omega
    clear he
    go_enter Tryz.func84, Tryz.ntmps84
    go_wp2
    go_ret
    exact ⟨by rw [unhide HV]; rfl, (Kept.refl [] w).alloc _⟩
end Go.Proofs.YtckkalmhekfnhaaGreatDoor
namespace Go.Proofs.YtckkalmhekfnhaaGreatDoor
open Go.RowKit Go.BigFrame
set_option linter.unusedVariables false
set_option linter.unusedSimpArgs false

theorem results_row_tmp2 {P : Program} {fn : Func} {p q : Tmp} {ty : TypeId} (h : fn.results = #[.cell p ty, .tmp q]) (tmps : Array Value) (w : World) (g : Nat) (t : TypeId) (cs : Array Value) (fr : Nat × Nat) (d : TypeDesc)
    (hp : tmps.getD p undef = .pointer (some ⟨g, 0, none⟩)) (hg : w.heap[g]? = some (.cells cs t fr))
    (hu : P.underlying ty = some d) (hd : (match d with | .struct _ | .array _ _ => true | _ => false) = true) (hi : (P.info? ty).map (·.size) = some cs.size) (v : Value) (hq : tmps.getD q undef = v) :
    (results fn tmps).run P w = .ok (.tuple #[.agg cs, v]) w := by
  have hp' : tmps[p]?.getD undef = .pointer (some ⟨g, 0, none⟩) := by simpa using hp
  have hq' : tmps[q]?.getD undef = v := by simpa using hq
  simp [results, h, hp', hq', asAddr, run_loadVar_row w g t ty cs fr d hg hu hd hi]

end Go.Proofs.YtckkalmhekfnhaaGreatDoor
namespace Go.Proofs.YtckkalmhekfnhaaGreatDoor
open Go.RowKit Go.BigFrame
set_option linter.unusedVariables false
set_option linter.unusedSimpArgs false

/-- DocDecodeBatch's variables: the result, the batch, the reader. -/
structure TB (w W : World) (f : Nat) (vE gv : Value) (i e : Nat) : Prop where
  z : W.heap[w.heap.size]? = some (.cells #[.int .u64 0, .slice none 0 0] 35 (0, 0))
  b : W.heap[w.heap.size + 1]? = some (.cells #[.int .u64 (f : Int), vE] 35 (0, 0))
  r : W.heap[w.heap.size + 1 + 1]? = some (.cells #[gv, .int .i64 (i : Int), .int .i64 (e : Int)] 139 (0, 0))
  kept : Kept [] w W
theorem TB.old {w W W' : World} {f i e : Nat} {vE gv : Value} (h : TB w W f vE gv i e) (q : Kept [] W W') : TB w W' f vE gv i e :=
  ⟨q.heap h.z (by simp), q.heap h.b (by simp), q.heap h.r (by simp), h.kept.trans q (by simp)⟩
theorem TB.setR {w W : World} {f i e : Nat} {vE gv : Value} (h : TB w W f vE gv i e) (gv' : Value) (i' e' : Nat) :
    TB w (((W.setCell ⟨w.heap.size + 1 + 1, 0, none⟩ gv').setCell ⟨w.heap.size + 1 + 1, 1, none⟩ (.int .i64 (i' : Int))).setCell ⟨w.heap.size + 1 + 1, 2, none⟩ (.int .i64 (e' : Int))) f vE gv' i' e' := by
  have q := eput3_kept (Kept.refl [w.heap.size + 1 + 1] W) (w.heap.size + 1 + 1) (Or.inl (by simp)) gv' (.int .i64 (i' : Int)) (.int .i64 (e' : Int))
  exact ⟨q.heap h.z (by simp; omega), q.heap h.b (by simp), eput3_heap h.r _ _ _, eput3_kept h.kept _ (Or.inr (by omega)) _ _ _⟩
theorem TB.setF {w W : World} {f i e : Nat} {vE gv : Value} (h : TB w W f vE gv i e) (f' : Nat) : TB w (W.setCell ⟨w.heap.size + 1, 0, none⟩ (.int .u64 (f' : Int))) f' vE gv i e := by
  have q := (Kept.refl [w.heap.size + 1] W).setCell (p := ⟨w.heap.size + 1, 0, none⟩) (Or.inl (by simp)) (.int .u64 (f' : Int))
  exact ⟨q.heap h.z (by simp), heap_setCell_same W _ 0 _ 35 _ h.b, q.heap h.r (by simp), h.kept.setCell (Or.inr (by show w.heap.size ≤ w.heap.size + 1; omega)) _⟩
theorem TB.setE {w W : World} {f i e : Nat} {vE gv : Value} (h : TB w W f vE gv i e) (v' : Value) : TB w (W.setCell ⟨w.heap.size + 1, 1, none⟩ v') f v' gv i e := by
  have q := (Kept.refl [w.heap.size + 1] W).setCell (p := ⟨w.heap.size + 1, 1, none⟩) (Or.inl (by simp)) v'
  exact ⟨q.heap h.z (by simp), heap_setCell_same W _ 1 _ 35 _ h.b, q.heap h.r (by simp), h.kept.setCell (Or.inr (by show w.heap.size ≤ w.heap.size + 1; omega)) _⟩
theorem TB.start (w : World) (gv : Value) : TB w (((w.alloc (.cells #[.int .u64 0, .slice none 0 0] 35)).alloc (.cells #[.int .u64 0, .slice none 0 0] 35)).alloc (.cells #[gv, .int .i64 0, .int .i64 0] 139)) 0 (.slice none 0 0) gv 0 0 := by
  have h3 := heap_alloc3e w (.cells #[.int .u64 0, .slice none 0 0] 35) (.cells #[.int .u64 0, .slice none 0 0] 35) (.cells #[gv, .int .i64 0, .int .i64 0] 139)
  exact ⟨h3.1, h3.2.1, h3.2.2, (((Kept.refl [] w).alloc _).alloc _).alloc _⟩
theorem docT_le (p : List Nat) (i : Nat) (h : i ≤ p.length) : (docT p i 0).2.1 ≤ p.length := by
  have h1 := rNum_le' (p := p) (i := i) (e := 0) (n := 1) h
  unfold docT docT2
  split
  · exact rBlob_le (rBlob_le h1)
  · exact rBlob_le h1
theorem rUvar_le {p : List Nat} {i e : Nat} (h : i ≤ p.length) : (rUvar p i e).2.1 ≤ p.length := by
  have hf := fuv_le (p.drop i) 0 0
  unfold rUvar
  split
  · exact h
  split
  · exact h
  · simp only [List.length_drop] at hf ⊢; omega

set_option maxRecDepth 100000 in
set_option maxHeartbeats 2000000 in
theorem docDecodeBatch_any (v : Value) (p : List Nat) (w : World) (h : Rd w v p) :
    Calls Tryz.prog 46 #[v] w fun r w' => ∃ bv, r = .returned (.tuple #[.agg #[.int .u64 ((decB p).1 : Int), bv], .int .i64 (decB p).2.2]) ∧ RdN w' bv (decB p).2.1 ∧ Kept [] w w' := by
  have H := hide h
  obtain ⟨a1, n1, c1, hv1, hn1, _, ⟨_, hlen⟩, _⟩ := id h
  subst hv1
  subst hn1
  have HDB := hide (fun (f i1 e1 n i2 e2 : Nat) (h1 : rUvar p 0 0 = (f, i1, e1)) (h2 : rUvar p i1 e1 = (n, i2, e2)) => decB_doc p h.byte h1 h2)
  clear h
  obtain ⟨D, hD⟩ : ∃ D, decB p = D := ⟨_, rfl⟩
  rw [hD] at HDB ⊢
  clear hD
  go_enter Tryz.func46, Tryz.ntmps46
  have HT0 := hide (TB.start w (.slice a1 p.length c1))
  go_wp2_with fail
  refine Calls.mono (takeUvar_any a1 c1 p 0 0 _ (by exact (unhide H).old (unhide HT0).kept (by simp)) (by omega)) ?_
  rintro r w1 ⟨rfl, k1⟩
  have hli1 := rUvar_le (p := p) (i := 0) (e := 0) (by omega)
  have hfl := rUvar_lt p 0 0
  obtain ⟨x, hx⟩ : ∃ x, rUvar p 0 0 = x := ⟨_, rfl⟩
  have HX1 := hide hx
  rw [hx] at hli1 hfl ⊢
  clear hx
  obtain ⟨f, i1, e1⟩ := x
  simp only at hli1 hfl ⊢
  have HT1 := hide ((unhide HT0).old k1)
  clear k1 HT0
  obtain ⟨⟨s0, s1, s2⟩, t0, t1, t2⟩ := three (unhide HT1).r
  have hc0 : w1.cell? ⟨w.heap.size + 1, 0, none⟩ = some (.int .u64 0) := by rw [cell_of_row _ _ _ _ _ _ (unhide HT1).b]; rfl
  have hf0 : w1.frozen? ⟨w.heap.size + 1, 0, none⟩ = false := frozen_of_row _ _ _ _ _ (unhide HT1).b
  have HTA := hide (((unhide HT1).setF f).setR (.slice a1 p.length c1) i1 e1)
  go_wp2_with fail
  clear s0 s1 s2 t0 t1 t2 hc0 hf0 HT1
  obtain ⟨WA, hWA⟩ : ∃ W, ((((w1.setCell ⟨w.heap.size + 1, 0, none⟩ (.int .u64 (f : Int))).setCell ⟨w.heap.size + 1 + 1, 0, none⟩ (.slice a1 p.length c1)).setCell ⟨w.heap.size + 1 + 1, 1, none⟩ (.int .i64 (i1 : Int))).setCell ⟨w.heap.size + 1 + 1, 2, none⟩ (.int .i64 (e1 : Int))) = W := ⟨_, rfl⟩
  rw [hWA] at HTA ⊢
  clear hWA
  refine Calls.mono (takeUvar_any a1 c1 p i1 e1 WA ((unhide H).old (unhide HTA).kept (by simp)) hli1) ?_
  rintro r w2 ⟨rfl, k2⟩
  have hli2 := rUvar_le (e := e1) hli1
  have hcl := rUvar_lt p i1 e1
  obtain ⟨x, hx⟩ : ∃ x, rUvar p i1 e1 = x := ⟨_, rfl⟩
  have HX2 := hide hx
  rw [hx] at hli2 hcl ⊢
  clear hx
  obtain ⟨n, i2, e2⟩ := x
  simp only at hli2 hcl ⊢
  have HDD := hide (unhide HDB f i1 e1 n i2 e2 (unhide HX1) (unhide HX2))
  have HE0 := hide (fun he : e2 ≠ 0 => rUvar_zero (unhide HX2) he)
  clear HDB HX1 HX2
  have HT2 := hide ((unhide HTA).old k2)
  clear k2 HTA
  obtain ⟨⟨s0, s1, s2⟩, t0, t1, t2⟩ := three (unhide HT2).r
  have hc0 : w2.cell? ⟨w.heap.size + 1, 0, none⟩ = some (.int .u64 (f : Int)) := by rw [cell_of_row _ _ _ _ _ _ (unhide HT2).b]; rfl
  have HTB := hide ((unhide HT2).setR (.slice a1 p.length c1) i2 e2)
  by_cases hA : 64 < n
  · have hA' : (64 : Int) < n := by omega
    go_wp2_with fail
    clear s0 s1 s2 t0 t1 t2
    obtain ⟨WB, hWB⟩ : ∃ W, (((w2.setCell ⟨w.heap.size + 1 + 1, 0, none⟩ (.slice a1 p.length c1)).setCell ⟨w.heap.size + 1 + 1, 1, none⟩ (.int .i64 (i2 : Int))).setCell ⟨w.heap.size + 1 + 1, 2, none⟩ (.int .i64 (e2 : Int))) = W := ⟨_, rfl⟩
    rw [hWB] at HTB ⊢
    clear hWB
    refine Calls.mono (failed_any a1 p.length c1 i2 e2 2 WB) ?_
    rintro r w3 ⟨rfl, k3⟩
    have HDE := hide (show D = (0, [], if e2 = 0 then 2 else e2) from by
      by_cases h0 : e2 = 0
      · rw [if_pos h0]
        have h9 := (unhide HDD).2.1 h0
        have hc : cntE f n = 2 := by unfold cntE; rw [if_pos hA]
        rw [hc] at h9
        exact h9 (by decide)
      · rw [if_neg h0]; exact (unhide HDD).1 h0)
    have hx0 : (if e2 = 0 then 2 else e2) ≠ 0 := by split <;> omega
    obtain ⟨x, hx⟩ : ∃ x, (if e2 = 0 then 2 else e2) = x := ⟨_, rfl⟩
    rw [hx] at HDE hx0 ⊢
    clear hx
    have HT3 := hide ((unhide HTB).old k3)
    clear k3
    obtain ⟨⟨s0, s1, s2⟩, t0, t1, t2⟩ := three (unhide HT3).r
    have HT4 := hide ((unhide HT3).setR (.slice a1 p.length c1) i2 x)
    go_wp2_with fail
    clear s0 s1 s2 t0 t1 t2
    obtain ⟨WX, hWX⟩ : ∃ W, (((w3.setCell ⟨w.heap.size + 1 + 1, 0, none⟩ (.slice a1 p.length c1)).setCell ⟨w.heap.size + 1 + 1, 1, none⟩ (.int .i64 (i2 : Int))).setCell ⟨w.heap.size + 1 + 1, 2, none⟩ (.int .i64 (x : Int))) = W := ⟨_, rfl⟩
    rw [hWX] at HT4 ⊢
    clear hWX
    go_loopw [7] (fun t wr => t = .int .i64 0 ∧ wr = WX) (fun _ _ => 0)
    case atStart => exact ⟨rfl, rfl⟩
    case round =>
      obtain ⟨rfl, rfl⟩ := hrel
      obtain ⟨⟨s0, s1, s2⟩, t0, t1, t2⟩ := three (unhide HT4).r
      have hx0' : ((x : Int) == 0) = false := by rw [beq_eq_false_iff_ne]; omega
      have hx1 : ((x : Int) != 0) = true := by rw [bne_iff_ne]; omega
      go_wp2_with fail
      refine Calls.mono (refDone_any a1 c1 p i2 x wr) ?_
      rintro r w5 ⟨rfl, k5⟩
      rw [doneE_bad hx0]
      have HZ5 := hide (k5.heap (unhide HT4).z (by simp))
      have HK5 := hide ((unhide HT4).kept.trans k5 (by simp))
      clear k5
      go_wp2_with (refine wpList_store_row rfl 35 _ _ rfl w.heap.size #[.int .u64 0, .slice none 0 0] rfl rfl _ #[.int .u64 0, .slice none 0 0] (unhide HZ5) Tryz.size_batch rfl (by simp [Value.oneCell']) ?_)
      refine bodyPost_ret (v := .tuple #[.agg #[.int .u64 0, .slice none 0 0], .int .i64 x]) ?_ rfl ⟨.slice none 0 0, by rw [unhide HDE]; rfl, by rw [unhide HDE]; exact RdN.nil _, (unhide HK5).setRowE (Or.inr (Nat.le_refl _)) _⟩
      exact results_row_tmp2 rfl _ _ w.heap.size _ #[.int .u64 0, .slice none 0 0] (0, 0) _ rfl (setRow_heap _ _ _ _ _ _ (unhide HZ5)) Tryz.underlying35 rfl Tryz.size_batch _ rfl
  have hA' : ¬ (64 : Int) < n := by omega
  have hcv : IntKind.i64.wrap (n : Int) = n := by simp [IntKind.wrap, IntKind.signed, IntKind.bits]; omega
  by_cases hB : n = 0
  · have hB' : ((n : Int) == 0) = true := by rw [hB]; rfl
    have hlt : ¬ (0 : Int) < n := by omega
    go_wp2_with fail
    clear s0 s1 s2 t0 t1 t2
    obtain ⟨WB, hWB⟩ : ∃ W, (((w2.setCell ⟨w.heap.size + 1 + 1, 0, none⟩ (.slice a1 p.length c1)).setCell ⟨w.heap.size + 1 + 1, 1, none⟩ (.int .i64 (i2 : Int))).setCell ⟨w.heap.size + 1 + 1, 2, none⟩ (.int .i64 (e2 : Int))) = W := ⟨_, rfl⟩
    rw [hWB] at HTB ⊢
    clear hWB
    refine Calls.mono (failed_any a1 p.length c1 i2 e2 3 WB) ?_
    rintro r w3 ⟨rfl, k3⟩
    have HDE := hide (show D = (0, [], if e2 = 0 then 3 else e2) from by
      by_cases h0 : e2 = 0
      · rw [if_pos h0]
        have h9 := (unhide HDD).2.1 h0
        have hc : cntE f n = 3 := by unfold cntE; rw [if_neg hA, if_pos (Or.inl hB)]
        rw [hc] at h9
        exact h9 (by decide)
      · rw [if_neg h0]; exact (unhide HDD).1 h0)
    have hx0 : (if e2 = 0 then 3 else e2) ≠ 0 := by split <;> omega
    obtain ⟨x, hx⟩ : ∃ x, (if e2 = 0 then 3 else e2) = x := ⟨_, rfl⟩
    rw [hx] at HDE hx0 ⊢
    clear hx
    have HT3 := hide ((unhide HTB).old k3)
    clear k3
    obtain ⟨⟨s0, s1, s2⟩, t0, t1, t2⟩ := three (unhide HT3).r
    have HT4 := hide ((unhide HT3).setR (.slice a1 p.length c1) i2 x)
    go_wp2_with fail
    clear s0 s1 s2 t0 t1 t2
    obtain ⟨WX, hWX⟩ : ∃ W, (((w3.setCell ⟨w.heap.size + 1 + 1, 0, none⟩ (.slice a1 p.length c1)).setCell ⟨w.heap.size + 1 + 1, 1, none⟩ (.int .i64 (i2 : Int))).setCell ⟨w.heap.size + 1 + 1, 2, none⟩ (.int .i64 (x : Int))) = W := ⟨_, rfl⟩
    rw [hWX] at HT4 ⊢
    clear hWX
    go_loopw [7] (fun t wr => t = .int .i64 0 ∧ wr = WX) (fun _ _ => 0)
    case atStart => exact ⟨rfl, rfl⟩
    case round =>
      obtain ⟨rfl, rfl⟩ := hrel
      obtain ⟨⟨s0, s1, s2⟩, t0, t1, t2⟩ := three (unhide HT4).r
      have hx0' : ((x : Int) == 0) = false := by rw [beq_eq_false_iff_ne]; omega
      have hx1 : ((x : Int) != 0) = true := by rw [bne_iff_ne]; omega
      go_wp2_with fail
      refine Calls.mono (refDone_any a1 c1 p i2 x wr) ?_
      rintro r w5 ⟨rfl, k5⟩
      rw [doneE_bad hx0]
      have HZ5 := hide (k5.heap (unhide HT4).z (by simp))
      have HK5 := hide ((unhide HT4).kept.trans k5 (by simp))
      clear k5
      go_wp2_with (refine wpList_store_row rfl 35 _ _ rfl w.heap.size #[.int .u64 0, .slice none 0 0] rfl rfl _ #[.int .u64 0, .slice none 0 0] (unhide HZ5) Tryz.size_batch rfl (by simp [Value.oneCell']) ?_)
      refine bodyPost_ret (v := .tuple #[.agg #[.int .u64 0, .slice none 0 0], .int .i64 x]) ?_ rfl ⟨.slice none 0 0, by rw [unhide HDE]; rfl, by rw [unhide HDE]; exact RdN.nil _, (unhide HK5).setRowE (Or.inr (Nat.le_refl _)) _⟩
      exact results_row_tmp2 rfl _ _ w.heap.size _ #[.int .u64 0, .slice none 0 0] (0, 0) _ rfl (setRow_heap _ _ _ _ _ _ (unhide HZ5)) Tryz.underlying35 rfl Tryz.size_batch _ rfl
  have hB' : ((n : Int) == 0) = false := by rw [beq_eq_false_iff_ne]; omega
  have h0e : e2 = 0 := by
    rcases Nat.eq_zero_or_pos e2 with h | h
    · exact h
    · exact absurd (unhide HE0 (by omega)) hB
  have H0E := hide h0e
  clear h0e
  go_wp2_with fail
  clear s0 s1 s2 t0 t1 t2
  refine Calls.mono (fits5_any f n _ hfl (by omega)) ?_
  rintro r wz ⟨rfl, rfl⟩
  by_cases hF : ¬ f + n < 18446744073709551616
  · rw [decide_eq_false hF]
    have hlt : (0 : Int) < n := by omega
    have hTR := hide (three (unhide HTB).r)
    obtain ⟨⟨s0, s1, s2⟩, t0, t1, t2⟩ := unhide hTR
    go_wp2_with fail
    clear s0 s1 s2 t0 t1 t2
    obtain ⟨WB, hWB⟩ : ∃ W, (((w2.setCell ⟨w.heap.size + 1 + 1, 0, none⟩ (.slice a1 p.length c1)).setCell ⟨w.heap.size + 1 + 1, 1, none⟩ (.int .i64 (i2 : Int))).setCell ⟨w.heap.size + 1 + 1, 2, none⟩ (.int .i64 (e2 : Int))) = W := ⟨_, rfl⟩
    rw [hWB] at HTB ⊢
    clear hWB
    refine Calls.mono (failed_any a1 p.length c1 i2 e2 3 WB) ?_
    rintro r w3 ⟨rfl, k3⟩
    have HDE := hide (show D = (0, [], if e2 = 0 then 3 else e2) from by
      by_cases h0 : e2 = 0
      · rw [if_pos h0]
        have h9 := (unhide HDD).2.1 h0
        have hc : cntE f n = 3 := by unfold cntE; rw [if_neg hA, if_pos (Or.inr (by omega))]
        rw [hc] at h9
        exact h9 (by decide)
      · rw [if_neg h0]; exact (unhide HDD).1 h0)
    have hx0 : (if e2 = 0 then 3 else e2) ≠ 0 := by split <;> omega
    obtain ⟨x, hx⟩ : ∃ x, (if e2 = 0 then 3 else e2) = x := ⟨_, rfl⟩
    rw [hx] at HDE hx0 ⊢
    clear hx
    have HT3 := hide ((unhide HTB).old k3)
    clear k3
    obtain ⟨⟨s0, s1, s2⟩, t0, t1, t2⟩ := three (unhide HT3).r
    have HT4 := hide ((unhide HT3).setR (.slice a1 p.length c1) i2 x)
    go_wp2_with fail
    clear s0 s1 s2 t0 t1 t2
    obtain ⟨WX, hWX⟩ : ∃ W, (((w3.setCell ⟨w.heap.size + 1 + 1, 0, none⟩ (.slice a1 p.length c1)).setCell ⟨w.heap.size + 1 + 1, 1, none⟩ (.int .i64 (i2 : Int))).setCell ⟨w.heap.size + 1 + 1, 2, none⟩ (.int .i64 (x : Int))) = W := ⟨_, rfl⟩
    rw [hWX] at HT4 ⊢
    clear hWX
    go_loopw [7] (fun t wr => t = .int .i64 0 ∧ wr = WX) (fun _ _ => 0)
    case atStart => exact ⟨rfl, rfl⟩
    case round =>
      obtain ⟨rfl, rfl⟩ := hrel
      obtain ⟨⟨s0, s1, s2⟩, t0, t1, t2⟩ := three (unhide HT4).r
      have hx0' : ((x : Int) == 0) = false := by rw [beq_eq_false_iff_ne]; omega
      have hx1 : ((x : Int) != 0) = true := by rw [bne_iff_ne]; omega
      go_wp2_with fail
      refine Calls.mono (refDone_any a1 c1 p i2 x wr) ?_
      rintro r w5 ⟨rfl, k5⟩
      rw [doneE_bad hx0]
      have HZ5 := hide (k5.heap (unhide HT4).z (by simp))
      have HK5 := hide ((unhide HT4).kept.trans k5 (by simp))
      clear k5
      go_wp2_with (refine wpList_store_row rfl 35 _ _ rfl w.heap.size #[.int .u64 0, .slice none 0 0] rfl rfl _ #[.int .u64 0, .slice none 0 0] (unhide HZ5) Tryz.size_batch rfl (by simp [Value.oneCell']) ?_)
      refine bodyPost_ret (v := .tuple #[.agg #[.int .u64 0, .slice none 0 0], .int .i64 x]) ?_ rfl ⟨.slice none 0 0, by rw [unhide HDE]; rfl, by rw [unhide HDE]; exact RdN.nil _, (unhide HK5).setRowE (Or.inr (Nat.le_refl _)) _⟩
      exact results_row_tmp2 rfl _ _ w.heap.size _ #[.int .u64 0, .slice none 0 0] (0, 0) _ rfl (setRow_heap _ _ _ _ _ _ (unhide HZ5)) Tryz.underlying35 rfl Tryz.size_batch _ rfl
  have hF' : f + n < 18446744073709551616 := by omega
  rw [decide_eq_true hF']
  have hcn : cntE f n = 0 := by unfold cntE; rw [if_neg hA, if_neg (by omega)]
  have HDY := hide ((unhide HDD).2.2 (unhide H0E) hcn)
  obtain ⟨WB, hWB⟩ : ∃ W, (((w2.setCell ⟨w.heap.size + 1 + 1, 0, none⟩ (.slice a1 p.length c1)).setCell ⟨w.heap.size + 1 + 1, 1, none⟩ (.int .i64 (i2 : Int))).setCell ⟨w.heap.size + 1 + 1, 2, none⟩ (.int .i64 (e2 : Int))) = W := ⟨_, rfl⟩
  rw [hWB] at HTB ⊢
  clear hWB hF hcn HDD HE0
  go_wp2_with fail
  have HW6 := hide (Kept.refl [w.heap.size + 1, w.heap.size + 1 + 1] WB)
  go_loopw [7] (fun t7 wr => ∃ (j ij x : Nat) (vE : Value) (ts : List (En × Value × Value)), j ≤ n ∧ t7 = .int .i64 j ∧ ij ≤ p.length ∧ Hid (ts.length = j) ∧ Hid (x ≠ 0 → D = (0, [], x)) ∧ Hid (x = 0 → D = docY p f (ts.map (·.1)) (docN p ij (n - j))) ∧ Hid (TB w wr f vE (.slice a1 p.length c1) ij x) ∧ Hid (OwnN [w.heap.size + 1, w.heap.size + 1 + 1] WB wr vE ts)) (fun t _ => n - (intOf t).toNat)
  case atStart => exact ⟨0, i2, e2, .slice none 0 0, [], Nat.zero_le _, rfl, hli2, hide rfl, hide (fun h => absurd (unhide H0E) h), hide (fun _ => unhide HDY), HTB, hide (OwnN.start (unhide HW6))⟩
  case round =>
    obtain ⟨j, ij, x, vE, ts, hj, rfl, hij, HJ, HX1, HX0, HT, HO⟩ := hrel
    obtain ⟨⟨s0, s1, s2⟩, t0, t1, t2⟩ := three (unhide HT).r
    by_cases hgo : j < n ∧ x = 0
    · obtain ⟨hlt, hx0⟩ := hgo
      subst hx0
      have HX2 := hide (unhide HX0 rfl)
      have hlt' : (j : Int) < n := by omega
      have kal := (Kept.refl [] wr).alloc (.cells #[.int .u8 0, .slice none 0 0, .slice none 0 0] 71)
      have HTa := hide ((unhide HT).old kal)
      have HOa := hide ((unhide HO).pass (M := []) kal (by simp) (by simp) (by simp))
      have HEa := hide (heap_alloc_new wr (.cells #[.int .u8 0, .slice none 0 0, .slice none 0 0] 71))
      have HSa := hide (show (wr.alloc (.cells #[.int .u8 0, .slice none 0 0, .slice none 0 0] 71)).heap.size = wr.heap.size + 1 by simp)
      obtain ⟨⟨d0, d1, d2⟩, f0, f1, f2⟩ := three (unhide HTa).r
      clear kal
      go_wp2_with fail
      clear d0 d1 d2 f0 f1 f2 s0 s1 s2 t0 t1 t2
      obtain ⟨Wa, hWa⟩ : ∃ W, wr.alloc (.cells #[.int .u8 0, .slice none 0 0, .slice none 0 0] 71) = W := ⟨_, rfl⟩
      rw [hWa] at HTa HOa HEa HSa ⊢
      clear hWa
      refine Calls.mono (refTake_any a1 c1 p ij 0 Wa ((unhide H).old (unhide HTa).kept (by simp)) hij) ?_
      rintro r w4 ⟨kv, vv, rfl, ok4, k4, b4⟩
      obtain ⟨m, hm⟩ : ∃ m, n - j = m + 1 := ⟨n - j - 1, by omega⟩
      have hmm : n - (j + 1) = m := by omega
      have HST := hide (fun he : (docT p ij 0).2.2 ≠ 0 => by have h9 := unhide HX2; rw [hm, docY_stop he] at h9; exact h9 : (docT p ij 0).2.2 ≠ 0 → D = (0, [], (docT p ij 0).2.2))
      have HSP := hide (fun he : (docT p ij 0).2.2 = 0 => by have h9 := unhide HX2; rw [hm, docY_step he, ← hmm] at h9; exact h9 : (docT p ij 0).2.2 = 0 → D = docY p f (ts.map (·.1) ++ [(docT p ij 0).1]) (docN p (docT p ij 0).2.1 (n - (j + 1))))
      have hle := docT_le p ij hij
      obtain ⟨X, hX⟩ : ∃ X, docT p ij 0 = X := ⟨_, rfl⟩
      rw [hX] at HST HSP ok4 hle ⊢
      clear hX hm hmm HX0 HX1 HX2
      obtain ⟨en, i3, e3⟩ := X
      simp only at HST HSP ok4 hle ⊢
      unfold enC
      have HOK4 := hide ok4
      obtain ⟨a8, m8, c8, hu8, _⟩ := id ok4.key
      subst hu8
      obtain ⟨a9, m9, c9, hu9, _⟩ := id ok4.val
      subst hu9
      have HNW := hide b4
      have HT4 := hide ((unhide HTa).old k4)
      have HO4 := hide ((unhide HOa).pass (M := []) k4 (by simp) (by simp) (by simp))
      have HE4 := hide (k4.heap (unhide HEa) (by simp))
      clear ok4 k4 b4 HTa HOa HEa
      have hEs : w.heap.size + 1 + 1 < wr.heap.size := lt_of_block (unhide HT).r
      have hBs : w.heap.size + 1 + 1 < WB.heap.size := lt_of_block (unhide HTB).r
      have hWs : WB.heap.size ≤ wr.heap.size := (unhide HO).kept.size
      have HN1 := hide (fun e' => Nat.lt_irrefl _ ((unhide HO).own.lt wr.heap.size e').2 : vE.ownBlock ≠ some wr.heap.size)
      have HN2 := hide (fun t ht => ⟨fun hb => Nat.lt_irrefl _ (((unhide HO).ok t ht).key.ltN _ hb), fun hb => Nat.lt_irrefl _ (((unhide HO).ok t ht).val.ltN _ hb)⟩ : ∀ t ∈ ts, wr.heap.size ∉ nblk t.2.1 t.1.key ∧ wr.heap.size ∉ nblk t.2.2 t.1.val)
      have k5 := (Kept.refl [wr.heap.size] w4).setRowE (g := wr.heap.size) (Or.inl (by simp)) #[.int .u8 (en.k : Int), .slice a8 m8 c8, .slice a9 m9 c9]
      have HT5 := hide (⟨k5.heap (unhide HT4).z (by simp; omega), k5.heap (unhide HT4).b (by simp; omega), k5.heap (unhide HT4).r (by simp; omega), (unhide HT4).kept.trans k5 (by simp; omega)⟩ : TB w (w4.setRow wr.heap.size #[.int .u8 (en.k : Int), .slice a8 m8 c8, .slice a9 m9 c9]) f vE (.slice a1 p.length c1) ij 0)
      have HE5 := hide (setRow_heap w4 wr.heap.size _ #[.int .u8 (en.k : Int), .slice a8 m8 c8, .slice a9 m9 c9] 71 (0, 0) (unhide HE4))
      have HO5 := hide ((unhide HO4).pass k5 (by simp; omega) (fun x hx => by rw [List.mem_singleton] at hx; subst hx; exact unhide HN1) (fun x hx t ht => by rw [List.mem_singleton] at hx; subst hx; exact unhide HN2 t ht))
      have k6 := (Kept.refl [w.heap.size + 1 + 1] (w4.setRow wr.heap.size #[.int .u8 (en.k : Int), .slice a8 m8 c8, .slice a9 m9 c9])).setRowE (g := w.heap.size + 1 + 1) (Or.inl (by simp)) #[.slice a1 p.length c1, .int .i64 (i3 : Int), .int .i64 (e3 : Int)]
      have HT6 := hide (⟨k6.heap (unhide HT5).z (by simp; omega), k6.heap (unhide HT5).b (by simp), setRow_heap _ _ _ _ _ _ (unhide HT5).r, (unhide HT5).kept.trans k6 (by simp; omega)⟩ : TB w ((w4.setRow wr.heap.size #[.int .u8 (en.k : Int), .slice a8 m8 c8, .slice a9 m9 c9]).setRow (w.heap.size + 1 + 1) #[.slice a1 p.length c1, .int .i64 (i3 : Int), .int .i64 (e3 : Int)]) f vE (.slice a1 p.length c1) i3 e3)
      have HE6 := hide (k6.heap (unhide HE5) (by simp; omega))
      have HO6 := hide ((unhide HO5).pass k6 (by simp) (fun x hx e' => by rw [List.mem_singleton] at hx; subst hx; have h9 := ((unhide HO5).own.lt _ e').1; omega) (fun x hx t ht => by rw [List.mem_singleton] at hx; subst hx; exact ⟨fun hb => by have h9 := ((unhide HO5).apart t ht _ (Or.inl hb)).2; omega, fun hb => by have h9 := ((unhide HO5).apart t ht _ (Or.inr hb)).2; omega⟩))
      have HOK6 := hide (⟨(unhide HOK4).k, ((unhide HOK4).key.kept k5 (fun x hx => by have h9 := unhide HNW x (Or.inl hx); have h8 := unhide HSa; simp; omega)).kept k6 (fun x hx => by have h9 := unhide HNW x (Or.inl hx); have h8 := unhide HSa; simp; omega), ((unhide HOK4).val.kept k5 (fun x hx => by have h9 := unhide HNW x (Or.inr hx); have h8 := unhide HSa; simp; omega)).kept k6 (fun x hx => by have h9 := unhide HNW x (Or.inr hx); have h8 := unhide HSa; simp; omega)⟩ : OkE ((w4.setRow wr.heap.size #[.int .u8 (en.k : Int), .slice a8 m8 c8, .slice a9 m9 c9]).setRow (w.heap.size + 1 + 1) #[.slice a1 p.length c1, .int .i64 (i3 : Int), .int .i64 (e3 : Int)]) en (.slice a8 m8 c8) (.slice a9 m9 c9))
      clear k5 k6
      go_wp2_with (first
        | (refine wpList_store_row rfl 71 _ _ rfl wr.heap.size #[.int .u8 (en.k : Int), .slice a8 m8 c8, .slice a9 m9 c9] rfl rfl _ #[.int .u8 0, .slice none 0 0, .slice none 0 0] (unhide HE4) Tryz.size_entry rfl (row3_one rfl rfl rfl) ?_)
        | (refine wpList_store_row rfl 139 _ _ rfl (w.heap.size + 1 + 1) #[.slice a1 p.length c1, .int .i64 (i3 : Int), .int .i64 (e3 : Int)] rfl rfl _ #[.slice a1 p.length c1, .int .i64 (ij : Int), .int .i64 0] (unhide HT5).r Tryz.size_rr rfl (row3_one rfl rfl rfl) ?_; obtain ⟨WC, hWC⟩ : ∃ W, (w4.setRow wr.heap.size #[.int .u8 (en.k : Int), .slice a8 m8 c8, .slice a9 m9 c9]).setRow (w.heap.size + 1 + 1) #[.slice a1 p.length c1, .int .i64 (i3 : Int), .int .i64 (e3 : Int)] = W := ⟨_, rfl⟩; rw [hWC]; rw [hWC] at HT6 HE6 HO6 HOK6; clear hWC HT5 HE5 HO5; obtain ⟨⟨d0, d1, d2⟩, f0, f1, f2⟩ := three (unhide HE6); have v1 := cell_of_row _ _ 1 _ _ _ (unhide HT6).b; have HO7 := hide ((unhide HO6).pass (M := []) ((Kept.refl [] WC).alloc (.cells #[.int .u8 (en.k : Int), .slice a8 m8 c8, .slice a9 m9 c9] 71)) (by simp) (by simp) (by simp)); have HB7 := hide (unhide HO7).kept.size; have HV7 := hide (((Kept.refl [] WC).alloc (.cells #[.int .u8 (en.k : Int), .slice a8 m8 c8, .slice a9 m9 c9] 71)).heap (unhide HT6).b (by simp)))
        | (at_builtin; refine wpList_pushN rfl _ _ rfl rfl _ WB.heap.size vE ts en (.slice a8 m8 c8) (.slice a9 m9 c9) WC.heap.size (unhide HO7).own (heap_alloc_new _ _) rfl rfl (by have := unhide HJ; omega) (unhide HB7) rfl rfl ?_; intro g cap2 w8 HO8 HG8 HA8; have k8 := (Kept.refl vE.ownBlock.toList (WC.alloc (.cells #[.int .u8 (en.k : Int), .slice a8 m8 c8, .slice a9 m9 c9] 71))).grown (unhide HG8) (by intro k hk; left; simp [hk]); have HNO := hide (fun (y : Nat) (hy : y < WB.heap.size) (hm9 : y ∈ vE.ownBlock.toList) => by have h9 := ((unhide HO7).own.lt y (by simpa using hm9)).1; omega : ∀ y, y < WB.heap.size → y ∉ vE.ownBlock.toList); have HT8 := hide (⟨k8.heap ((unhide HT6).old ((Kept.refl [] WC).alloc _)).z (unhide HNO _ (by omega)), k8.heap ((unhide HT6).old ((Kept.refl [] WC).alloc _)).b (unhide HNO _ (by omega)), k8.heap ((unhide HT6).old ((Kept.refl [] WC).alloc _)).r (unhide HNO _ (by omega)), ((unhide HT6).kept.alloc _).trans k8 (fun x hx => by have h9 := ((unhide HO7).own.lt x (by simpa using hx)).1; omega)⟩ : TB w w8 f vE (.slice a1 p.length c1) i3 e3); clear k8; have v8 := cell_of_row _ _ 1 _ _ _ (unhide HT8).b; have z8 := frozen_of_row _ _ 1 _ _ (unhide HT8).b))
      refine ⟨⟨j + 1, i3, e3, .slice (some ⟨g, 0, none⟩) (ts.length + 1) cap2, ts ++ [(en, .slice a8 m8 c8, .slice a9 m9 c9)], by omega, by go_num, hle, hide (by rw [List.length_append, unhide HJ]; rfl), HST, hide (fun h => by rw [List.map_append]; exact unhide HSP h), hide ((unhide HT8).setE _), hide ?_⟩, ?_⟩
      · have o8 := (unhide HO7).push ((unhide HOK6).old ((Kept.refl [] WC).alloc _)) (fun b' hb' => by
          have h9 : Wa.heap.size ≤ b' := by
            rcases hb' with hb' | hb'
            · exact unhide HNW b' (Or.inl (mem_nblk hb').1)
            · exact unhide HNW b' (Or.inr (mem_nblk hb').1)
          have h8 := unhide HSa
          exact ⟨fun e' => by have h7 := ((unhide HO).own.lt b' e').2; omega, by omega⟩) (unhide HO8) (unhide HG8) (unhide HA8)
        refine o8.pass ((Kept.refl [w.heap.size + 1] w8).setCell (p := ⟨w.heap.size + 1, 1, none⟩) (Or.inl (by simp)) _) (by simp) (fun x hx e' => ?_) (fun x hx t ht => ⟨fun hb' => ?_, fun hb' => ?_⟩)
        · have h9 := (o8.own.lt x e').1; rw [List.mem_singleton] at hx; omega
        · have h9 := (o8.apart t ht x (Or.inl hb')).2; rw [List.mem_singleton] at hx; omega
        · have h9 := (o8.apart t ht x (Or.inr hb')).2; rw [List.mem_singleton] at hx; omega
      · simp [intOf]; omega
    · have HDF := hide (show D = if doneE p ij x ≠ 0 then (0, [], doneE p ij x) else (f, ts.map (·.1), 0) from by
        by_cases hx0 : x = 0
        · have h9 := unhide HX0 hx0
          have hjn : n - j = 0 := by omega
          rw [hjn, show docN p ij 0 = ([], ij, 0) from rfl] at h9
          rw [h9, hx0]
          unfold docY
          simp
        · rw [doneE_bad hx0, if_pos hx0]; exact unhide HX1 hx0)
      obtain ⟨aE, mE, cE, hvE⟩ : ∃ aE mE cE, vE = .slice aE mE cE := by
        rcases (unhide HO).own.2 with ⟨rfl, _⟩ | ⟨g, cap, cur, rfl, _⟩
        · exact ⟨_, _, _, rfl⟩
        · exact ⟨_, _, _, rfl⟩
      subst hvE
      have hBs : w.heap.size + 1 + 1 < WB.heap.size := lt_of_block (unhide HTB).r
      have hor : (j < n ∧ x ≠ 0) ∨ ¬ j < n := by omega
      clear HX0 HX1
      rcases hor with ⟨h1, h2⟩ | h1
      · have h1' : (j : Int) < n := by omega
        have h2' : ((x : Int) == 0) = false := by rw [beq_eq_false_iff_ne]; omega
        clear h1 h2 hgo
        go_wp2_with fail
        refine Calls.mono (refDone_any a1 c1 p ij x wr) ?_
        rintro r w5 ⟨rfl, k5⟩
        obtain ⟨fE, hfE⟩ : ∃ fE, doneE p ij x = fE := ⟨_, rfl⟩
        rw [hfE] at HDF ⊢
        clear hfE
        have HT5 := hide ((unhide HT).old k5)
        have HO5 := hide ((unhide HO).pass (M := []) k5 (by simp) (by simp) (by simp))
        clear k5 s0 s1 s2 t0 t1 t2
        by_cases h0 : fE = 0
        · subst h0
          have HE := hide (by have h9 := unhide HDF; rw [if_neg (by simp)] at h9; exact h9 : D = (f, ts.map (·.1), 0))
          have krow := (Kept.refl [w.heap.size] w5).setRowE (g := w.heap.size) (Or.inl (by simp)) #[.int .u64 (f : Int), .slice aE mE cE]
          have HOR := hide (((unhide HO5).mono (M := [w.heap.size + 1, w.heap.size + 1 + 1, w.heap.size]) (by intro x hx; simp at hx; rcases hx with rfl | rfl <;> simp)).pass krow (by simp) (fun x hx e' => by have h9 := ((unhide HO5).own.lt x e').1; rw [List.mem_singleton] at hx; omega) (fun x hx t ht => ⟨fun hb' => by have h9 := ((unhide HO5).apart t ht x (Or.inl hb')).2; rw [List.mem_singleton] at hx; omega, fun hb' => by have h9 := ((unhide HO5).apart t ht x (Or.inr hb')).2; rw [List.mem_singleton] at hx; omega⟩))
          clear krow
          go_wp2_with (first
            | (refine wpList_load_row rfl 35 _ rfl (w.heap.size + 1) rfl _ #[.int .u64 (f : Int), .slice aE mE cE] (0, 0) _ (unhide HT5).b Tryz.underlying35 rfl Tryz.size_batch ?_)
            | (refine wpList_store_row rfl 35 _ _ rfl w.heap.size #[.int .u64 (f : Int), .slice aE mE cE] rfl rfl _ #[.int .u64 0, .slice none 0 0] (unhide HT5).z Tryz.size_batch rfl (by simp [Value.oneCell']) ?_))
          refine bodyPost_ret (v := .tuple #[.agg #[.int .u64 (f : Int), .slice aE mE cE], .int .i64 0]) ?_ rfl ⟨.slice aE mE cE, by rw [unhide HE]; rfl, by rw [unhide HE]; exact (unhide HOR).rdN, (unhide HT5).kept.setRowE (Or.inr (Nat.le_refl _)) _⟩
          exact results_row_tmp2 rfl _ _ w.heap.size _ #[.int .u64 (f : Int), .slice aE mE cE] (0, 0) _ rfl (setRow_heap _ _ _ _ _ _ (unhide HT5).z) Tryz.underlying35 rfl Tryz.size_batch _ rfl
        · have HE := hide (by have h9 := unhide HDF; rw [if_pos h0] at h9; exact h9 : D = (0, [], fE))
          have hb0 : ((fE : Int) != 0) = true := by rw [bne_iff_ne]; omega
          go_wp2_with (refine wpList_store_row rfl 35 _ _ rfl w.heap.size #[.int .u64 0, .slice none 0 0] rfl rfl _ #[.int .u64 0, .slice none 0 0] (unhide HT5).z Tryz.size_batch rfl (by simp [Value.oneCell']) ?_)
          refine bodyPost_ret (v := .tuple #[.agg #[.int .u64 0, .slice none 0 0], .int .i64 fE]) ?_ rfl ⟨.slice none 0 0, by rw [unhide HE]; rfl, by rw [unhide HE]; exact RdN.nil _, (unhide HT5).kept.setRowE (Or.inr (Nat.le_refl _)) _⟩
          exact results_row_tmp2 rfl _ _ w.heap.size _ #[.int .u64 0, .slice none 0 0] (0, 0) _ rfl (setRow_heap _ _ _ _ _ _ (unhide HT5).z) Tryz.underlying35 rfl Tryz.size_batch _ rfl
      · have h1' : ¬ (j : Int) < n := by omega
        clear h1 hgo
        go_wp2_with fail
        refine Calls.mono (refDone_any a1 c1 p ij x wr) ?_
        rintro r w5 ⟨rfl, k5⟩
        obtain ⟨fE, hfE⟩ : ∃ fE, doneE p ij x = fE := ⟨_, rfl⟩
        rw [hfE] at HDF ⊢
        clear hfE
        have HT5 := hide ((unhide HT).old k5)
        have HO5 := hide ((unhide HO).pass (M := []) k5 (by simp) (by simp) (by simp))
        clear k5 s0 s1 s2 t0 t1 t2
        by_cases h0 : fE = 0
        · subst h0
          have HE := hide (by have h9 := unhide HDF; rw [if_neg (by simp)] at h9; exact h9 : D = (f, ts.map (·.1), 0))
          have krow := (Kept.refl [w.heap.size] w5).setRowE (g := w.heap.size) (Or.inl (by simp)) #[.int .u64 (f : Int), .slice aE mE cE]
          have HOR := hide (((unhide HO5).mono (M := [w.heap.size + 1, w.heap.size + 1 + 1, w.heap.size]) (by intro x hx; simp at hx; rcases hx with rfl | rfl <;> simp)).pass krow (by simp) (fun x hx e' => by have h9 := ((unhide HO5).own.lt x e').1; rw [List.mem_singleton] at hx; omega) (fun x hx t ht => ⟨fun hb' => by have h9 := ((unhide HO5).apart t ht x (Or.inl hb')).2; rw [List.mem_singleton] at hx; omega, fun hb' => by have h9 := ((unhide HO5).apart t ht x (Or.inr hb')).2; rw [List.mem_singleton] at hx; omega⟩))
          clear krow
          go_wp2_with (first
            | (refine wpList_load_row rfl 35 _ rfl (w.heap.size + 1) rfl _ #[.int .u64 (f : Int), .slice aE mE cE] (0, 0) _ (unhide HT5).b Tryz.underlying35 rfl Tryz.size_batch ?_)
            | (refine wpList_store_row rfl 35 _ _ rfl w.heap.size #[.int .u64 (f : Int), .slice aE mE cE] rfl rfl _ #[.int .u64 0, .slice none 0 0] (unhide HT5).z Tryz.size_batch rfl (by simp [Value.oneCell']) ?_))
          refine bodyPost_ret (v := .tuple #[.agg #[.int .u64 (f : Int), .slice aE mE cE], .int .i64 0]) ?_ rfl ⟨.slice aE mE cE, by rw [unhide HE]; rfl, by rw [unhide HE]; exact (unhide HOR).rdN, (unhide HT5).kept.setRowE (Or.inr (Nat.le_refl _)) _⟩
          exact results_row_tmp2 rfl _ _ w.heap.size _ #[.int .u64 (f : Int), .slice aE mE cE] (0, 0) _ rfl (setRow_heap _ _ _ _ _ _ (unhide HT5).z) Tryz.underlying35 rfl Tryz.size_batch _ rfl
        · have HE := hide (by have h9 := unhide HDF; rw [if_pos h0] at h9; exact h9 : D = (0, [], fE))
          have hb0 : ((fE : Int) != 0) = true := by rw [bne_iff_ne]; omega
          go_wp2_with (refine wpList_store_row rfl 35 _ _ rfl w.heap.size #[.int .u64 0, .slice none 0 0] rfl rfl _ #[.int .u64 0, .slice none 0 0] (unhide HT5).z Tryz.size_batch rfl (by simp [Value.oneCell']) ?_)
          refine bodyPost_ret (v := .tuple #[.agg #[.int .u64 0, .slice none 0 0], .int .i64 fE]) ?_ rfl ⟨.slice none 0 0, by rw [unhide HE]; rfl, by rw [unhide HE]; exact RdN.nil _, (unhide HT5).kept.setRowE (Or.inr (Nat.le_refl _)) _⟩
          exact results_row_tmp2 rfl _ _ w.heap.size _ #[.int .u64 0, .slice none 0 0] (0, 0) _ rfl (setRow_heap _ _ _ _ _ _ (unhide HT5).z) Tryz.underlying35 rfl Tryz.size_batch _ rfl
end Go.Proofs.YtckkalmhekfnhaaGreatDoor
namespace Go.Proofs.YtckkalmhekfnhaaGreatDoor
open Go.RowKit Go.BigFrame
set_option linter.unusedVariables false
set_option linter.unusedSimpArgs false

set_option maxRecDepth 100000 in
set_option maxHeartbeats 2000000 in
theorem docDecodeBatchN_any (v : Value) (p : List Nat) (w : World) (h : Rd w v p) :
    Calls Tryz.prog 46 #[v] w fun r w' => ∃ bv, r = .returned (.tuple #[.agg #[.int .u64 ((decB p).1 : Int), bv], .int .i64 (decB p).2.2]) ∧ NewN w.heap.size w' bv (decB p).2.1 ∧ Kept [] w w' := by
  have H := hide h
  obtain ⟨a1, n1, c1, hv1, hn1, _, ⟨_, hlen⟩, _⟩ := id h
  subst hv1
  subst hn1
  have HDB := hide (fun (f i1 e1 n i2 e2 : Nat) (h1 : rUvar p 0 0 = (f, i1, e1)) (h2 : rUvar p i1 e1 = (n, i2, e2)) => decB_doc p h.byte h1 h2)
  clear h
  obtain ⟨D, hD⟩ : ∃ D, decB p = D := ⟨_, rfl⟩
  rw [hD] at HDB ⊢
  clear hD
  go_enter Tryz.func46, Tryz.ntmps46
  have HT0 := hide (TB.start w (.slice a1 p.length c1))
  go_wp2_with fail
  refine Calls.mono (takeUvar_any a1 c1 p 0 0 _ (by exact (unhide H).old (unhide HT0).kept (by simp)) (by omega)) ?_
  rintro r w1 ⟨rfl, k1⟩
  have hli1 := rUvar_le (p := p) (i := 0) (e := 0) (by omega)
  have hfl := rUvar_lt p 0 0
  obtain ⟨x, hx⟩ : ∃ x, rUvar p 0 0 = x := ⟨_, rfl⟩
  have HX1 := hide hx
  rw [hx] at hli1 hfl ⊢
  clear hx
  obtain ⟨f, i1, e1⟩ := x
  simp only at hli1 hfl ⊢
  have HT1 := hide ((unhide HT0).old k1)
  clear k1 HT0
  obtain ⟨⟨s0, s1, s2⟩, t0, t1, t2⟩ := three (unhide HT1).r
  have hc0 : w1.cell? ⟨w.heap.size + 1, 0, none⟩ = some (.int .u64 0) := by rw [cell_of_row _ _ _ _ _ _ (unhide HT1).b]; rfl
  have hf0 : w1.frozen? ⟨w.heap.size + 1, 0, none⟩ = false := frozen_of_row _ _ _ _ _ (unhide HT1).b
  have HTA := hide (((unhide HT1).setF f).setR (.slice a1 p.length c1) i1 e1)
  go_wp2_with fail
  clear s0 s1 s2 t0 t1 t2 hc0 hf0 HT1
  obtain ⟨WA, hWA⟩ : ∃ W, ((((w1.setCell ⟨w.heap.size + 1, 0, none⟩ (.int .u64 (f : Int))).setCell ⟨w.heap.size + 1 + 1, 0, none⟩ (.slice a1 p.length c1)).setCell ⟨w.heap.size + 1 + 1, 1, none⟩ (.int .i64 (i1 : Int))).setCell ⟨w.heap.size + 1 + 1, 2, none⟩ (.int .i64 (e1 : Int))) = W := ⟨_, rfl⟩
  rw [hWA] at HTA ⊢
  clear hWA
  refine Calls.mono (takeUvar_any a1 c1 p i1 e1 WA ((unhide H).old (unhide HTA).kept (by simp)) hli1) ?_
  rintro r w2 ⟨rfl, k2⟩
  have hli2 := rUvar_le (e := e1) hli1
  have hcl := rUvar_lt p i1 e1
  obtain ⟨x, hx⟩ : ∃ x, rUvar p i1 e1 = x := ⟨_, rfl⟩
  have HX2 := hide hx
  rw [hx] at hli2 hcl ⊢
  clear hx
  obtain ⟨n, i2, e2⟩ := x
  simp only at hli2 hcl ⊢
  have HDD := hide (unhide HDB f i1 e1 n i2 e2 (unhide HX1) (unhide HX2))
  have HE0 := hide (fun he : e2 ≠ 0 => rUvar_zero (unhide HX2) he)
  clear HDB HX1 HX2
  have HT2 := hide ((unhide HTA).old k2)
  clear k2 HTA
  obtain ⟨⟨s0, s1, s2⟩, t0, t1, t2⟩ := three (unhide HT2).r
  have hc0 : w2.cell? ⟨w.heap.size + 1, 0, none⟩ = some (.int .u64 (f : Int)) := by rw [cell_of_row _ _ _ _ _ _ (unhide HT2).b]; rfl
  have HTB := hide ((unhide HT2).setR (.slice a1 p.length c1) i2 e2)
  by_cases hA : 64 < n
  · have hA' : (64 : Int) < n := by omega
    go_wp2_with fail
    clear s0 s1 s2 t0 t1 t2
    obtain ⟨WB, hWB⟩ : ∃ W, (((w2.setCell ⟨w.heap.size + 1 + 1, 0, none⟩ (.slice a1 p.length c1)).setCell ⟨w.heap.size + 1 + 1, 1, none⟩ (.int .i64 (i2 : Int))).setCell ⟨w.heap.size + 1 + 1, 2, none⟩ (.int .i64 (e2 : Int))) = W := ⟨_, rfl⟩
    rw [hWB] at HTB ⊢
    clear hWB
    refine Calls.mono (failed_any a1 p.length c1 i2 e2 2 WB) ?_
    rintro r w3 ⟨rfl, k3⟩
    have HDE := hide (show D = (0, [], if e2 = 0 then 2 else e2) from by
      by_cases h0 : e2 = 0
      · rw [if_pos h0]
        have h9 := (unhide HDD).2.1 h0
        have hc : cntE f n = 2 := by unfold cntE; rw [if_pos hA]
        rw [hc] at h9
        exact h9 (by decide)
      · rw [if_neg h0]; exact (unhide HDD).1 h0)
    have hx0 : (if e2 = 0 then 2 else e2) ≠ 0 := by split <;> omega
    obtain ⟨x, hx⟩ : ∃ x, (if e2 = 0 then 2 else e2) = x := ⟨_, rfl⟩
    rw [hx] at HDE hx0 ⊢
    clear hx
    have HT3 := hide ((unhide HTB).old k3)
    clear k3
    obtain ⟨⟨s0, s1, s2⟩, t0, t1, t2⟩ := three (unhide HT3).r
    have HT4 := hide ((unhide HT3).setR (.slice a1 p.length c1) i2 x)
    go_wp2_with fail
    clear s0 s1 s2 t0 t1 t2
    obtain ⟨WX, hWX⟩ : ∃ W, (((w3.setCell ⟨w.heap.size + 1 + 1, 0, none⟩ (.slice a1 p.length c1)).setCell ⟨w.heap.size + 1 + 1, 1, none⟩ (.int .i64 (i2 : Int))).setCell ⟨w.heap.size + 1 + 1, 2, none⟩ (.int .i64 (x : Int))) = W := ⟨_, rfl⟩
    rw [hWX] at HT4 ⊢
    clear hWX
    go_loopw [7] (fun t wr => t = .int .i64 0 ∧ wr = WX) (fun _ _ => 0)
    case atStart => exact ⟨rfl, rfl⟩
    case round =>
      obtain ⟨rfl, rfl⟩ := hrel
      obtain ⟨⟨s0, s1, s2⟩, t0, t1, t2⟩ := three (unhide HT4).r
      have hx0' : ((x : Int) == 0) = false := by rw [beq_eq_false_iff_ne]; omega
      have hx1 : ((x : Int) != 0) = true := by rw [bne_iff_ne]; omega
      go_wp2_with fail
      refine Calls.mono (refDone_any a1 c1 p i2 x wr) ?_
      rintro r w5 ⟨rfl, k5⟩
      rw [doneE_bad hx0]
      have HZ5 := hide (k5.heap (unhide HT4).z (by simp))
      have HK5 := hide ((unhide HT4).kept.trans k5 (by simp))
      clear k5
      go_wp2_with (refine wpList_store_row rfl 35 _ _ rfl w.heap.size #[.int .u64 0, .slice none 0 0] rfl rfl _ #[.int .u64 0, .slice none 0 0] (unhide HZ5) Tryz.size_batch rfl (by simp [Value.oneCell']) ?_)
      refine bodyPost_ret (v := .tuple #[.agg #[.int .u64 0, .slice none 0 0], .int .i64 x]) ?_ rfl ⟨.slice none 0 0, by rw [unhide HDE]; rfl, by rw [unhide HDE]; exact NewN.nil _ _ (Kept.size (L := []) ((unhide HK5).setRowE (Or.inr (Nat.le_refl _)) _)), (unhide HK5).setRowE (Or.inr (Nat.le_refl _)) _⟩
      exact results_row_tmp2 rfl _ _ w.heap.size _ #[.int .u64 0, .slice none 0 0] (0, 0) _ rfl (setRow_heap _ _ _ _ _ _ (unhide HZ5)) Tryz.underlying35 rfl Tryz.size_batch _ rfl
  have hA' : ¬ (64 : Int) < n := by omega
  have hcv : IntKind.i64.wrap (n : Int) = n := by simp [IntKind.wrap, IntKind.signed, IntKind.bits]; omega
  by_cases hB : n = 0
  · have hB' : ((n : Int) == 0) = true := by rw [hB]; rfl
    have hlt : ¬ (0 : Int) < n := by omega
    go_wp2_with fail
    clear s0 s1 s2 t0 t1 t2
    obtain ⟨WB, hWB⟩ : ∃ W, (((w2.setCell ⟨w.heap.size + 1 + 1, 0, none⟩ (.slice a1 p.length c1)).setCell ⟨w.heap.size + 1 + 1, 1, none⟩ (.int .i64 (i2 : Int))).setCell ⟨w.heap.size + 1 + 1, 2, none⟩ (.int .i64 (e2 : Int))) = W := ⟨_, rfl⟩
    rw [hWB] at HTB ⊢
    clear hWB
    refine Calls.mono (failed_any a1 p.length c1 i2 e2 3 WB) ?_
    rintro r w3 ⟨rfl, k3⟩
    have HDE := hide (show D = (0, [], if e2 = 0 then 3 else e2) from by
      by_cases h0 : e2 = 0
      · rw [if_pos h0]
        have h9 := (unhide HDD).2.1 h0
        have hc : cntE f n = 3 := by unfold cntE; rw [if_neg hA, if_pos (Or.inl hB)]
        rw [hc] at h9
        exact h9 (by decide)
      · rw [if_neg h0]; exact (unhide HDD).1 h0)
    have hx0 : (if e2 = 0 then 3 else e2) ≠ 0 := by split <;> omega
    obtain ⟨x, hx⟩ : ∃ x, (if e2 = 0 then 3 else e2) = x := ⟨_, rfl⟩
    rw [hx] at HDE hx0 ⊢
    clear hx
    have HT3 := hide ((unhide HTB).old k3)
    clear k3
    obtain ⟨⟨s0, s1, s2⟩, t0, t1, t2⟩ := three (unhide HT3).r
    have HT4 := hide ((unhide HT3).setR (.slice a1 p.length c1) i2 x)
    go_wp2_with fail
    clear s0 s1 s2 t0 t1 t2
    obtain ⟨WX, hWX⟩ : ∃ W, (((w3.setCell ⟨w.heap.size + 1 + 1, 0, none⟩ (.slice a1 p.length c1)).setCell ⟨w.heap.size + 1 + 1, 1, none⟩ (.int .i64 (i2 : Int))).setCell ⟨w.heap.size + 1 + 1, 2, none⟩ (.int .i64 (x : Int))) = W := ⟨_, rfl⟩
    rw [hWX] at HT4 ⊢
    clear hWX
    go_loopw [7] (fun t wr => t = .int .i64 0 ∧ wr = WX) (fun _ _ => 0)
    case atStart => exact ⟨rfl, rfl⟩
    case round =>
      obtain ⟨rfl, rfl⟩ := hrel
      obtain ⟨⟨s0, s1, s2⟩, t0, t1, t2⟩ := three (unhide HT4).r
      have hx0' : ((x : Int) == 0) = false := by rw [beq_eq_false_iff_ne]; omega
      have hx1 : ((x : Int) != 0) = true := by rw [bne_iff_ne]; omega
      go_wp2_with fail
      refine Calls.mono (refDone_any a1 c1 p i2 x wr) ?_
      rintro r w5 ⟨rfl, k5⟩
      rw [doneE_bad hx0]
      have HZ5 := hide (k5.heap (unhide HT4).z (by simp))
      have HK5 := hide ((unhide HT4).kept.trans k5 (by simp))
      clear k5
      go_wp2_with (refine wpList_store_row rfl 35 _ _ rfl w.heap.size #[.int .u64 0, .slice none 0 0] rfl rfl _ #[.int .u64 0, .slice none 0 0] (unhide HZ5) Tryz.size_batch rfl (by simp [Value.oneCell']) ?_)
      refine bodyPost_ret (v := .tuple #[.agg #[.int .u64 0, .slice none 0 0], .int .i64 x]) ?_ rfl ⟨.slice none 0 0, by rw [unhide HDE]; rfl, by rw [unhide HDE]; exact NewN.nil _ _ (Kept.size (L := []) ((unhide HK5).setRowE (Or.inr (Nat.le_refl _)) _)), (unhide HK5).setRowE (Or.inr (Nat.le_refl _)) _⟩
      exact results_row_tmp2 rfl _ _ w.heap.size _ #[.int .u64 0, .slice none 0 0] (0, 0) _ rfl (setRow_heap _ _ _ _ _ _ (unhide HZ5)) Tryz.underlying35 rfl Tryz.size_batch _ rfl
  have hB' : ((n : Int) == 0) = false := by rw [beq_eq_false_iff_ne]; omega
  have h0e : e2 = 0 := by
    rcases Nat.eq_zero_or_pos e2 with h | h
    · exact h
    · exact absurd (unhide HE0 (by omega)) hB
  have H0E := hide h0e
  clear h0e
  go_wp2_with fail
  clear s0 s1 s2 t0 t1 t2
  refine Calls.mono (fits5_any f n _ hfl (by omega)) ?_
  rintro r wz ⟨rfl, rfl⟩
  by_cases hF : ¬ f + n < 18446744073709551616
  · rw [decide_eq_false hF]
    have hlt : (0 : Int) < n := by omega
    have hTR := hide (three (unhide HTB).r)
    obtain ⟨⟨s0, s1, s2⟩, t0, t1, t2⟩ := unhide hTR
    go_wp2_with fail
    clear s0 s1 s2 t0 t1 t2
    obtain ⟨WB, hWB⟩ : ∃ W, (((w2.setCell ⟨w.heap.size + 1 + 1, 0, none⟩ (.slice a1 p.length c1)).setCell ⟨w.heap.size + 1 + 1, 1, none⟩ (.int .i64 (i2 : Int))).setCell ⟨w.heap.size + 1 + 1, 2, none⟩ (.int .i64 (e2 : Int))) = W := ⟨_, rfl⟩
    rw [hWB] at HTB ⊢
    clear hWB
    refine Calls.mono (failed_any a1 p.length c1 i2 e2 3 WB) ?_
    rintro r w3 ⟨rfl, k3⟩
    have HDE := hide (show D = (0, [], if e2 = 0 then 3 else e2) from by
      by_cases h0 : e2 = 0
      · rw [if_pos h0]
        have h9 := (unhide HDD).2.1 h0
        have hc : cntE f n = 3 := by unfold cntE; rw [if_neg hA, if_pos (Or.inr (by omega))]
        rw [hc] at h9
        exact h9 (by decide)
      · rw [if_neg h0]; exact (unhide HDD).1 h0)
    have hx0 : (if e2 = 0 then 3 else e2) ≠ 0 := by split <;> omega
    obtain ⟨x, hx⟩ : ∃ x, (if e2 = 0 then 3 else e2) = x := ⟨_, rfl⟩
    rw [hx] at HDE hx0 ⊢
    clear hx
    have HT3 := hide ((unhide HTB).old k3)
    clear k3
    obtain ⟨⟨s0, s1, s2⟩, t0, t1, t2⟩ := three (unhide HT3).r
    have HT4 := hide ((unhide HT3).setR (.slice a1 p.length c1) i2 x)
    go_wp2_with fail
    clear s0 s1 s2 t0 t1 t2
    obtain ⟨WX, hWX⟩ : ∃ W, (((w3.setCell ⟨w.heap.size + 1 + 1, 0, none⟩ (.slice a1 p.length c1)).setCell ⟨w.heap.size + 1 + 1, 1, none⟩ (.int .i64 (i2 : Int))).setCell ⟨w.heap.size + 1 + 1, 2, none⟩ (.int .i64 (x : Int))) = W := ⟨_, rfl⟩
    rw [hWX] at HT4 ⊢
    clear hWX
    go_loopw [7] (fun t wr => t = .int .i64 0 ∧ wr = WX) (fun _ _ => 0)
    case atStart => exact ⟨rfl, rfl⟩
    case round =>
      obtain ⟨rfl, rfl⟩ := hrel
      obtain ⟨⟨s0, s1, s2⟩, t0, t1, t2⟩ := three (unhide HT4).r
      have hx0' : ((x : Int) == 0) = false := by rw [beq_eq_false_iff_ne]; omega
      have hx1 : ((x : Int) != 0) = true := by rw [bne_iff_ne]; omega
      go_wp2_with fail
      refine Calls.mono (refDone_any a1 c1 p i2 x wr) ?_
      rintro r w5 ⟨rfl, k5⟩
      rw [doneE_bad hx0]
      have HZ5 := hide (k5.heap (unhide HT4).z (by simp))
      have HK5 := hide ((unhide HT4).kept.trans k5 (by simp))
      clear k5
      go_wp2_with (refine wpList_store_row rfl 35 _ _ rfl w.heap.size #[.int .u64 0, .slice none 0 0] rfl rfl _ #[.int .u64 0, .slice none 0 0] (unhide HZ5) Tryz.size_batch rfl (by simp [Value.oneCell']) ?_)
      refine bodyPost_ret (v := .tuple #[.agg #[.int .u64 0, .slice none 0 0], .int .i64 x]) ?_ rfl ⟨.slice none 0 0, by rw [unhide HDE]; rfl, by rw [unhide HDE]; exact NewN.nil _ _ (Kept.size (L := []) ((unhide HK5).setRowE (Or.inr (Nat.le_refl _)) _)), (unhide HK5).setRowE (Or.inr (Nat.le_refl _)) _⟩
      exact results_row_tmp2 rfl _ _ w.heap.size _ #[.int .u64 0, .slice none 0 0] (0, 0) _ rfl (setRow_heap _ _ _ _ _ _ (unhide HZ5)) Tryz.underlying35 rfl Tryz.size_batch _ rfl
  have hF' : f + n < 18446744073709551616 := by omega
  rw [decide_eq_true hF']
  have hcn : cntE f n = 0 := by unfold cntE; rw [if_neg hA, if_neg (by omega)]
  have HDY := hide ((unhide HDD).2.2 (unhide H0E) hcn)
  obtain ⟨WB, hWB⟩ : ∃ W, (((w2.setCell ⟨w.heap.size + 1 + 1, 0, none⟩ (.slice a1 p.length c1)).setCell ⟨w.heap.size + 1 + 1, 1, none⟩ (.int .i64 (i2 : Int))).setCell ⟨w.heap.size + 1 + 1, 2, none⟩ (.int .i64 (e2 : Int))) = W := ⟨_, rfl⟩
  rw [hWB] at HTB ⊢
  clear hWB hF hcn HDD HE0
  go_wp2_with fail
  have HW6 := hide (Kept.refl [w.heap.size + 1, w.heap.size + 1 + 1] WB)
  go_loopw [7] (fun t7 wr => ∃ (j ij x : Nat) (vE : Value) (ts : List (En × Value × Value)), j ≤ n ∧ t7 = .int .i64 j ∧ ij ≤ p.length ∧ Hid (ts.length = j) ∧ Hid (x ≠ 0 → D = (0, [], x)) ∧ Hid (x = 0 → D = docY p f (ts.map (·.1)) (docN p ij (n - j))) ∧ Hid (TB w wr f vE (.slice a1 p.length c1) ij x) ∧ Hid (OwnN [w.heap.size + 1, w.heap.size + 1 + 1] WB wr vE ts)) (fun t _ => n - (intOf t).toNat)
  case atStart => exact ⟨0, i2, e2, .slice none 0 0, [], Nat.zero_le _, rfl, hli2, hide rfl, hide (fun h => absurd (unhide H0E) h), hide (fun _ => unhide HDY), HTB, hide (OwnN.start (unhide HW6))⟩
  case round =>
    obtain ⟨j, ij, x, vE, ts, hj, rfl, hij, HJ, HX1, HX0, HT, HO⟩ := hrel
    obtain ⟨⟨s0, s1, s2⟩, t0, t1, t2⟩ := three (unhide HT).r
    by_cases hgo : j < n ∧ x = 0
    · obtain ⟨hlt, hx0⟩ := hgo
      subst hx0
      have HX2 := hide (unhide HX0 rfl)
      have hlt' : (j : Int) < n := by omega
      have kal := (Kept.refl [] wr).alloc (.cells #[.int .u8 0, .slice none 0 0, .slice none 0 0] 71)
      have HTa := hide ((unhide HT).old kal)
      have HOa := hide ((unhide HO).pass (M := []) kal (by simp) (by simp) (by simp))
      have HEa := hide (heap_alloc_new wr (.cells #[.int .u8 0, .slice none 0 0, .slice none 0 0] 71))
      have HSa := hide (show (wr.alloc (.cells #[.int .u8 0, .slice none 0 0, .slice none 0 0] 71)).heap.size = wr.heap.size + 1 by simp)
      obtain ⟨⟨d0, d1, d2⟩, f0, f1, f2⟩ := three (unhide HTa).r
      clear kal
      go_wp2_with fail
      clear d0 d1 d2 f0 f1 f2 s0 s1 s2 t0 t1 t2
      obtain ⟨Wa, hWa⟩ : ∃ W, wr.alloc (.cells #[.int .u8 0, .slice none 0 0, .slice none 0 0] 71) = W := ⟨_, rfl⟩
      rw [hWa] at HTa HOa HEa HSa ⊢
      clear hWa
      refine Calls.mono (refTake_any a1 c1 p ij 0 Wa ((unhide H).old (unhide HTa).kept (by simp)) hij) ?_
      rintro r w4 ⟨kv, vv, rfl, ok4, k4, b4⟩
      obtain ⟨m, hm⟩ : ∃ m, n - j = m + 1 := ⟨n - j - 1, by omega⟩
      have hmm : n - (j + 1) = m := by omega
      have HST := hide (fun he : (docT p ij 0).2.2 ≠ 0 => by have h9 := unhide HX2; rw [hm, docY_stop he] at h9; exact h9 : (docT p ij 0).2.2 ≠ 0 → D = (0, [], (docT p ij 0).2.2))
      have HSP := hide (fun he : (docT p ij 0).2.2 = 0 => by have h9 := unhide HX2; rw [hm, docY_step he, ← hmm] at h9; exact h9 : (docT p ij 0).2.2 = 0 → D = docY p f (ts.map (·.1) ++ [(docT p ij 0).1]) (docN p (docT p ij 0).2.1 (n - (j + 1))))
      have hle := docT_le p ij hij
      obtain ⟨X, hX⟩ : ∃ X, docT p ij 0 = X := ⟨_, rfl⟩
      rw [hX] at HST HSP ok4 hle ⊢
      clear hX hm hmm HX0 HX1 HX2
      obtain ⟨en, i3, e3⟩ := X
      simp only at HST HSP ok4 hle ⊢
      unfold enC
      have HOK4 := hide ok4
      obtain ⟨a8, m8, c8, hu8, _⟩ := id ok4.key
      subst hu8
      obtain ⟨a9, m9, c9, hu9, _⟩ := id ok4.val
      subst hu9
      have HNW := hide b4
      have HT4 := hide ((unhide HTa).old k4)
      have HO4 := hide ((unhide HOa).pass (M := []) k4 (by simp) (by simp) (by simp))
      have HE4 := hide (k4.heap (unhide HEa) (by simp))
      clear ok4 k4 b4 HTa HOa HEa
      have hEs : w.heap.size + 1 + 1 < wr.heap.size := lt_of_block (unhide HT).r
      have hBs : w.heap.size + 1 + 1 < WB.heap.size := lt_of_block (unhide HTB).r
      have hWs : WB.heap.size ≤ wr.heap.size := (unhide HO).kept.size
      have HN1 := hide (fun e' => Nat.lt_irrefl _ ((unhide HO).own.lt wr.heap.size e').2 : vE.ownBlock ≠ some wr.heap.size)
      have HN2 := hide (fun t ht => ⟨fun hb => Nat.lt_irrefl _ (((unhide HO).ok t ht).key.ltN _ hb), fun hb => Nat.lt_irrefl _ (((unhide HO).ok t ht).val.ltN _ hb)⟩ : ∀ t ∈ ts, wr.heap.size ∉ nblk t.2.1 t.1.key ∧ wr.heap.size ∉ nblk t.2.2 t.1.val)
      have k5 := (Kept.refl [wr.heap.size] w4).setRowE (g := wr.heap.size) (Or.inl (by simp)) #[.int .u8 (en.k : Int), .slice a8 m8 c8, .slice a9 m9 c9]
      have HT5 := hide (⟨k5.heap (unhide HT4).z (by simp; omega), k5.heap (unhide HT4).b (by simp; omega), k5.heap (unhide HT4).r (by simp; omega), (unhide HT4).kept.trans k5 (by simp; omega)⟩ : TB w (w4.setRow wr.heap.size #[.int .u8 (en.k : Int), .slice a8 m8 c8, .slice a9 m9 c9]) f vE (.slice a1 p.length c1) ij 0)
      have HE5 := hide (setRow_heap w4 wr.heap.size _ #[.int .u8 (en.k : Int), .slice a8 m8 c8, .slice a9 m9 c9] 71 (0, 0) (unhide HE4))
      have HO5 := hide ((unhide HO4).pass k5 (by simp; omega) (fun x hx => by rw [List.mem_singleton] at hx; subst hx; exact unhide HN1) (fun x hx t ht => by rw [List.mem_singleton] at hx; subst hx; exact unhide HN2 t ht))
      have k6 := (Kept.refl [w.heap.size + 1 + 1] (w4.setRow wr.heap.size #[.int .u8 (en.k : Int), .slice a8 m8 c8, .slice a9 m9 c9])).setRowE (g := w.heap.size + 1 + 1) (Or.inl (by simp)) #[.slice a1 p.length c1, .int .i64 (i3 : Int), .int .i64 (e3 : Int)]
      have HT6 := hide (⟨k6.heap (unhide HT5).z (by simp; omega), k6.heap (unhide HT5).b (by simp), setRow_heap _ _ _ _ _ _ (unhide HT5).r, (unhide HT5).kept.trans k6 (by simp; omega)⟩ : TB w ((w4.setRow wr.heap.size #[.int .u8 (en.k : Int), .slice a8 m8 c8, .slice a9 m9 c9]).setRow (w.heap.size + 1 + 1) #[.slice a1 p.length c1, .int .i64 (i3 : Int), .int .i64 (e3 : Int)]) f vE (.slice a1 p.length c1) i3 e3)
      have HE6 := hide (k6.heap (unhide HE5) (by simp; omega))
      have HO6 := hide ((unhide HO5).pass k6 (by simp) (fun x hx e' => by rw [List.mem_singleton] at hx; subst hx; have h9 := ((unhide HO5).own.lt _ e').1; omega) (fun x hx t ht => by rw [List.mem_singleton] at hx; subst hx; exact ⟨fun hb => by have h9 := ((unhide HO5).apart t ht _ (Or.inl hb)).2; omega, fun hb => by have h9 := ((unhide HO5).apart t ht _ (Or.inr hb)).2; omega⟩))
      have HOK6 := hide (⟨(unhide HOK4).k, ((unhide HOK4).key.kept k5 (fun x hx => by have h9 := unhide HNW x (Or.inl hx); have h8 := unhide HSa; simp; omega)).kept k6 (fun x hx => by have h9 := unhide HNW x (Or.inl hx); have h8 := unhide HSa; simp; omega), ((unhide HOK4).val.kept k5 (fun x hx => by have h9 := unhide HNW x (Or.inr hx); have h8 := unhide HSa; simp; omega)).kept k6 (fun x hx => by have h9 := unhide HNW x (Or.inr hx); have h8 := unhide HSa; simp; omega)⟩ : OkE ((w4.setRow wr.heap.size #[.int .u8 (en.k : Int), .slice a8 m8 c8, .slice a9 m9 c9]).setRow (w.heap.size + 1 + 1) #[.slice a1 p.length c1, .int .i64 (i3 : Int), .int .i64 (e3 : Int)]) en (.slice a8 m8 c8) (.slice a9 m9 c9))
      clear k5 k6
      go_wp2_with (first
        | (refine wpList_store_row rfl 71 _ _ rfl wr.heap.size #[.int .u8 (en.k : Int), .slice a8 m8 c8, .slice a9 m9 c9] rfl rfl _ #[.int .u8 0, .slice none 0 0, .slice none 0 0] (unhide HE4) Tryz.size_entry rfl (row3_one rfl rfl rfl) ?_)
        | (refine wpList_store_row rfl 139 _ _ rfl (w.heap.size + 1 + 1) #[.slice a1 p.length c1, .int .i64 (i3 : Int), .int .i64 (e3 : Int)] rfl rfl _ #[.slice a1 p.length c1, .int .i64 (ij : Int), .int .i64 0] (unhide HT5).r Tryz.size_rr rfl (row3_one rfl rfl rfl) ?_; obtain ⟨WC, hWC⟩ : ∃ W, (w4.setRow wr.heap.size #[.int .u8 (en.k : Int), .slice a8 m8 c8, .slice a9 m9 c9]).setRow (w.heap.size + 1 + 1) #[.slice a1 p.length c1, .int .i64 (i3 : Int), .int .i64 (e3 : Int)] = W := ⟨_, rfl⟩; rw [hWC]; rw [hWC] at HT6 HE6 HO6 HOK6; clear hWC HT5 HE5 HO5; obtain ⟨⟨d0, d1, d2⟩, f0, f1, f2⟩ := three (unhide HE6); have v1 := cell_of_row _ _ 1 _ _ _ (unhide HT6).b; have HO7 := hide ((unhide HO6).pass (M := []) ((Kept.refl [] WC).alloc (.cells #[.int .u8 (en.k : Int), .slice a8 m8 c8, .slice a9 m9 c9] 71)) (by simp) (by simp) (by simp)); have HB7 := hide (unhide HO7).kept.size; have HV7 := hide (((Kept.refl [] WC).alloc (.cells #[.int .u8 (en.k : Int), .slice a8 m8 c8, .slice a9 m9 c9] 71)).heap (unhide HT6).b (by simp)))
        | (at_builtin; refine wpList_pushN rfl _ _ rfl rfl _ WB.heap.size vE ts en (.slice a8 m8 c8) (.slice a9 m9 c9) WC.heap.size (unhide HO7).own (heap_alloc_new _ _) rfl rfl (by have := unhide HJ; omega) (unhide HB7) rfl rfl ?_; intro g cap2 w8 HO8 HG8 HA8; have k8 := (Kept.refl vE.ownBlock.toList (WC.alloc (.cells #[.int .u8 (en.k : Int), .slice a8 m8 c8, .slice a9 m9 c9] 71))).grown (unhide HG8) (by intro k hk; left; simp [hk]); have HNO := hide (fun (y : Nat) (hy : y < WB.heap.size) (hm9 : y ∈ vE.ownBlock.toList) => by have h9 := ((unhide HO7).own.lt y (by simpa using hm9)).1; omega : ∀ y, y < WB.heap.size → y ∉ vE.ownBlock.toList); have HT8 := hide (⟨k8.heap ((unhide HT6).old ((Kept.refl [] WC).alloc _)).z (unhide HNO _ (by omega)), k8.heap ((unhide HT6).old ((Kept.refl [] WC).alloc _)).b (unhide HNO _ (by omega)), k8.heap ((unhide HT6).old ((Kept.refl [] WC).alloc _)).r (unhide HNO _ (by omega)), ((unhide HT6).kept.alloc _).trans k8 (fun x hx => by have h9 := ((unhide HO7).own.lt x (by simpa using hx)).1; omega)⟩ : TB w w8 f vE (.slice a1 p.length c1) i3 e3); clear k8; have v8 := cell_of_row _ _ 1 _ _ _ (unhide HT8).b; have z8 := frozen_of_row _ _ 1 _ _ (unhide HT8).b))
      refine ⟨⟨j + 1, i3, e3, .slice (some ⟨g, 0, none⟩) (ts.length + 1) cap2, ts ++ [(en, .slice a8 m8 c8, .slice a9 m9 c9)], by omega, by go_num, hle, hide (by rw [List.length_append, unhide HJ]; rfl), HST, hide (fun h => by rw [List.map_append]; exact unhide HSP h), hide ((unhide HT8).setE _), hide ?_⟩, ?_⟩
      · have o8 := (unhide HO7).push ((unhide HOK6).old ((Kept.refl [] WC).alloc _)) (fun b' hb' => by
          have h9 : Wa.heap.size ≤ b' := by
            rcases hb' with hb' | hb'
            · exact unhide HNW b' (Or.inl (mem_nblk hb').1)
            · exact unhide HNW b' (Or.inr (mem_nblk hb').1)
          have h8 := unhide HSa
          exact ⟨fun e' => by have h7 := ((unhide HO).own.lt b' e').2; omega, by omega⟩) (unhide HO8) (unhide HG8) (unhide HA8)
        refine o8.pass ((Kept.refl [w.heap.size + 1] w8).setCell (p := ⟨w.heap.size + 1, 1, none⟩) (Or.inl (by simp)) _) (by simp) (fun x hx e' => ?_) (fun x hx t ht => ⟨fun hb' => ?_, fun hb' => ?_⟩)
        · have h9 := (o8.own.lt x e').1; rw [List.mem_singleton] at hx; omega
        · have h9 := (o8.apart t ht x (Or.inl hb')).2; rw [List.mem_singleton] at hx; omega
        · have h9 := (o8.apart t ht x (Or.inr hb')).2; rw [List.mem_singleton] at hx; omega
      · simp [intOf]; omega
    · have HDF := hide (show D = if doneE p ij x ≠ 0 then (0, [], doneE p ij x) else (f, ts.map (·.1), 0) from by
        by_cases hx0 : x = 0
        · have h9 := unhide HX0 hx0
          have hjn : n - j = 0 := by omega
          rw [hjn, show docN p ij 0 = ([], ij, 0) from rfl] at h9
          rw [h9, hx0]
          unfold docY
          simp
        · rw [doneE_bad hx0, if_pos hx0]; exact unhide HX1 hx0)
      obtain ⟨aE, mE, cE, hvE⟩ : ∃ aE mE cE, vE = .slice aE mE cE := by
        rcases (unhide HO).own.2 with ⟨rfl, _⟩ | ⟨g, cap, cur, rfl, _⟩
        · exact ⟨_, _, _, rfl⟩
        · exact ⟨_, _, _, rfl⟩
      subst hvE
      have hBs : w.heap.size + 1 + 1 < WB.heap.size := lt_of_block (unhide HTB).r
      have hor : (j < n ∧ x ≠ 0) ∨ ¬ j < n := by omega
      clear HX0 HX1
      rcases hor with ⟨h1, h2⟩ | h1
      · have h1' : (j : Int) < n := by omega
        have h2' : ((x : Int) == 0) = false := by rw [beq_eq_false_iff_ne]; omega
        clear h1 h2 hgo
        go_wp2_with fail
        refine Calls.mono (refDone_any a1 c1 p ij x wr) ?_
        rintro r w5 ⟨rfl, k5⟩
        obtain ⟨fE, hfE⟩ : ∃ fE, doneE p ij x = fE := ⟨_, rfl⟩
        rw [hfE] at HDF ⊢
        clear hfE
        have HT5 := hide ((unhide HT).old k5)
        have HO5 := hide ((unhide HO).pass (M := []) k5 (by simp) (by simp) (by simp))
        clear k5 s0 s1 s2 t0 t1 t2
        by_cases h0 : fE = 0
        · subst h0
          have HE := hide (by have h9 := unhide HDF; rw [if_neg (by simp)] at h9; exact h9 : D = (f, ts.map (·.1), 0))
          have krow := (Kept.refl [w.heap.size] w5).setRowE (g := w.heap.size) (Or.inl (by simp)) #[.int .u64 (f : Int), .slice aE mE cE]
          have HOR := hide (((unhide HO5).mono (M := [w.heap.size + 1, w.heap.size + 1 + 1, w.heap.size]) (by intro x hx; simp at hx; rcases hx with rfl | rfl <;> simp)).pass krow (by simp) (fun x hx e' => by have h9 := ((unhide HO5).own.lt x e').1; rw [List.mem_singleton] at hx; omega) (fun x hx t ht => ⟨fun hb' => by have h9 := ((unhide HO5).apart t ht x (Or.inl hb')).2; rw [List.mem_singleton] at hx; omega, fun hb' => by have h9 := ((unhide HO5).apart t ht x (Or.inr hb')).2; rw [List.mem_singleton] at hx; omega⟩))
          clear krow
          go_wp2_with (first
            | (refine wpList_load_row rfl 35 _ rfl (w.heap.size + 1) rfl _ #[.int .u64 (f : Int), .slice aE mE cE] (0, 0) _ (unhide HT5).b Tryz.underlying35 rfl Tryz.size_batch ?_)
            | (refine wpList_store_row rfl 35 _ _ rfl w.heap.size #[.int .u64 (f : Int), .slice aE mE cE] rfl rfl _ #[.int .u64 0, .slice none 0 0] (unhide HT5).z Tryz.size_batch rfl (by simp [Value.oneCell']) ?_))
          refine bodyPost_ret (v := .tuple #[.agg #[.int .u64 (f : Int), .slice aE mE cE], .int .i64 0]) ?_ rfl ⟨.slice aE mE cE, by rw [unhide HE]; rfl, by rw [unhide HE]; exact ⟨_, WB, ts, rfl, unhide HOR, by omega⟩, (unhide HT5).kept.setRowE (Or.inr (Nat.le_refl _)) _⟩
          exact results_row_tmp2 rfl _ _ w.heap.size _ #[.int .u64 (f : Int), .slice aE mE cE] (0, 0) _ rfl (setRow_heap _ _ _ _ _ _ (unhide HT5).z) Tryz.underlying35 rfl Tryz.size_batch _ rfl
        · have HE := hide (by have h9 := unhide HDF; rw [if_pos h0] at h9; exact h9 : D = (0, [], fE))
          have hb0 : ((fE : Int) != 0) = true := by rw [bne_iff_ne]; omega
          go_wp2_with (refine wpList_store_row rfl 35 _ _ rfl w.heap.size #[.int .u64 0, .slice none 0 0] rfl rfl _ #[.int .u64 0, .slice none 0 0] (unhide HT5).z Tryz.size_batch rfl (by simp [Value.oneCell']) ?_)
          refine bodyPost_ret (v := .tuple #[.agg #[.int .u64 0, .slice none 0 0], .int .i64 fE]) ?_ rfl ⟨.slice none 0 0, by rw [unhide HE]; rfl, by rw [unhide HE]; exact NewN.nil _ _ (Kept.size (L := []) ((unhide HT5).kept.setRowE (Or.inr (Nat.le_refl _)) _)), (unhide HT5).kept.setRowE (Or.inr (Nat.le_refl _)) _⟩
          exact results_row_tmp2 rfl _ _ w.heap.size _ #[.int .u64 0, .slice none 0 0] (0, 0) _ rfl (setRow_heap _ _ _ _ _ _ (unhide HT5).z) Tryz.underlying35 rfl Tryz.size_batch _ rfl
      · have h1' : ¬ (j : Int) < n := by omega
        clear h1 hgo
        go_wp2_with fail
        refine Calls.mono (refDone_any a1 c1 p ij x wr) ?_
        rintro r w5 ⟨rfl, k5⟩
        obtain ⟨fE, hfE⟩ : ∃ fE, doneE p ij x = fE := ⟨_, rfl⟩
        rw [hfE] at HDF ⊢
        clear hfE
        have HT5 := hide ((unhide HT).old k5)
        have HO5 := hide ((unhide HO).pass (M := []) k5 (by simp) (by simp) (by simp))
        clear k5 s0 s1 s2 t0 t1 t2
        by_cases h0 : fE = 0
        · subst h0
          have HE := hide (by have h9 := unhide HDF; rw [if_neg (by simp)] at h9; exact h9 : D = (f, ts.map (·.1), 0))
          have krow := (Kept.refl [w.heap.size] w5).setRowE (g := w.heap.size) (Or.inl (by simp)) #[.int .u64 (f : Int), .slice aE mE cE]
          have HOR := hide (((unhide HO5).mono (M := [w.heap.size + 1, w.heap.size + 1 + 1, w.heap.size]) (by intro x hx; simp at hx; rcases hx with rfl | rfl <;> simp)).pass krow (by simp) (fun x hx e' => by have h9 := ((unhide HO5).own.lt x e').1; rw [List.mem_singleton] at hx; omega) (fun x hx t ht => ⟨fun hb' => by have h9 := ((unhide HO5).apart t ht x (Or.inl hb')).2; rw [List.mem_singleton] at hx; omega, fun hb' => by have h9 := ((unhide HO5).apart t ht x (Or.inr hb')).2; rw [List.mem_singleton] at hx; omega⟩))
          clear krow
          go_wp2_with (first
            | (refine wpList_load_row rfl 35 _ rfl (w.heap.size + 1) rfl _ #[.int .u64 (f : Int), .slice aE mE cE] (0, 0) _ (unhide HT5).b Tryz.underlying35 rfl Tryz.size_batch ?_)
            | (refine wpList_store_row rfl 35 _ _ rfl w.heap.size #[.int .u64 (f : Int), .slice aE mE cE] rfl rfl _ #[.int .u64 0, .slice none 0 0] (unhide HT5).z Tryz.size_batch rfl (by simp [Value.oneCell']) ?_))
          refine bodyPost_ret (v := .tuple #[.agg #[.int .u64 (f : Int), .slice aE mE cE], .int .i64 0]) ?_ rfl ⟨.slice aE mE cE, by rw [unhide HE]; rfl, by rw [unhide HE]; exact ⟨_, WB, ts, rfl, unhide HOR, by omega⟩, (unhide HT5).kept.setRowE (Or.inr (Nat.le_refl _)) _⟩
          exact results_row_tmp2 rfl _ _ w.heap.size _ #[.int .u64 (f : Int), .slice aE mE cE] (0, 0) _ rfl (setRow_heap _ _ _ _ _ _ (unhide HT5).z) Tryz.underlying35 rfl Tryz.size_batch _ rfl
        · have HE := hide (by have h9 := unhide HDF; rw [if_pos h0] at h9; exact h9 : D = (0, [], fE))
          have hb0 : ((fE : Int) != 0) = true := by rw [bne_iff_ne]; omega
          go_wp2_with (refine wpList_store_row rfl 35 _ _ rfl w.heap.size #[.int .u64 0, .slice none 0 0] rfl rfl _ #[.int .u64 0, .slice none 0 0] (unhide HT5).z Tryz.size_batch rfl (by simp [Value.oneCell']) ?_)
          refine bodyPost_ret (v := .tuple #[.agg #[.int .u64 0, .slice none 0 0], .int .i64 fE]) ?_ rfl ⟨.slice none 0 0, by rw [unhide HE]; rfl, by rw [unhide HE]; exact NewN.nil _ _ (Kept.size (L := []) ((unhide HT5).kept.setRowE (Or.inr (Nat.le_refl _)) _)), (unhide HT5).kept.setRowE (Or.inr (Nat.le_refl _)) _⟩
          exact results_row_tmp2 rfl _ _ w.heap.size _ #[.int .u64 0, .slice none 0 0] (0, 0) _ rfl (setRow_heap _ _ _ _ _ _ (unhide HT5).z) Tryz.underlying35 rfl Tryz.size_batch _ rfl
end Go.Proofs.YtckkalmhekfnhaaGreatDoor
namespace Go.Proofs.YtckkalmhekfnhaaGreatDoor
open Go.RowKit Go.BigFrame
set_option linter.unusedVariables false
set_option linter.unusedSimpArgs false

theorem Tryz.size_rseg : (Tryz.prog.info? 56).map (·.size) = some 6 := by kernel_rfl
theorem nextF_bounds (p : List Nat) (z : Int) (hb : ∀ x ∈ p, x < 256) : (nextF p z).pl < 18446744073709551616 ∧ (nextF p z).pay.length ≤ 65535 := by
  rcases nextF_cases p z hb with ⟨_, hN⟩ | ⟨_, hN⟩ | ⟨m, pl, pay, hzn, hN, b1, b2, b3, b4, b5, b6, b7⟩
  · rw [hN]; simp
  · rw [hN]; simp
  · rw [hN]; exact ⟨b1, b3⟩
theorem hdF_no {p : List Nat} (hb : ∀ x ∈ p, x < 256) (h : (nextF p 0).kind ≠ 1 ∨ payH (nextF p 0).pl (nextF p 0).pay = false) : (hdF p).isSome = false := by
  by_cases hk : (nextF p 0).kind = 1
  · rcases h with h | h
    · exact absurd hk h
    rcases nextF_cases p 0 hb with ⟨_, hN⟩ | ⟨_, hN⟩ | ⟨m, pl, pay, hzn, hN, b1, b2, b3, b4, b5, b6, b7⟩
    · rw [hN] at hk; simp at hk
    · rw [hN] at hk; simp at hk
    · obtain rfl : m = 0 := by omega
      rw [List.drop_zero] at b7
      rw [hN] at h
      simp only at h
      unfold hdF
      rw [b7]
      simp [h]
  · rw [nextF_kind hk]; rfl
theorem hdF_yes {p : List Nat} (hb : ∀ x ∈ p, x < 256) (hk : (nextF p 0).kind = 1) (h : payH (nextF p 0).pl (nextF p 0).pay = true) : (hdF p).isSome = true ∧ (nextF p 0).next = 48 ∧ hdC p = ⟨beL (((nextF p 0).pay.drop 5).take 8), beL (((nextF p 0).pay.drop 13).take 8), beL (((nextF p 0).pay.drop 21).take 8), (nextF p 0).pay.getD 29 0⟩ := by
  rcases nextF_cases p 0 hb with ⟨_, hN⟩ | ⟨_, hN⟩ | ⟨m, pl, pay, hzn, hN, b1, b2, b3, b4, b5, b6, b7⟩
  · rw [hN] at hk; simp at hk
  · rw [hN] at hk; simp at hk
  · obtain rfl : m = 0 := by omega
    rw [List.drop_zero] at b7
    rw [hN] at h ⊢
    simp only at h ⊢
    have h30 : pay.length = 30 := by unfold payH at h; simp at h; exact h.1
    refine ⟨?_, by rw [h30]; rfl, ?_⟩
    · unfold hdF; rw [b7]; simp [h]
    · unfold hdC hdF; rw [b7]; simp [h]

set_option maxRecDepth 100000 in
set_option maxHeartbeats 4000000 in
theorem docRead_any (v : Value) (p : List Nat) (w : World) (h : Rd w v p) (hl : p.length ≤ 100000000000) :
    Calls Tryz.prog 23 #[v] w fun e w' => ∃ bv, e = .returned (.tuple #[.agg #[.int .u64 (hdC p).a, .int .u64 (hdC p).b, .int .u64 (hdC p).c, .int .i64 (hdC p).d, bv, .int .i64 (sgU p)], .int .i64 (sgE p)]) ∧ RdB w' bv (sgB p) ∧ Kept [] w w' ∧ ∀ M w2, Kept M w' w2 → (∀ x ∈ M, x < w.heap.size) → RdB w2 bv (sgB p) := by
  have H := hide h
  obtain ⟨a1, n1, c1, rfl, hn1, _⟩ := id h
  subst hn1
  clear h
  have HZ0 := hide (heap_alloc_new w (.cells #[.int .u64 0, .int .u64 0, .int .u64 0, .int .i64 0, .slice none 0 0, .int .i64 0] 56))
  have HK0 := hide ((Kept.refl [] w).alloc (.cells #[.int .u64 0, .int .u64 0, .int .u64 0, .int .i64 0, .slice none 0 0, .int .i64 0] 56))
  have HLP := hide hl
  obtain ⟨U, hU⟩ : ∃ U, sgU p = U := ⟨_, rfl⟩
  obtain ⟨S, hS⟩ : ∃ S, sgB p = S := ⟨_, rfl⟩
  obtain ⟨E, hE⟩ : ∃ E, sgE p = E := ⟨_, rfl⟩
  obtain ⟨X, hX⟩ : ∃ X, hdC p = X := ⟨_, rfl⟩
  rw [hX, hU, hS, hE]
  have HNO := hide (fun (h0 : (hdF p).isSome = false) => by
    rw [← hU, ← hS, ← hE]
    exact ⟨by rw [← hX]; rw [Option.isSome_eq_false_iff, Option.isNone_iff_eq_none] at h0; simp [hdC, h0], by simp [sgU, h0], by simp [sgB, h0], by simp [sgE, h0]⟩ : (hdF p).isSome = false → X = ⟨0, 0, 0, 0⟩ ∧ U = 0 ∧ S = [] ∧ E = 3)
  have HYE := hide (fun (h0 : (hdF p).isSome = true) => by
    rw [← hU, ← hS, ← hE, ← hX]
    exact ⟨by simp [sgU, h0], by simp [sgB, h0], by simp [sgE, h0]⟩ : (hdF p).isSome = true → U = (rdL p.length p 48 X.c).2 ∧ S = (rdL p.length p 48 X.c).1 ∧ E = 0)
  have HXE := hide hX
  clear hU hS hE hX hl
  go_enter Tryz.func23, Tryz.ntmps23
  go_wp2_with fail
  refine Calls.mono (docNext_any _ p 0 _ ((unhide H).old (unhide HK0) (by simp)) (by omega)) ?_
  rintro e w1 ⟨v1, rfl, n1, k1⟩
  obtain ⟨av, nv, cv, rfl, hnv, _⟩ := id n1.1
  have HNB := hide (nextF_bounds p 0 (unhide H).byte)
  have HNN := hide (fun h => hdF_no (p := p) (unhide H).byte h)
  have HNY := hide (fun h1 h2 => hdF_yes (p := p) (unhide H).byte h1 h2)
  obtain ⟨N, hN⟩ : ∃ N, nextF p 0 = N := ⟨_, rfl⟩
  rw [hN] at n1 HNB hnv ⊢
  simp only [hN] at HNN HNY
  clear hN
  have HN1 := hide n1.1
  have HZ1 := hide (k1.heap (unhide HZ0) (by simp))
  have HK1 := hide ((unhide HK0).trans k1 (by simp))
  clear n1 k1 hnv HZ0 HK0
  have KA := hide ((Kept.refl [] w1).alloc (.cells #[.int .u64 (N.pl : Int), .slice av nv cv] 91))
  have HFW := hide (heap_alloc_new w1 (.cells #[.int .u64 (N.pl : Int), .slice av nv cv] 91))
  obtain ⟨W1, hW1⟩ : ∃ W, w1.alloc (.cells #[.int .u64 (N.pl : Int), .slice av nv cv] 91) = W := ⟨_, rfl⟩
  rw [hW1] at KA HFW
  have HW1 := hide hW1
  clear hW1
  have g0 : W1.cell? ⟨w1.heap.size, 0, none⟩ = some (.int .u64 (N.pl : Int)) := by rw [cell_of_row _ _ _ _ _ _ (unhide HFW)]; rfl
  have g1 : W1.cell? ⟨w1.heap.size, 1, none⟩ = some (.slice av nv cv) := by rw [cell_of_row _ _ _ _ _ _ (unhide HFW)]; rfl
  rw [← unhide HW1] at g0 g1
  go_wp2_with fail
  rw [unhide HW1]
  clear g0 g1
  refine Calls.mono (refHead_any N.pl _ N.pay W1 ((unhide HN1).old (unhide KA) (by simp)) (unhide HNB).1 (unhide HNB).2) ?_
  rintro e w2 ⟨a, b, c, d, rfl, hv2, k2⟩
  have HV2 := hide hv2
  have HZ2 := hide (k2.heap ((unhide KA).heap (unhide HZ1) (by simp)) (by simp))
  have HK2 := hide (((unhide HK1).trans (unhide KA) (by simp)).trans k2 (by simp))
  clear hv2 k2 HZ1 HK1 KA HFW HW1 HN1
  have HHW := hide (heap_alloc_new w2 (.cells #[.int .u64 (a : Int), .int .u64 (b : Int), .int .u64 (c : Int), .int .i64 (d : Int)] 41))
  have HKW := hide ((unhide HK2).alloc (.cells #[.int .u64 (a : Int), .int .u64 (b : Int), .int .u64 (c : Int), .int .i64 (d : Int)] 41))
  have HZW := hide (((Kept.refl [] w2).alloc (.cells #[.int .u64 (a : Int), .int .u64 (b : Int), .int .u64 (c : Int), .int .i64 (d : Int)] 41)).heap (unhide HZ2) (by simp))
  obtain ⟨W2, hW2⟩ : ∃ W, w2.alloc (.cells #[.int .u64 (a : Int), .int .u64 (b : Int), .int .u64 (c : Int), .int .i64 (d : Int)] 41) = W := ⟨_, rfl⟩
  rw [hW2] at HHW HKW HZW
  have HW2 := hide hW2
  clear hW2
  obtain ⟨d0, d1, d2, d3, d4, d5⟩ := scells (unhide HZW)
  obtain ⟨f0, f1, f2, f3, f4, f5⟩ := sfroz (unhide HZW)
  obtain ⟨g0, g1, g2, g3⟩ := hcells (unhide HHW)
  rw [← unhide HW2] at d0 d1 d2 d3 d4 d5 f0 f1 f2 f3 f4 f5 g0 g1 g2 g3
  by_cases hok : N.kind = 1 ∧ payH N.pl N.pay = true
  · obtain ⟨hk, hp⟩ := hok
    obtain ⟨y1, y2, y3⟩ := unhide HNY hk hp
    obtain ⟨z1, z2, z3, z4⟩ := unhide HV2 hp
    rw [← z1, ← z2, ← z3, ← z4, unhide HXE] at y3
    have HV := hide (unhide HYE y1)
    rw [y3] at HV
    have HX := hide y3
    have hkb : ((N.kind : Int) != 1) = false := by rw [hk]; rfl
    rw [hp, y2]
    clear hk hp y1 y2 y3 z1 z2 z3 z4 HNY HNN HNO HYE HV2 HXE
    obtain ⟨T, hT⟩ : ∃ T, rdL p.length p 48 c = T := ⟨_, rfl⟩
    have HT := hide hT
    simp only [hT] at HV
    clear hT
    have HS0 := hide (heap_alloc_new W2 (.cells #[.int .u64 (a : Int), .int .u64 (b : Int), .int .u64 (c : Int), .int .i64 (d : Int), .slice none 0 0, .int .i64 48] 56))
    have HKS := hide ((Kept.refl [] W2).alloc (.cells #[.int .u64 (a : Int), .int .u64 (b : Int), .int .u64 (c : Int), .int .i64 (d : Int), .slice none 0 0, .int .i64 48] 56))
    have HSZ := hide (by rw [← unhide HW2]; simp : W2.heap.size = w2.heap.size + 1)
    rw [unhide HSZ] at HS0
    go_wp2_with fail
    rw [unhide HW2]
    have HZS := hide ((unhide HKS).heap (unhide HZW) (by simp))
    have HKw := hide ((unhide HKW).trans (unhide HKS) (by simp))
    have HLT := hide (by have := lt_of_block (unhide HZ2); omega : w.heap.size < w2.heap.size + 1)
    obtain ⟨W3, hW3⟩ : ∃ W, W2.alloc (.cells #[.int .u64 (a : Int), .int .u64 (b : Int), .int .u64 (c : Int), .int .i64 (d : Int), .slice none 0 0, .int .i64 48] 56) = W := ⟨_, rfl⟩
    have HS2 := hide (by rw [← hW3]; simp [unhide HSZ] : W3.heap.size = w2.heap.size + 1 + 1)
    rw [hW3] at HS0 HKS HZS HKw ⊢
    clear hW3 d0 d1 d2 d3 d4 d5 f0 f1 f2 f3 f4 f5 g0 g1 g2 g3 HKS hkb
    go_loopw [10] (fun t10 wr => ∃ (n f i : Nat) (bv : Value) (ts : List (Nat × Value × List En)), t10 = .int .u64 (i : Int) ∧ Hid (n ≤ p.length + 48 ∧ p.length ≤ n + f ∧ ts.length ≤ n) ∧ Hid (T = (ts.map (fun t => (t.1, t.2.2)) ++ (rdL f p n i).1, (rdL f p n i).2)) ∧ Hid (wr.heap[w2.heap.size + 1]? = some (.cells #[.int .u64 (a : Int), .int .u64 (b : Int), .int .u64 (c : Int), .int .i64 (d : Int), bv, .int .i64 (n : Int)] 56 (0, 0))) ∧ Hid (OwnB W3 wr bv ts) ∧ Hid (Kept [] w wr) ∧ Hid (wr.heap[w.heap.size]? = some (.cells #[.int .u64 0, .int .u64 0, .int .u64 0, .int .i64 0, .slice none 0 0, .int .i64 0] 56 (0, 0)))) (fun _ wr => p.length - (intOf ((wr.cell? ⟨w2.heap.size + 1, 5, none⟩).getD undef)).toNat)
    case atStart => exact ⟨48, p.length, c, .slice none 0 0, [], rfl, hide ⟨by omega, by omega, by simp⟩, hide (by rw [unhide HT]; simp), HS0, hide (OwnB.start _), HKw, HZS⟩
    case round =>
      obtain ⟨n, f, i, bv, ts, rfl, HN, HR, HS, HO, HK, HZ⟩ := hrel
      obtain ⟨s0, s1, s2, s3, s4, s5⟩ := scells (unhide HS)
      have HC5 := hide s5
      go_wp2_with fail
      refine Calls.mono (docNext_any _ p (n : Int) wr ((unhide H).old (unhide HK) (by simp)) (by have := (unhide HN).1; have := unhide HLP; omega)) ?_
      rintro e w4 ⟨v4, rfl, n4, k4⟩
      obtain ⟨a4, m4, c4, rfl, hm4, _⟩ := id n4.1
      have HN4 := hide n4.1
      have HK4 := hide k4
      clear n4 k4 hm4 s0 s1 s2 s3 s4 s5
      obtain ⟨Y, hY⟩ : ∃ Y, nextF p (n : Int) = Y := ⟨_, rfl⟩
      have HRB := hide (⟨by unfold rbOk; rw [hY], fun h => by unfold rbE; rw [if_pos h, hY], fun h => by unfold rbN; rw [if_pos h, hY]⟩ : rbOk p (n : Int) i = decide (Y.kind = 1 ∧ Y.pl = i ∧ (decB Y.pay).2.2 = 0 ∧ (decB Y.pay).1 = i) ∧ (rbOk p (n : Int) i = true → rbE p (n : Int) i = (decB Y.pay).2.1) ∧ (rbOk p (n : Int) i = true → rbN p (n : Int) i = Y.next))
      rw [hY] at HN4 ⊢
      clear hY
      have KA := hide ((Kept.refl [] w4).alloc (.cells #[.int .u64 (Y.pl : Int), .slice a4 m4 c4] 91))
      have HFW := hide (heap_alloc_new w4 (.cells #[.int .u64 (Y.pl : Int), .slice a4 m4 c4] 91))
      obtain ⟨W4, hW4⟩ : ∃ W, w4.alloc (.cells #[.int .u64 (Y.pl : Int), .slice a4 m4 c4] 91) = W := ⟨_, rfl⟩
      rw [hW4] at KA HFW
      have HW4 := hide hW4
      clear hW4
      have g1 : W4.cell? ⟨w4.heap.size, 1, none⟩ = some (.slice a4 m4 c4) := by rw [cell_of_row _ _ _ _ _ _ (unhide HFW)]; rfl
      rw [← unhide HW4] at g1
      go_wp2_with fail
      rw [unhide HW4]
      clear g1
      refine Calls.mono (docDecodeBatchN_any _ Y.pay W4 ((unhide HN4).old (unhide KA) (by simp))) ?_
      rintro e w5 ⟨b5, rfl, nb, k5⟩
      obtain ⟨a5, n5, c5, _, _, hb5, hl5, _⟩ := id nb.rdN
      subst hb5
      have HL5 := hide hl5
      have HNB5 := hide nb
      have HKK := hide (((unhide HK4).trans (unhide KA) (by simp)).trans k5 (by simp))
      have HG5 := hide (k5.heap (unhide HFW) (by simp))
      have HSB := hide (by have := ((unhide HK4).trans (unhide KA) (by simp)).size; exact this : wr.heap.size ≤ W4.heap.size)
      have HSB5 := hide k5.size
      have HO5 := hide ((unhide HO).pass (unhide HKK) (by simp))
      have HS5 := hide ((unhide HKK).heap (unhide HS) (by simp))
      have HZ5 := hide ((unhide HKK).heap (unhide HZ) (by simp))
      have HK5 := hide ((unhide HK).trans (unhide HKK) (by simp))
      have HBB := hide (fun b hb => ((unhide HO).own.lt b hb).2 : ∀ b, bv.ownBlock = some b → b < wr.heap.size)
      have HWB := hide ((unhide HO).sz)
      clear k5 nb hl5 HS HO HK HZ HKK HN4 HK4 KA HFW HW4
      obtain ⟨D, hD⟩ : ∃ D, decB Y.pay = D := ⟨_, rfl⟩
      rw [hD] at HRB HNB5 HL5 ⊢
      clear hD
      have HBW := hide (heap_alloc_new w5 (.cells #[.int .u64 (D.1 : Int), .slice a5 n5 c5] 35))
      have KA := hide ((Kept.refl [] w5).alloc (.cells #[.int .u64 (D.1 : Int), .slice a5 n5 c5] 35))
      obtain ⟨W5, hW5⟩ : ∃ W, w5.alloc (.cells #[.int .u64 (D.1 : Int), .slice a5 n5 c5] 35) = W := ⟨_, rfl⟩
      rw [hW5] at HBW KA
      have HW5 := hide hW5
      clear hW5
      have HS6 := hide ((unhide KA).heap (unhide HS5) (by simp))
      have HZ6 := hide ((unhide KA).heap (unhide HZ5) (by simp))
      have HG6 := hide ((unhide KA).heap (unhide HG5) (by simp))
      obtain ⟨s0, s1, s2, s3, s4, s5⟩ := scells (unhide HS6)
      obtain ⟨b0, b1⟩ := bcells (unhide HBW)
      obtain ⟨z0, z1, z2, z3, z4, z5⟩ := scells (unhide HZ6)
      obtain ⟨f0, f1, f2, f3, f4, f5⟩ := sfroz (unhide HZ6)
      have g0 : W5.cell? ⟨w4.heap.size, 0, none⟩ = some (.int .u64 (Y.pl : Int)) := by rw [cell_of_row _ _ _ _ _ _ (unhide HG6)]; rfl
      rw [← unhide HW5] at s0 s1 s2 s3 s4 s5 b0 b1 z0 z1 z2 z3 z4 z5 f0 f1 f2 f3 f4 f5 g0
      by_cases hrb : rbOk p (n : Int) i = true
      · obtain ⟨m, hm, hm1, hm2⟩ := rb_next (unhide H).byte hrb
        have hes := (unhide HRB).2.1 hrb
        have hnx := (unhide HRB).2.2 hrb
        have h4 : Y.kind = 1 ∧ Y.pl = i ∧ D.2.2 = 0 ∧ D.1 = i := by have h9 := (unhide HRB).1; rw [hrb] at h9; exact of_decide_eq_true h9.symm
        obtain ⟨q1, q2, q3, q4⟩ := h4
        obtain ⟨f', rfl⟩ : ∃ f', f = f' + 1 := ⟨f - 1, by have := (unhide HN).2.1; omega⟩
        have HE := hide (rdL_yes (k := f') hrb)
        rw [hm, Int.toNat_natCast, hes] at HE
        rw [hm] at hnx
        obtain ⟨k0, pl0, pay0, nx0, hY0⟩ : ∃ k pl pay nx, Y = ⟨pl, pay, nx, k⟩ := ⟨Y.kind, Y.pl, Y.pay, Y.next, rfl⟩
        subst hY0
        simp only at q1 q2 hnx g0 HRB HG5 HG6
        subst q1
        subst q2
        subst hnx
        obtain ⟨e1, es, e2⟩ := D
        simp only at q3 q4 HE HNB5 HL5 HBW HW5 KA b0 b1 s0 s1 s2 s3 s4 s5 z0 z1 z2 z3 z4 z5 f0 f1 f2 f3 f4 f5 g0
        subst q3
        subst q4
        have HM := hide (⟨hm1, hm2⟩ : n + 18 < m ∧ m ≤ p.length)
        clear hrb hm hm1 hm2 hes HRB
        have HO4 := hide (((unhide HO5).pass (unhide KA) (by simp)).pass ((Kept.refl [] W5).alloc (.cells #[.int .u64 (e1 : Int), .slice a5 n5 c5] 35)) (by simp))
        have HX4 := hide (((Kept.refl [] W5).alloc (.cells #[.int .u64 (e1 : Int), .slice a5 n5 c5] 35)).heap (unhide HS6) (by simp))
        have HY4 := hide (((Kept.refl [] W5).alloc (.cells #[.int .u64 (e1 : Int), .slice a5 n5 c5] 35)).heap (unhide HZ6) (by simp))
        have HQ4 := hide (((Kept.refl [] W5).alloc (.cells #[.int .u64 (e1 : Int), .slice a5 n5 c5] 35)).heap (unhide HBW) (by simp))
        have HK4 := hide (((unhide HK5).trans (unhide KA) (by simp)).alloc (.cells #[.int .u64 (e1 : Int), .slice a5 n5 c5] 35))
        have HN4 := hide (((unhide HNB5).kept (unhide KA) (by simp)).kept ((Kept.refl [] W5).alloc (.cells #[.int .u64 (e1 : Int), .slice a5 n5 c5] 35)) (by simp))
        have HH4 := hide (by rw [← unhide HW5]; exact heap_alloc2_new _ _ _ : (W5.alloc (.cells #[.int .u64 (e1 : Int), .slice a5 n5 c5] 35)).heap[w5.heap.size + 1]? = some (.cells #[.int .u64 (e1 : Int), .slice a5 n5 c5] 35 (0, 0)))
        rw [← unhide HW5] at HO4 HX4 HY4 HQ4 HK4 HN4 HH4
        have HNB4 := hide (fun b hb => by have := unhide HBB b hb; have := unhide HSB; have := unhide HSB5; exact Nat.ne_of_lt (by omega) : ∀ b, bv.ownBlock = some b → b ≠ w5.heap.size)
        have HNS4 := hide (fun b hb => by have := ((unhide HO5).own.lt b hb).1; have := unhide HS2; omega : ∀ b, bv.ownBlock = some b → b ≠ w2.heap.size + 1)
        have HNZ4 := hide (fun b hb => by have := ((unhide HO5).own.lt b hb).1; have := unhide HS2; have := unhide HLT; omega : ∀ b, bv.ownBlock = some b → b ≠ w.heap.size)
        go_upto_region 13 with (at_builtin; refine wpList_pushB rfl (.tmp 73) (.tmp 75) rfl rfl _ W3.heap.size bv ts e1 (.slice a5 n5 c5) (w5.heap.size + 1) (unhide HO4).own (unhide HH4) rfl (by have := unhide HN; have := unhide HLP; omega) (unhide HO4).sz rfl rfl ?_; intro g cap w6 HO6 HG6 HA6; (have HX6 := hide (((Kept.refl (bv.ownBlock.toList) _).grown (unhide HG6) (by intro k hk; left; simp [hk])).heap (unhide HX4) (by intro hm; exact unhide HNS4 _ (by simpa using hm) rfl))); (obtain ⟨x0, x1, x2, x3, x4, x5⟩ := scells (unhide HX6)); (obtain ⟨q0, q1, q2, q3, q4, q5⟩ := sfroz (unhide HX6)))
        have HK6 := hide ((Kept.refl (bv.ownBlock.toList) _).grown (unhide HG6) (by intro k hk; left; simp [hk]))
        have HB6 := hide ((unhide HK6).heap (unhide HQ4) (by intro hm; exact unhide HNB4 _ (by simpa using hm) rfl))
        have HZ6 := hide ((unhide HK6).heap (unhide HY4) (by intro hm; exact unhide HNZ4 _ (by simpa using hm) rfl))
        have HP6 := hide ((unhide HO4).push (unhide HN4) (by have := unhide HWB; have := unhide HSB; omega) (fun b hb => by have := unhide HBB b hb; have := unhide HSB; omega) (unhide HO6) (unhide HG6) (unhide HA6))
        have HKW6 := hide ((unhide HK4).grown (unhide HG6) (fun k hk => Or.inr (by have := ((unhide HO5).own.lt k hk).1; have := unhide HS2; have := unhide HLT; omega)))
        have HSS := hide (by have := lt_of_block (unhide HX6); have := (unhide HO5).sz; have := unhide HS2; have := unhide HWB; have := unhide HSB; omega : w2.heap.size + 1 ≠ w5.heap.size)
        clear x0 x1 x2 x3 x4 x5 q0 q1 q2 q3 q4 q5 HO6 HG6 HA6 HO4 HX4 HY4 HQ4 HK4 HN4 HH4 HNB4 HNS4 HNZ4 HK6 s0 s1 s2 s3 s4 s5 b0 b1 z0 z1 z2 z3 z4 z5 f0 f1 f2 f3 f4 f5 g0 HW5 HBW KA HS6
        have HX7 := hide (put45_heap (unhide HX6) (.slice (some ⟨g, 0, none⟩) (ts.length + 1) cap) (.int .i64 (m : Int)))
        have HK7 := hide (((Kept.refl [w2.heap.size + 1] w6).setCell (p := ⟨w2.heap.size + 1, 4, none⟩) (Or.inl (by simp)) (.slice (some ⟨g, 0, none⟩) (ts.length + 1) cap)).setCell (p := ⟨w2.heap.size + 1, 5, none⟩) (Or.inl (by simp)) (.int .i64 (m : Int)))
        have HKW7 := hide (((unhide HKW6).setCell (p := ⟨w2.heap.size + 1, 4, none⟩) (Or.inr (by have := unhide HLT; simp only; omega)) (.slice (some ⟨g, 0, none⟩) (ts.length + 1) cap)).setCell (p := ⟨w2.heap.size + 1, 5, none⟩) (Or.inr (by have := unhide HLT; simp only; omega)) (.int .i64 (m : Int)))
        generalize (w6.setCell ⟨w2.heap.size + 1, 4, none⟩ (.slice (some ⟨g, 0, none⟩) (ts.length + 1) cap)).setCell ⟨w2.heap.size + 1, 5, none⟩ (.int .i64 (m : Int)) = W7 at HX7 HK7 HKW7 ⊢
        have HB7 := hide ((unhide HK7).heap (unhide HB6) (by intro hm; exact unhide HSS (by simpa using (List.mem_singleton.1 hm).symm)))
        have HZ7 := hide ((unhide HK7).heap (unhide HZ6) (by intro hm; have := List.mem_singleton.1 hm; have := unhide HLT; omega))
        have HP7 := hide ((unhide HP6).pass (unhide HK7) (by have := unhide HS2; simp; omega))
        obtain ⟨g0, g1⟩ := bcells (unhide HB7)
        go_wp2_with fail
        go_roundw
        case rel =>
          refine ⟨m, f', (e1 + es.length) % 18446744073709551616, .slice (some ⟨g, 0, none⟩) (ts.length + 1) cap, ts ++ [(e1, .slice a5 n5 c5, es)], ?_, hide ⟨by have := (unhide HM).2; omega, by have := (unhide HN).2.1; have := (unhide HM).1; omega, by have := (unhide HN).2.2; have := (unhide HM).1; rw [List.length_append]; simp; omega⟩, hide ?_, HX7, HP7, HKW7, HZ7⟩
          · have h9 := unhide HL5
            rw [h9, IntKind.wrap_u64]
            simp
          · rw [unhide HR, unhide HE]
            simp
        case measure =>
          rw [(scells (unhide HX7)).2.2.2.2.2, unhide HC5]
          have := unhide HM
          simp [intOf]
          omega
      · rw [Bool.not_eq_true] at hrb
        have HE := hide (rdL_no (k := f) hrb)
        have HBS := hide (by
          have h9 := (unhide HO5).own.2
          rcases h9 with ⟨rfl, _⟩ | ⟨g, cap, cur, rfl, _⟩
          · exact ⟨_, _, _, rfl⟩
          · exact ⟨_, _, _, rfl⟩ : ∃ a n c, bv = .slice a n c)
        obtain ⟨ab, nb, cb, rfl⟩ := unhide HBS
        have h4 : ¬ (Y.kind = 1 ∧ Y.pl = i ∧ D.2.2 = 0 ∧ D.1 = i) := by have h9 := (unhide HRB).1; rw [hrb] at h9; exact of_decide_eq_false h9.symm
        clear hrb HRB
        by_cases t1 : Y.kind = 1
        · have t1' : ((Y.kind : Int) != 1) = false := by rw [t1]; rfl
          by_cases t2 : D.2.2 = 0
          · have t2' : ((D.2.2 : Int) != 0) = false := by rw [t2]; rfl
            by_cases t3 : Y.pl = i
            · have t3' : ((Y.pl : Int) != (i : Int)) = false := by rw [t3]; simp
              have t4 : D.1 ≠ i := fun h => h4 ⟨t1, t3, t2, h⟩
              have t4' : ((D.1 : Int) != (i : Int)) = true := by rw [bne_iff_ne]; omega
              clear t1 t2 t3 t4 h4
              go_wp2
              rw [unhide HW5]
              refine bodyPost_ret (v := .tuple #[.agg #[.int .u64 (a : Int), .int .u64 (b : Int), .int .u64 (c : Int), .int .i64 (d : Int), .slice ab nb cb, .int .i64 (n : Int)], .int .i64 0]) ?_ rfl ⟨.slice ab nb cb, by rw [(unhide HV).1, (unhide HV).2.2, unhide HR, unhide HE, unhide HX]; rfl, ?_, put6_kept ((unhide HK5).trans (unhide KA) (by simp)) w.heap.size (Or.inr (Nat.le_refl _)) _ _ _ _ _ _, ?_⟩
              · exact results_cell_tmp rfl _ _ w.heap.size _ #[.int .u64 (a : Int), .int .u64 (b : Int), .int .u64 (c : Int), .int .i64 (d : Int), .slice ab nb cb, .int .i64 (n : Int)] (0, 0) _ rfl (put6_heap (unhide HZ6) _ _ _ _ _ _) Tryz.underlying56 rfl Tryz.size_rseg _ rfl
              · rw [(unhide HV).2.1, unhide HR, unhide HE, List.append_nil]
                exact (((unhide HO5).pass (unhide KA) (by simp)).pass (put6_kept (L := [w.heap.size]) (Kept.refl _ W5) w.heap.size (Or.inl (by simp)) _ _ _ _ _ _) (by have := unhide HLT; have := unhide HS2; simp; omega)).rdB
              · intro M w9 k9 hM
                rw [(unhide HV).2.1, unhide HR, unhide HE, List.append_nil]
                exact ((((unhide HO5).pass (unhide KA) (by simp)).pass (put6_kept (L := [w.heap.size]) (Kept.refl _ W5) w.heap.size (Or.inl (by simp)) _ _ _ _ _ _) (by have := unhide HLT; have := unhide HS2; simp; omega)).pass k9 (fun x hx => by have := hM x hx; have := unhide HLT; have := unhide HS2; omega)).rdB
            · have t3' : ((Y.pl : Int) != (i : Int)) = true := by rw [bne_iff_ne]; omega
              clear t1 t2 t3 h4
              go_wp2
              rw [unhide HW5]
              refine bodyPost_ret (v := .tuple #[.agg #[.int .u64 (a : Int), .int .u64 (b : Int), .int .u64 (c : Int), .int .i64 (d : Int), .slice ab nb cb, .int .i64 (n : Int)], .int .i64 0]) ?_ rfl ⟨.slice ab nb cb, by rw [(unhide HV).1, (unhide HV).2.2, unhide HR, unhide HE, unhide HX]; rfl, ?_, put6_kept ((unhide HK5).trans (unhide KA) (by simp)) w.heap.size (Or.inr (Nat.le_refl _)) _ _ _ _ _ _, ?_⟩
              · exact results_cell_tmp rfl _ _ w.heap.size _ #[.int .u64 (a : Int), .int .u64 (b : Int), .int .u64 (c : Int), .int .i64 (d : Int), .slice ab nb cb, .int .i64 (n : Int)] (0, 0) _ rfl (put6_heap (unhide HZ6) _ _ _ _ _ _) Tryz.underlying56 rfl Tryz.size_rseg _ rfl
              · rw [(unhide HV).2.1, unhide HR, unhide HE, List.append_nil]
                exact (((unhide HO5).pass (unhide KA) (by simp)).pass (put6_kept (L := [w.heap.size]) (Kept.refl _ W5) w.heap.size (Or.inl (by simp)) _ _ _ _ _ _) (by have := unhide HLT; have := unhide HS2; simp; omega)).rdB
              · intro M w9 k9 hM
                rw [(unhide HV).2.1, unhide HR, unhide HE, List.append_nil]
                exact ((((unhide HO5).pass (unhide KA) (by simp)).pass (put6_kept (L := [w.heap.size]) (Kept.refl _ W5) w.heap.size (Or.inl (by simp)) _ _ _ _ _ _) (by have := unhide HLT; have := unhide HS2; simp; omega)).pass k9 (fun x hx => by have := hM x hx; have := unhide HLT; have := unhide HS2; omega)).rdB
          · have t2' : ((D.2.2 : Int) != 0) = true := by rw [bne_iff_ne]; omega
            clear t1 t2 h4
            go_wp2
            rw [unhide HW5]
            refine bodyPost_ret (v := .tuple #[.agg #[.int .u64 (a : Int), .int .u64 (b : Int), .int .u64 (c : Int), .int .i64 (d : Int), .slice ab nb cb, .int .i64 (n : Int)], .int .i64 0]) ?_ rfl ⟨.slice ab nb cb, by rw [(unhide HV).1, (unhide HV).2.2, unhide HR, unhide HE, unhide HX]; rfl, ?_, put6_kept ((unhide HK5).trans (unhide KA) (by simp)) w.heap.size (Or.inr (Nat.le_refl _)) _ _ _ _ _ _, ?_⟩
            · exact results_cell_tmp rfl _ _ w.heap.size _ #[.int .u64 (a : Int), .int .u64 (b : Int), .int .u64 (c : Int), .int .i64 (d : Int), .slice ab nb cb, .int .i64 (n : Int)] (0, 0) _ rfl (put6_heap (unhide HZ6) _ _ _ _ _ _) Tryz.underlying56 rfl Tryz.size_rseg _ rfl
            · rw [(unhide HV).2.1, unhide HR, unhide HE, List.append_nil]
              exact (((unhide HO5).pass (unhide KA) (by simp)).pass (put6_kept (L := [w.heap.size]) (Kept.refl _ W5) w.heap.size (Or.inl (by simp)) _ _ _ _ _ _) (by have := unhide HLT; have := unhide HS2; simp; omega)).rdB
            · intro M w9 k9 hM
              rw [(unhide HV).2.1, unhide HR, unhide HE, List.append_nil]
              exact ((((unhide HO5).pass (unhide KA) (by simp)).pass (put6_kept (L := [w.heap.size]) (Kept.refl _ W5) w.heap.size (Or.inl (by simp)) _ _ _ _ _ _) (by have := unhide HLT; have := unhide HS2; simp; omega)).pass k9 (fun x hx => by have := hM x hx; have := unhide HLT; have := unhide HS2; omega)).rdB
        · have t1' : ((Y.kind : Int) != 1) = true := by rw [bne_iff_ne]; omega
          clear t1 h4
          go_wp2
          rw [unhide HW5]
          refine bodyPost_ret (v := .tuple #[.agg #[.int .u64 (a : Int), .int .u64 (b : Int), .int .u64 (c : Int), .int .i64 (d : Int), .slice ab nb cb, .int .i64 (n : Int)], .int .i64 0]) ?_ rfl ⟨.slice ab nb cb, by rw [(unhide HV).1, (unhide HV).2.2, unhide HR, unhide HE, unhide HX]; rfl, ?_, put6_kept ((unhide HK5).trans (unhide KA) (by simp)) w.heap.size (Or.inr (Nat.le_refl _)) _ _ _ _ _ _, ?_⟩
          · exact results_cell_tmp rfl _ _ w.heap.size _ #[.int .u64 (a : Int), .int .u64 (b : Int), .int .u64 (c : Int), .int .i64 (d : Int), .slice ab nb cb, .int .i64 (n : Int)] (0, 0) _ rfl (put6_heap (unhide HZ6) _ _ _ _ _ _) Tryz.underlying56 rfl Tryz.size_rseg _ rfl
          · rw [(unhide HV).2.1, unhide HR, unhide HE, List.append_nil]
            exact (((unhide HO5).pass (unhide KA) (by simp)).pass (put6_kept (L := [w.heap.size]) (Kept.refl _ W5) w.heap.size (Or.inl (by simp)) _ _ _ _ _ _) (by have := unhide HLT; have := unhide HS2; simp; omega)).rdB
          · intro M w9 k9 hM
            rw [(unhide HV).2.1, unhide HR, unhide HE, List.append_nil]
            exact ((((unhide HO5).pass (unhide KA) (by simp)).pass (put6_kept (L := [w.heap.size]) (Kept.refl _ W5) w.heap.size (Or.inl (by simp)) _ _ _ _ _ _) (by have := unhide HLT; have := unhide HS2; simp; omega)).pass k9 (fun x hx => by have := hM x hx; have := unhide HLT; have := unhide HS2; omega)).rdB
  · have hN0 : N.kind ≠ 1 ∨ payH N.pl N.pay = false := by
      by_cases hk : N.kind = 1
      · right
        by_cases hp : payH N.pl N.pay = true
        · exact absurd ⟨hk, hp⟩ hok
        · simpa using hp
      · exact Or.inl hk
    have HV := hide (unhide HNO (unhide HNN hN0))
    clear hok HNO HNN HNY HYE HV2 HXE
    by_cases hk : N.kind = 1
    · have hkb : ((N.kind : Int) != 1) = false := by rw [hk]; rfl
      have hp : payH N.pl N.pay = false := by rcases hN0 with h | h; exact absurd hk h; exact h
      rw [hp]
      clear hN0 hk hp
      go_wp2
      rw [unhide HW2]
      refine bodyPost_ret (v := .tuple #[.agg #[.int .u64 0, .int .u64 0, .int .u64 0, .int .i64 0, .slice none 0 0, .int .i64 0], .int .i64 3]) ?_ rfl ⟨.slice none 0 0, by rw [(unhide HV).1, (unhide HV).2.1, (unhide HV).2.2.2]; rfl, by rw [(unhide HV).2.2.1]; exact RdB.nil _, put6_kept (unhide HKW) w.heap.size (Or.inr (Nat.le_refl _)) _ _ _ _ _ _, fun M w9 _ _ => by rw [(unhide HV).2.2.1]; exact RdB.nil _⟩
      exact results_cell_tmp rfl _ _ w.heap.size _ #[.int .u64 0, .int .u64 0, .int .u64 0, .int .i64 0, .slice none 0 0, .int .i64 0] (0, 0) _ rfl (put6_heap (unhide HZW) _ _ _ _ _ _) Tryz.underlying56 rfl Tryz.size_rseg _ rfl
    · have hkb : ((N.kind : Int) != 1) = true := by rw [bne_iff_ne]; omega
      generalize payH N.pl N.pay = PH at hN0 ⊢
      clear hN0 hk
      go_wp2
      rw [unhide HW2]
      refine bodyPost_ret (v := .tuple #[.agg #[.int .u64 0, .int .u64 0, .int .u64 0, .int .i64 0, .slice none 0 0, .int .i64 0], .int .i64 3]) ?_ rfl ⟨.slice none 0 0, by rw [(unhide HV).1, (unhide HV).2.1, (unhide HV).2.2.2]; rfl, by rw [(unhide HV).2.2.1]; exact RdB.nil _, put6_kept (unhide HKW) w.heap.size (Or.inr (Nat.le_refl _)) _ _ _ _ _ _, fun M w9 _ _ => by rw [(unhide HV).2.2.1]; exact RdB.nil _⟩
      exact results_cell_tmp rfl _ _ w.heap.size _ #[.int .u64 0, .int .u64 0, .int .u64 0, .int .i64 0, .slice none 0 0, .int .i64 0] (0, 0) _ rfl (put6_heap (unhide HZW) _ _ _ _ _ _) Tryz.underlying56 rfl Tryz.size_rseg _ rfl
end Go.Proofs.YtckkalmhekfnhaaGreatDoor
namespace Go.Proofs.YtckkalmhekfnhaaGreatDoor
open Go.RowKit Go.BigFrame
set_option linter.unusedVariables false
set_option linter.unusedSimpArgs false

set_option maxRecDepth 100000 in
set_option maxHeartbeats 4000000 in
theorem salike_any (a b c d U E : Nat) (sv tv : Value) (Bs : List (Nat × List En)) (w : World) (hs : RdB w sv Bs) (ht : RdB w tv Bs) :
    Calls Tryz.prog 24 #[.agg #[.int .u64 a, .int .u64 b, .int .u64 c, .int .i64 d, sv, .int .i64 U], .int .i64 E, .agg #[.int .u64 a, .int .u64 b, .int .u64 c, .int .i64 d, tv, .int .i64 U], .int .i64 E] w fun e w' => e = .returned (.bool true) ∧ Kept [] w w' := by
  have HS := hide hs
  have HA := hide ht
  obtain ⟨aS, cs, rfl, hcs1, hcs2⟩ := hs.shape
  obtain ⟨aa, ca, rfl, hca1, hca2⟩ := ht.shape
  clear hs ht
  obtain ⟨k, hk⟩ : ∃ k, Bs.length = k := ⟨_, rfl⟩
  have HBl := hide hk
  rw [hk] at hcs1 hca1 ⊢
  rw [hk] at HS HA
  clear hk
  have HQ0 := hide (scells (((Kept.refl [] (w.alloc (.cells #[.int .u64 (a : Int), .int .u64 (b : Int), .int .u64 (c : Int), .int .i64 (d : Int), .slice aS k cs, .int .i64 (U : Int)] 51))).alloc (.cells #[.int .u64 (a : Int), .int .u64 (b : Int), .int .u64 (c : Int), .int .i64 (d : Int), .slice aa k ca, .int .i64 (U : Int)] 56)).heap (heap_alloc_new w (.cells #[.int .u64 (a : Int), .int .u64 (b : Int), .int .u64 (c : Int), .int .i64 (d : Int), .slice aS k cs, .int .i64 (U : Int)] 51)) (by simp)))
  have HH0 := hide (scells (alloc_at w (.cells #[.int .u64 (a : Int), .int .u64 (b : Int), .int .u64 (c : Int), .int .i64 (d : Int), .slice aS k cs, .int .i64 (U : Int)] 51) (.cells #[.int .u64 (a : Int), .int .u64 (b : Int), .int .u64 (c : Int), .int .i64 (d : Int), .slice aa k ca, .int .i64 (U : Int)] 56)))
  have HK0 := hide (((Kept.refl [] w).alloc (.cells #[.int .u64 (a : Int), .int .u64 (b : Int), .int .u64 (c : Int), .int .i64 (d : Int), .slice aS k cs, .int .i64 (U : Int)] 51)).alloc (.cells #[.int .u64 (a : Int), .int .u64 (b : Int), .int .u64 (c : Int), .int .i64 (d : Int), .slice aa k ca, .int .i64 (U : Int)] 56))
  go_enter Tryz.func24, Tryz.ntmps24
  go_upto_region 1 with fail
  obtain ⟨W0, hW0⟩ : ∃ W, (w.alloc (.cells #[.int .u64 (a : Int), .int .u64 (b : Int), .int .u64 (c : Int), .int .i64 (d : Int), .slice aS k cs, .int .i64 (U : Int)] 51)).alloc (.cells #[.int .u64 (a : Int), .int .u64 (b : Int), .int .u64 (c : Int), .int .i64 (d : Int), .slice aa k ca, .int .i64 (U : Int)] 56) = W := ⟨_, rfl⟩
  rw [hW0] at HQ0 HH0 HK0 ⊢
  clear hW0
  have hnp : ∀ p : Prop, (∀ w', Kept [] W0 w' → p) = p := fun p => propext ⟨fun h => h W0 (Kept.refl [] W0), fun h _ _ => h⟩
  have HR1 := hide (range4 ⟨(unhide HQ0).1, (unhide HQ0).2.1, (unhide HQ0).2.2.1, (unhide HQ0).2.2.2.1⟩)
  have HR2 := hide (range4 ⟨(unhide HH0).1, (unhide HH0).2.1, (unhide HH0).2.2.1, (unhide HH0).2.2.2.1⟩)
  have HY := hide (fun w' (k0 : Kept [] W0 w') => (sdoc_any a b c (d : Int) w').mono (fun e w2 (h2 : _ ∧ _) => (⟨h2.1, k0.trans h2.2 (by simp)⟩ : _ ∧ Kept [] W0 w2)))
  refine wp_region_keep (by kernel_rfl) (by kernel_rfl) ?_
  iterate 5 (go_big_quiet_step (fail))
  refine wpQuiet_mid rfl 32 _ rfl w.heap.size 0 rfl [.int .u64 (a : Int), .int .u64 (b : Int), .int .u64 (c : Int), .int .i64 (d : Int)] _ (fun w' hw' => rangeE_kept (unhide HR1) hw' (by simp)) Tryz.underlying32 rfl Tryz.size_head ?_
  simp only [Act.put, List.setIfInBounds_toArray, List.set_cons_succ, List.set_cons_zero]
  go_big_quiet_want
  go_big_quiet_op
  apply Exists.intro
  refine ⟨fun w' hw' => ?_, ?_⟩
  · exact unhide HY w' hw'
  go_big_quiet_on
  iterate 1 (go_big_quiet_step (fail))
  refine wpQuiet_mid rfl 41 _ rfl (w.heap.size + 1) 0 rfl [.int .u64 (a : Int), .int .u64 (b : Int), .int .u64 (c : Int), .int .i64 (d : Int)] _ (fun w' hw' => rangeE_kept (unhide HR2) hw' (by simp)) Tryz.underlying41 rfl Tryz.size_rhead ?_
  simp only [Act.put, List.setIfInBounds_toArray, List.set_cons_succ, List.set_cons_zero]
  refine wpQuiet_val rfl (.bool false) (fun w' _ => by go_simp) ?_
  simp only [Act.put, List.setIfInBounds_toArray, List.set_cons_succ, List.set_cons_zero]
  iterate 3 (go_big_quiet_step (fail))
  refine wpQuiet_val rfl (.int .i64 (U : Int)) (fun w' hw' => run_load1 3 _ rfl ⟨w.heap.size, 5, none⟩ rfl w' _ .i64 (by kernel_rfl) (hw'.cell (unhide HQ0).2.2.2.2.2 (by simp))) ?_
  simp only [Act.put, List.setIfInBounds_toArray, List.set_cons_succ, List.set_cons_zero]
  iterate 1 (go_big_quiet_step (fail))
  refine wpQuiet_val rfl (.int .i64 (U : Int)) (fun w' hw' => run_load1 3 _ rfl ⟨w.heap.size + 1, 5, none⟩ rfl w' _ .i64 (by kernel_rfl) (hw'.cell (unhide HH0).2.2.2.2.2 (by simp))) ?_
  simp only [Act.put, List.setIfInBounds_toArray, List.set_cons_succ, List.set_cons_zero]
  iterate 4 (go_big_quiet_step (fail))
  refine wpQuiet_val rfl (.slice aS k cs) (fun w' hw' => run_loadS 49 _ rfl ⟨w.heap.size, 4, none⟩ rfl w' _ _ Tryz.underlying49 (hw'.cell (unhide HQ0).2.2.2.2.1 (by simp))) ?_
  simp only [Act.put, List.setIfInBounds_toArray, List.set_cons_succ, List.set_cons_zero]
  iterate 2 (go_big_quiet_step (fail))
  refine wpQuiet_val rfl (.slice aa k ca) (fun w' hw' => run_loadS 49 _ rfl ⟨w.heap.size + 1, 4, none⟩ rfl w' _ _ Tryz.underlying49 (hw'.cell (unhide HH0).2.2.2.2.1 (by simp))) ?_
  simp only [Act.put, List.setIfInBounds_toArray, List.set_cons_succ, List.set_cons_zero]
  repeat (go_big_quiet_step (fail))
  refine wpQuiet_nil ?_
  intro w6 hw6
  have HK6 := hide ((unhide HK0).trans hw6 (by simp))
  have HS4 := hide (hw6.cell (unhide HQ0).2.2.2.2.1 (by simp))
  have HT4 := hide (hw6.cell (unhide HH0).2.2.2.2.1 (by simp))
  clear hw6 hnp HR1 HR2 HH0 HQ0 HY
  go_wp2_with fail
  go_loopw [9] (fun t9 wr => ∃ i : Nat, t9 = .int .i64 (i : Int) ∧ i ≤ k ∧ Hid (Kept [] w wr) ∧ Hid (wr.cell? ⟨w.heap.size, 4, none⟩ = some (.slice aS k cs)) ∧ Hid (wr.cell? ⟨w.heap.size + 1, 4, none⟩ = some (.slice aa k ca))) (fun t _ => k - (intOf t).toNat)
  case atStart => exact ⟨0, rfl, Nat.zero_le _, HK6, HS4, HT4⟩
  case round =>
    obtain ⟨i, rfl, hi, HKr, HSr, HTr⟩ := hrel
    have hsr := unhide HSr
    by_cases hik : i < k
    · have hlt : (i : Int) < (k : Int) := by omega
      obtain ⟨b1, o1, y1, h1, p0, p1, hy1⟩ := ((unhide HS).old (unhide HKr)).at i (by rw [unhide HBl]; exact hik)
      obtain ⟨b2, o2, y2, h2, q0, q1, hy2⟩ := ((unhide HA).old (unhide HKr)).at i (by rw [unhide HBl]; exact hik)
      subst h1
      subst h2
      generalize Bs[i]'(by rw [unhide HBl]; exact hik) = t at p0 hy1 q0 hy2
      obtain ⟨a1, n1, c1, _, _, hv1, _⟩ := id hy1
      subst hv1
      obtain ⟨a2, n2, c2, _, _, hv2, _⟩ := id hy2
      subst hv2
      have HG1 := hide (range2 p0 p1)
      have HG2 := hide (range2 q0 q1)
      have HY := hide (fun w' (kk : Kept [] wr w') => (sameBatch_any t.1 t.1 _ _ t.2 t.2 w' (hy1.old kk) (hy2.old kk)).mono (fun e w2 (h2 : _ ∧ _) => (⟨h2.1, kk.trans h2.2 (by simp)⟩ : _ ∧ Kept [] wr w2)))
      rw [show (decide (t.1 = t.1) && decide (t.2 = t.2)) = true by simp] at HY
      clear p0 p1 q0 q1 hy1 hy2
      go_upto_region 6 with fail
      clear hsr
      have hnp : ∀ p : Prop, (∀ w', Kept [] wr w' → p) = p := fun p => propext ⟨fun h => h wr (Kept.refl [] wr), fun h _ _ => h⟩
      refine wp_region_keep (by kernel_rfl) (by kernel_rfl) ?_
      iterate 1 (go_big_quiet_step (fail))
      refine wpQuiet_val rfl (.slice (some ⟨b1, o1, none⟩) k cs) (fun w' hw' => run_loadS 49 _ rfl ⟨w.heap.size, 4, none⟩ rfl w' _ _ Tryz.underlying49 (hw'.cell (unhide HSr) (by simp))) ?_
      simp only [Act.put, List.setIfInBounds_toArray, List.set_cons_succ, List.set_cons_zero]
      iterate 2 (go_big_quiet_step (fail))
      refine wpQuiet_mid rfl 35 _ rfl b1 (o1 + i * 2) rfl [.int .u64 (t.1 : Int), .slice a1 n1 c1] _ (fun w' hw' => rangeE_kept (unhide HG1) hw' (by simp)) Tryz.underlying35 rfl Tryz.size_batch9 ?_
      simp only [Act.put, List.setIfInBounds_toArray, List.set_cons_succ, List.set_cons_zero]
      iterate 1 (go_big_quiet_step (fail))
      refine wpQuiet_val rfl (.slice (some ⟨b2, o2, none⟩) k ca) (fun w' hw' => run_loadS 49 _ rfl ⟨w.heap.size + 1, 4, none⟩ rfl w' _ _ Tryz.underlying49 (hw'.cell (unhide HTr) (by simp))) ?_
      simp only [Act.put, List.setIfInBounds_toArray, List.set_cons_succ, List.set_cons_zero]
      iterate 2 (go_big_quiet_step (fail))
      refine wpQuiet_mid rfl 35 _ rfl b2 (o2 + i * 2) rfl [.int .u64 (t.1 : Int), .slice a2 n2 c2] _ (fun w' hw' => rangeE_kept (unhide HG2) hw' (by simp)) Tryz.underlying35 rfl Tryz.size_batch9 ?_
      simp only [Act.put, List.setIfInBounds_toArray, List.set_cons_succ, List.set_cons_zero]
      go_big_quiet_want
      go_big_quiet_op
      apply Exists.intro
      refine ⟨fun w' hw' => ?_, ?_⟩
      · exact unhide HY w' hw'
      go_big_quiet_on
      repeat (go_big_quiet_step (fail))
      refine wpQuiet_nil ?_
      intro w7 hw7
      have HK7 := hide ((unhide HKr).trans hw7 (by simp))
      have HS7 := hide (hw7.cell (unhide HSr) (by simp))
      have HT7 := hide (hw7.cell (unhide HTr) (by simp))
      clear hw7 hnp
      go_wp2
      go_roundw
      case rel => exact ⟨i + 1, by simp, by omega, HK7, HS7, HT7⟩
      case measure => simp [intOf]; omega
    · have hlt : ¬ (i : Int) < (k : Int) := by omega
      go_wp2
      go_ret
      exact ⟨rfl, unhide HKr⟩
end Go.Proofs.YtckkalmhekfnhaaGreatDoor
namespace Go.Proofs.YtckkalmhekfnhaaGreatDoor
open Go.RowKit
def RdL (w : World) (v : Value) (ps : List (List Nat)) : Prop :=
  ∃ (ao : Option Addr) (len cap : Nat) (vs : List Value), v = .slice ao len cap ∧ vs.length = len ∧ ps.length = len ∧ len ≤ cap ∧ cap ≤ 9223372036854775807 ∧
    (0 < len → ∃ b off, ao = some ⟨b, off, none⟩ ∧ ∀ i, i < len → w.cell? ⟨b, off + i, none⟩ = some (vs.getD i undef)) ∧ ∀ i, i < len → Rd w (vs.getD i undef) (ps.getD i [])
theorem RdL.old {w0 w : World} {v : Value} {ps : List (List Nat)} (h : RdL w0 v ps) (k : Kept [] w0 w) : RdL w v ps := by
  obtain ⟨ao, len, cap, vs, rfl, h1, h2, h3, h4, h5, h6⟩ := h
  refine ⟨ao, len, cap, vs, rfl, h1, h2, h3, h4, fun hp => ?_, fun i hi => (h6 i hi).old k (by simp)⟩
  obtain ⟨b, off, rfl, hc⟩ := h5 hp
  exact ⟨b, off, rfl, fun i hi => k.cell (hc i hi) (by simp)⟩
theorem flat_snoc (ps : List (List Nat)) (i : Nat) (h : i < ps.length) : (ps.take (i + 1)).flatten = (ps.take i).flatten ++ ps.getD i [] := by
  rw [List.take_succ_eq_append_getElem h, List.flatten_append, List.getD_eq_getElem?_getD, List.getElem?_eq_getElem h]; simp
theorem flat_le (ps : List (List Nat)) (i : Nat) : (ps.take i).flatten.length ≤ ps.flatten.length := by
  conv => rhs; rw [← List.take_append_drop i ps, List.flatten_append, List.length_append]
  omega
end Go.Proofs.YtckkalmhekfnhaaGreatDoor
namespace Go.Proofs.YtckkalmhekfnhaaGreatDoor
open Go.RowKit Go.BigFrame
set_option linter.unusedVariables false
set_option linter.unusedSimpArgs false

set_option maxRecDepth 100000 in
set_option maxHeartbeats 4000000 in
theorem segmentReads_walk (v : Value) (ps : List (List Nat)) (w : World) (h : RdL w v ps) (hfl : ps.flatten.length ≤ 1048576) (hpl : ps.length ≤ 1048576) (_ : True) :
    Calls Tryz.prog 5 #[v] w fun e w' => e = .returned (.bool true) ∧ Below w.heap.size w w' := by
  obtain ⟨ao, len, cap, vs, rfl, h1, h2, h3, h4, h5, h6⟩ := h
  have HC := hide h5
  have HR := hide h6
  have HFL := hide (fun i (hi : i < ps.length) => by
    have h9 := (List.sublist_flatten_of_mem (List.getElem_mem hi)).length_le
    rw [List.getD_eq_getElem?_getD, List.getElem?_eq_getElem hi]
    simp only [Option.getD_some]
    omega : ∀ i, i < ps.length → (ps.getD i []).length ≤ 1048576)
  rw [h2] at HFL
  rw [h2] at hpl
  clear h5 h6 h1 h2 hfl
  go_enter Tryz.func5, Tryz.ntmps5
  go_wp2_with fail
  refine Calls.mono (sawake_any w) ?_
  rintro e w1 ⟨rfl, k1⟩
  have HK1 := hide k1
  clear k1
  go_wp2_with fail
  go_loopw [13] (fun t13 wr => ∃ i : Nat, t13 = .int .i64 (i : Int) ∧ i ≤ len ∧ Hid (Kept [] w wr)) (fun t _ => len - (intOf t).toNat)
  case atStart => exact ⟨0, rfl, Nat.zero_le _, HK1⟩
  case round =>
    obtain ⟨i, rfl, hi, HK⟩ := hrel
    by_cases hik : i < len
    · have hlt : (i : Int) < (len : Int) := by omega
      obtain ⟨b, off, rfl, hcc⟩ := unhide HC (by omega)
      have q1 := (unhide HK).cell (hcc i hik) (by simp)
      have HA := hide ((unhide HR i hik).old (unhide HK) (by simp))
      have hpi := unhide HFL i hik
      clear hcc
      generalize ps.getD i [] = p at HA hpi
      generalize vs.getD i undef = pv at HA q1
      obtain ⟨a1, n1, c1, rfl, hn1, _⟩ := id (unhide HA)
      subst hn1
      go_wp2_with fail
      refine Calls.mono (twin_any _ p wr (unhide HA)) ?_
      rintro e w2 ⟨rfl, k2, g2⟩
      have HR2 := hide (rd_fresh g2 (unhide HA).byte (unhide HA).len)
      have HA2 := hide ((unhide HA).old k2 (by simp))
      have HK2 := hide ((unhide HK).trans k2 (by simp))
      clear k2 g2 q1
      go_wp2_with fail
      refine Calls.mono (read_any _ p w2 (unhide HR2) (by omega)) ?_
      rintro e w3 ⟨bv, rfl, r3, k3, _⟩
      obtain ⟨X, hX⟩ : ∃ X, hdC p = X := ⟨_, rfl⟩
      obtain ⟨U, hU⟩ : ∃ U, sgU p = U := ⟨_, rfl⟩
      obtain ⟨E, hE⟩ : ∃ E, sgE p = E := ⟨_, rfl⟩
      obtain ⟨Bs, hB⟩ : ∃ Bs, sgB p = Bs := ⟨_, rfl⟩
      have HDR := hide (fun W (hW : Rd W (.slice a1 p.length c1) p) => docRead_any _ p W hW (by omega))
      simp only [hX, hU, hE, hB] at HDR
      rw [hB] at r3
      rw [hX, hU, hE]
      clear hX hU hE hB
      have HB3 := hide r3
      obtain ⟨a3, c3, rfl, _, _⟩ := r3.shape
      have HA3 := hide ((unhide HA2).old k3 (by simp))
      have HK3 := hide ((unhide HK2).trans k3 (by simp))
      clear k3 r3 HR2
      have KA := (Kept.refl [] w3).alloc (.cells #[.int .u64 (X.a : Int), .int .u64 (X.b : Int), .int .u64 (X.c : Int), .int .i64 (X.d : Int), .slice a3 Bs.length c3, .int .i64 (U : Int)] 51)
      have HS4 := hide (heap_alloc_new w3 (.cells #[.int .u64 (X.a : Int), .int .u64 (X.b : Int), .int .u64 (X.c : Int), .int .i64 (X.d : Int), .slice a3 Bs.length c3, .int .i64 (U : Int)] 51))
      have HB4 := hide ((unhide HB3).old KA)
      have HA4 := hide ((unhide HA3).old KA (by simp))
      have HK4 := hide ((unhide HK3).trans KA (by simp))
      clear KA
      go_wp2_with fail
      obtain ⟨W4, hW4⟩ : ∃ W, w3.alloc (.cells #[.int .u64 (X.a : Int), .int .u64 (X.b : Int), .int .u64 (X.c : Int), .int .i64 (X.d : Int), .slice a3 Bs.length c3, .int .i64 (U : Int)] 51) = W := ⟨_, rfl⟩
      rw [hW4] at HS4 HB4 HA4 HK4 ⊢
      clear hW4
      refine Calls.mono (unhide HDR W4 (unhide HA4)) ?_
      rintro e w5 ⟨bw, rfl, r5, k5, _⟩
      obtain ⟨a5, c5, rfl, _, _⟩ := r5.shape
      have HB5 := hide ((unhide HB4).old k5)
      have HS5 := hide (k5.heap (unhide HS4) (by simp))
      have HK5 := hide ((unhide HK4).trans k5 (by simp))
      have HT5 := hide r5
      clear k5 r5 HA4 HA3 HA2
      have KA := (Kept.refl [] w5).alloc (.cells #[.int .u64 (X.a : Int), .int .u64 (X.b : Int), .int .u64 (X.c : Int), .int .i64 (X.d : Int), .slice a5 Bs.length c5, .int .i64 (U : Int)] 56)
      have HS6 := hide (KA.heap (unhide HS5) (by simp))
      have HR6 := hide (heap_alloc_new w5 (.cells #[.int .u64 (X.a : Int), .int .u64 (X.b : Int), .int .u64 (X.c : Int), .int .i64 (X.d : Int), .slice a5 Bs.length c5, .int .i64 (U : Int)] 56))
      have HB6 := hide ((unhide HB5).old KA)
      have HT6 := hide ((unhide HT5).old KA)
      have HK6 := hide ((unhide HK5).trans KA (by simp))
      clear KA
      obtain ⟨W6, hW6⟩ : ∃ W, w5.alloc (.cells #[.int .u64 (X.a : Int), .int .u64 (X.b : Int), .int .u64 (X.c : Int), .int .i64 (X.d : Int), .slice a5 Bs.length c5, .int .i64 (U : Int)] 56) = W := ⟨_, rfl⟩
      rw [hW6] at HS6 HR6 HB6 HT6 HK6
      have HW6 := hide hW6
      clear hW6
      obtain ⟨s0, s1, s2, s3, s4, s5⟩ := scells (unhide HS6)
      obtain ⟨t0, t1, t2, t3, t4, t5⟩ := scells (unhide HR6)
      rw [← unhide HW6] at s0 s1 s2 s3 s4 s5 t0 t1 t2 t3 t4 t5
      go_wp2_with fail
      rw [unhide HW6]
      refine Calls.mono (salike_any X.a X.b X.c X.d U E _ _ Bs W6 (unhide HB6) (unhide HT6)) ?_
      rintro e w7 ⟨rfl, k7⟩
      have HK7 := hide ((unhide HK6).trans k7 (by simp))
      clear k7 s0 s1 s2 s3 s4 s5 t0 t1 t2 t3 t4 t5
      go_wp2
      go_roundw
      case rel => exact ⟨i + 1, by simp, by omega, HK7⟩
      case measure => simp [intOf]; omega
    · have hlt : ¬ (i : Int) < (len : Int) := by omega
      go_wp2
      go_ret
      exact ⟨rfl, (unhide HK).below (Nat.le_refl _) (by simp)⟩
end Go.Proofs.YtckkalmhekfnhaaGreatDoor
namespace Go.Proofs.YtckkalmhekfnhaaGreatDoor
open Go.ChangeShapes Go.WideShapes Go.ChangeAt Go.RowKit Go.Deep
set_option linter.unusedVariables false
set_option linter.unusedSimpArgs false

theorem own : ownKnob Tryz.prog.godebug = none := by kernel_rfl
theorem laidOut : laidOutB Tryz.prog = true := by kernel_rfl
theorem byte_of_wf {x : Int} (h : (Lit.int .u8 x).wf = true) : 0 ≤ x ∧ x < 256 := by
  simp [Lit.wf, IntKind.min, IntKind.max, IntKind.signed, IntKind.bits] at h
  exact ⟨by omega, by omega⟩
theorem int_of_wf {x : Int} (h : (Lit.int .i64 x).wf = true) : -9223372036854775808 ≤ x ∧ x ≤ 9223372036854775807 := by
  simp [Lit.wf, IntKind.min, IntKind.max, IntKind.signed, IntKind.bits] at h
  exact ⟨by omega, by omega⟩

theorem bulk_one {H : Type} (d : DataW H) : 1 ≤ Rows.uptoBulk d := by
  cases d with
  | lit l => cases l <;> simp [Rows.uptoBulk]
  | nil => simp [Rows.uptoBulk]
  | ptr d => simp [Rows.uptoBulk]
  | slice elems spare => simp [Rows.uptoBulk]
  | agg parts => simp [Rows.uptoBulk]
  | iface t d => simp [Rows.uptoBulk]
  | map entries => simp [Rows.uptoBulk]
  | held h => simp [Rows.uptoBulk]
theorem bulk_len {H : Type} (l : List (DataW H)) : l.length ≤ Rows.uptoBulkAll l := by
  induction l with
  | nil => simp [Rows.uptoBulkAll]
  | cons x r ih => have := bulk_one x; simp only [Rows.uptoBulkAll, List.length_cons]; omega
theorem Tryz.bytes5 : Tryz.prog.bytesOf 5 = 1 := by kernel_rfl

section
variable {H : Type} {enc : TypeId × Value → H} {W : World}

/-- Bytes that came in, as the walks want them, of whatever length. -/
theorem open_bytes {fuel : Nat} {cs : List Value} {x : DataW H × List MemPlace} (h : DataW.trod enc Tryz.prog W 0 (fun _ => true) true fuel 36 cs = some x) :
    ∃ v bs, cs = [v] ∧ (bs.length ≤ 140737488355328 → Rd W v bs) ∧ ((bs = [] ∧ x.1 = .nil) ∨ ∃ elems spare, x.1 = .slice elems spare ∧ elems.length = bs.length) := by
  rcases open_ints Tryz.underlying36 Tryz.underlying5 (by kernel_rfl) h with ⟨rfl, rfl⟩ | ⟨a, len, cap, zs, rfl, _, hl, hm, hz, rfl, hcell, hwz⟩
  · exact ⟨_, [], rfl, fun _ => Rd.nil W, .inl ⟨rfl, rfl⟩⟩
  · have h2 : (lits (H := H) .u8 (zs.take len)).length = len := by simp only [lits, List.length_map, List.length_take]; simp at hz; omega
    have hbl : ((zs.take len).map Int.toNat).length = len := by simp at hz; simp; omega
    refine ⟨_, (zs.take len).map Int.toNat, rfl, fun hB => ⟨_, _, _, rfl, hbl, hl, ⟨by unfold maxLen at hm; omega, by omega⟩, by simp, ?_, ?_⟩, .inr ⟨_, _, rfl, by rw [h2, hbl]⟩⟩
    · intro y hy
      obtain ⟨z, hz1, rfl⟩ := List.mem_map.1 hy
      have := byte_of_wf (hwz z (List.mem_of_mem_take hz1)); omega
    · intro hp
      simp at hz
      have hc0 := hcell 0 (by omega)
      obtain ⟨b, off, spot⟩ := a
      have hspot : spot = none := by simpa [Addr.add] using World.cell?_spot hc0
      subst hspot
      refine ⟨b, off, rfl, fun i hi => ?_⟩
      have hc := hcell i (by omega)
      have hzi : i < zs.length := by omega
      rw [Addr.add_mid] at hc
      rw [hc]
      have hw := byte_of_wf (hwz (zs[i]) (List.getElem_mem hzi))
      simp only [List.getD_eq_getElem?_getD, List.getElem?_eq_getElem hzi, Option.getD_some, List.getElem?_map, List.getElem?_take, hi, if_true, Option.map_some]
      simp [u8]; omega
/-- Their length, by the reach. -/
theorem reach_bytes {ts : List TypeId} {ds : List (DataW H)} (h : (DataW.weightsEach Tryz.prog ts ds).all (· ≤ reachBytes) = true) {j : Nat} (ht : ts[j]? = some 36) {d : DataW H} (hd : ds[j]? = some d) {bs : List Nat}
    (hx : (bs = [] ∧ d = .nil) ∨ ∃ elems spare, d = .slice elems spare ∧ elems.length = bs.length) : bs.length ≤ 140737488351232 := by
  rcases hx with ⟨rfl, _⟩ | ⟨elems, spare, rfl, he⟩
  · simp
  · have := sized_slice h ht hd Tryz.underlying36
    rw [Tryz.bytes5, Nat.mul_one] at this
    unfold reachBytes at this
    omega
/-- Their length, by the bulk. -/
theorem bulk_bytes {d : DataW H} {bs : List Nat} (hx : (bs = [] ∧ d = .nil) ∨ ∃ elems spare, d = .slice elems spare ∧ elems.length = bs.length) : bs.length + 1 ≤ Rows.uptoBulk d := by
  rcases hx with ⟨rfl, rfl⟩ | ⟨elems, spare, rfl, he⟩
  · simp [Rows.uptoBulk]
  · have := bulk_len elems
    simp only [Rows.uptoBulk]; omega
end
end Go.Proofs.YtckkalmhekfnhaaGreatDoor
namespace Go.Proofs.YtckkalmhekfnhaaGreatDoor
open Go.ChangeShapes Go.WideShapes Go.ChangeAt Go.RowKit Go.Deep
set_option linter.unusedVariables false
set_option linter.unusedSimpArgs false
section
variable {H : Type} {enc : TypeId × Value → H} {W : World}

theorem l_bulk_part {d : DataW H} {l : List (DataW H)} (h : d ∈ l) : Rows.uptoBulk d ≤ Rows.uptoBulkAll l := by
  induction l with
  | nil => cases h
  | cons x r ih =>
    simp only [Rows.uptoBulkAll]
    cases List.mem_cons.1 h with
    | inl e => subst e; omega
    | inr e => have := ih e; omega
theorem flat_bulk (f : Nat → List Nat) (D : Nat → DataW H) (l : List Nat) (h : ∀ i ∈ l, (f i).length + 1 ≤ Rows.uptoBulk (D i)) : (l.map f).flatten.length + l.length ≤ Rows.uptoBulkAll (l.map D) := by
  induction l with
  | nil => simp [Rows.uptoBulkAll]
  | cons a l ih =>
    have h1 := h a (by simp)
    have h2 := ih (fun i hi => h i (by simp [hi]))
    simp only [List.map_cons, List.flatten_cons, List.length_append, List.length_cons, Rows.uptoBulkAll] at h2 ⊢
    omega

/-- Lists of bytes that came in. -/
theorem open_lists {fuel : Nat} {cs : List Value} {x : DataW H × List MemPlace} (h : DataW.trod enc Tryz.prog W 0 (fun _ => true) true fuel 48 cs = some x) (hB : Rows.uptoBulk x.1 ≤ 1048576) :
    ∃ v ps, cs = [v] ∧ RdL W v ps ∧ ps.flatten.length ≤ 1048576 ∧ ps.length ≤ 1048576 := by
  rcases open_slice Tryz.underlying48 h with ⟨rfl, rfl⟩ | ⟨a, len, cap, m, n, D, Pl, rfl, _, hl, hm, hmm, rfl, hx⟩
  · exact ⟨_, [], rfl, ⟨none, 0, 0, [], rfl, rfl, rfl, Nat.le_refl _, by omega, fun h => by omega, fun i h => by omega⟩, by simp, by simp⟩
  · have hC : Tryz.prog.cellsOf 36 = 1 := by kernel_rfl
    rw [hC] at hx
    simp only [if_true] at hmm
    simp only [Rows.uptoBulk] at hB
    have hlb : len ≤ 1048576 := by have := bulk_len ((List.range len).map D); simp at this; omega
    obtain ⟨f, hf⟩ := choose_lt (α := Value × List Nat) (n := len) (p := fun i o => W.cell? (a.add i) = some o.1 ∧ Rd W o.1 o.2 ∧ o.2.length + 1 ≤ Rows.uptoBulk (D i)) (by
      intro i hi
      obtain ⟨cs', h1, h2⟩ := hx i (by omega)
      have hDi : Rows.uptoBulk (D i) ≤ Rows.uptoBulkAll ((List.range len).map D) := l_bulk_part (List.mem_map.2 ⟨i, List.mem_range.2 hi, rfl⟩)
      obtain ⟨v, bs, rfl, hr, hb⟩ := open_bytes h2
      have hb2 := bulk_bytes hb
      obtain ⟨_, hlen, hc⟩ := World.cells?_some h1
      have hc0 := hc 0 (by omega)
      have e : (a.add (i * 1)).add 0 = a.add i := by rw [Nat.mul_one]; simp [Addr.add]
      rw [e] at hc0
      exact ⟨(v, bs), hc0, hr (by simp only at hb2; omega), hb2⟩)
    refine ⟨_, (List.range len).map fun i => (f i).2, rfl, ⟨some a, len, cap, (List.range len).map fun i => (f i).1, rfl, by simp, by simp, hl, by unfold maxLen at hm; omega, ?_, ?_⟩, ?_, by simpa using hlb⟩
    · intro hp
      obtain ⟨b, off, spot⟩ := a
      have hc0 := (hf 0 hp).1
      have hspot : spot = none := by simpa [Addr.add] using World.cell?_spot hc0
      subst hspot
      refine ⟨b, off, rfl, fun i hi => ?_⟩
      have hc := (hf i hi).1
      rw [Addr.add_mid] at hc
      rw [hc]
      simp [List.getD_eq_getElem?_getD, hi]
    · intro i hi
      have hc := (hf i hi).2.1
      simpa [List.getD_eq_getElem?_getD, hi] using hc
    · have := flat_bulk (fun i => (f i).2) D (List.range len) (fun i hi => (hf i (List.mem_range.1 hi)).2.2)
      simp only [List.length_range] at this
      omega
end
end Go.Proofs.YtckkalmhekfnhaaGreatDoor
