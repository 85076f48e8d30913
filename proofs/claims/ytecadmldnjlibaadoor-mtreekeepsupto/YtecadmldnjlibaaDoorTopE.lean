import Derived.Test.YtecadmldnjlibaaDoorTopD
import Derived.Test.YtecadmldnjlibaaDoorTopC
import Derived.Test.YtecadmldnjlibaaDoorRowz
import Derived.Deep.RegionHeld3
import Derived.Test.YtecadmldnjlibaaDoorTopB
import Derived.Great.BuildSlice
import Derived.Test.YtecadmldnjlibaaDoorBase
import Derived.Test.YtecadmldnjlibaaDoorCards
import Derived.Test.YtecadmldnjlibaaDoorTie
import Derived.ProofKit
import Derived.OpenShut
import Derived.Deep.Slices
import Derived.SizedLaws
import Derived.Test.YtecadmldnjlibaaDoorDForm
namespace Go.Proofs.YtecadmldnjlibaaDoor
open Go.RowKit Go.BigFrame
set_option linter.unusedVariables false
set_option linter.unusedSimpArgs false

theorem OwD.back {w0 w w' : World} {v : Value} {ds : List (List Nat)} (h : OwD w w' v ds) (k : Kept [] w0 w) : OwD w0 w' v ds := by
  refine ⟨⟨h.own.1, ?_⟩, h.dg, k.trans h.kept (by simp)⟩
  rcases h.own.2 with h1 | ⟨g, cap, cur, h1, h2, h3⟩
  · exact Or.inl h1
  · exact Or.inr ⟨g, cap, cur, h1, Nat.le_trans k.size h2, h3⟩
theorem OwD.form {w0 w : World} {v : Value} {ds : List (List Nat)} (h : OwD w0 w v ds) : ∃ ao cap, v = .slice ao ds.length cap := owns_form h.own
theorem OwD.zero {w0 w : World} (k : Kept [] w0 w) : OwD w0 w (.slice none 0 0) [] := (OwD.nil w).back k

/-- What Inclusion answers. -/
def inE (L : List (List Nat)) (i n : Nat) : Int := if n ≤ i ∨ L.length < n then 4 else 0
def inD (z : Int) (L : List (List Nat)) (i n : Nat) : List (List Nat) := if n ≤ i ∨ L.length < n then [] else rgL z L (pathF i 64 0 n)

set_option maxRecDepth 100000 in
set_option maxHeartbeats 400000 in
theorem mincl_any (z : Int) (t : Nat) (v : Value) (ps : List Pk) (i n : Nat) (w : World) (hT : TreeAt z w t v ps) (hb : (leavesK ps).length < 32768) (hTb : Tabs w) (h6 : Tab6 w) (hn64 : n < 18446744073709551616) :
    Calls Tryd.prog 19 #[.pointer (some ⟨t, 0, none⟩), .int .u64 i, .int .u64 n] w fun e w' => ∃ u, e = .returned (.tuple #[u, .int .i64 (inE (leavesK ps) i n)]) ∧ OwD w w' u (inD z (leavesK ps) i n) := by
  unfold inE inD
  by_cases h1 : n ≤ i
  · have h1' : (n : Int) ≤ (i : Int) := by omega
    rw [if_pos (Or.inl h1), if_pos (Or.inl h1)]
    go_enter Tryd.func19, Tryd.ntmps19
    go_wp2_with fail
    exact ⟨rfl, _, results_tmp2 rfl _ _ _, _, rfl, OwD.nil _⟩
  · have h1' : ¬ (n : Int) ≤ (i : Int) := by omega
    have HPA := hide (path_any i n w (by omega) hn64)
    have hpl := pathF_len i 64 0 n
    by_cases h2 : (leavesK ps).length < n
    · rw [if_pos (Or.inr h2), if_pos (Or.inr h2)]
      have HDB := hide (fun lv W (k : Kept [] w W) => digests_bad z t v lv ps n W (hT.old k) h2)
      clear hT h2
      go_enter Tryd.func19, Tryd.ntmps19
      go_wp2_with fail
      refine (unhide HPA).mono ?_
      rintro e w1 ⟨v1, rfl, s1, k1⟩
      have HK1 := hide k1
      clear s1 k1
      go_wp2_with fail
      refine (unhide HDB v1 w1 (unhide HK1)).mono ?_
      rintro e w2 ⟨rfl, k2⟩
      have HK2 := hide ((unhide HK1).trans k2 (by simp))
      clear k2
      go_wp2_with fail
      exact ⟨rfl, _, results_tmp2 rfl _ _ _, _, rfl, OwD.zero (unhide HK2)⟩
    · rw [if_neg (by omega), if_neg (by omega)]
      have HDB := hide (fun lv w0 W (k : Kept [] w W) (hs : SpAt w0 W lv (pathF i 64 0 n)) => digests_any z t v lv ps n _ w0 W (hT.old k) (by omega) hb hs (by omega) (hTb.kept k (by simp) (by simp)) (h6.kept k))
      clear hT h2 hb hTb h6
      generalize pathF i 64 0 n = ss at HPA HDB hpl ⊢
      generalize rgL z (leavesK ps) ss = ds at HDB ⊢
      go_enter Tryd.func19, Tryd.ntmps19
      go_wp2_with fail
      refine (unhide HPA).mono ?_
      rintro e w1 ⟨v1, rfl, s1, k1⟩
      have HK1 := hide k1
      have HS1 := hide s1
      clear s1 k1
      go_wp2_with fail
      refine (unhide HDB v1 w w1 (unhide HK1) (unhide HS1)).mono ?_
      rintro e w2 ⟨u, rfl, o2⟩
      have HO2 := hide (o2.back (unhide HK1))
      clear o2
      go_wp2_with fail
      exact ⟨rfl, _, results_tmp2 rfl _ _ _, u, rfl, unhide HO2⟩

/-- What Consistency answers. -/
def csE (L : List (List Nat)) (m n : Nat) : Int := if n < m ∨ L.length < n then 4 else 0
def csD (z : Int) (L : List (List Nat)) (m n : Nat) : List (List Nat) := if n < m ∨ L.length < n then [] else rgL z L (smL m n)
theorem smL_le (m n : Nat) : (smL m n).length ≤ 65 := by
  unfold smL
  have := seamF_len m 64 0 n true
  split
  · simp
  · omega

set_option maxRecDepth 100000 in
set_option maxHeartbeats 400000 in
theorem mcons_any (z : Int) (t : Nat) (v : Value) (ps : List Pk) (i n : Nat) (w : World) (hT : TreeAt z w t v ps) (hb : (leavesK ps).length < 32768) (hTb : Tabs w) (h6 : Tab6 w) (hn64 : n < 18446744073709551616) :
    Calls Tryd.prog 20 #[.pointer (some ⟨t, 0, none⟩), .int .u64 i, .int .u64 n] w fun e w' => ∃ u, e = .returned (.tuple #[u, .int .i64 (csE (leavesK ps) i n)]) ∧ OwD w w' u (csD z (leavesK ps) i n) := by
  unfold csE csD
  by_cases h1 : n < i
  · have h1' : (n : Int) < (i : Int) := by omega
    rw [if_pos (Or.inl h1), if_pos (Or.inl h1)]
    go_enter Tryd.func20, Tryd.ntmps20
    go_wp2_with fail
    exact ⟨rfl, _, results_tmp2 rfl _ _ _, _, rfl, OwD.nil _⟩
  · have h1' : ¬ (n : Int) < (i : Int) := by omega
    have HPA := hide (seam_any i n w (by omega) hn64)
    have hpl := smL_le i n
    by_cases h2 : (leavesK ps).length < n
    · rw [if_pos (Or.inr h2), if_pos (Or.inr h2)]
      have HDB := hide (fun lv W (k : Kept [] w W) => digests_bad z t v lv ps n W (hT.old k) h2)
      clear hT h2
      go_enter Tryd.func20, Tryd.ntmps20
      go_wp2_with fail
      refine (unhide HPA).mono ?_
      rintro e w1 ⟨v1, rfl, s1, k1⟩
      have HK1 := hide k1
      clear s1 k1
      go_wp2_with fail
      refine (unhide HDB v1 w1 (unhide HK1)).mono ?_
      rintro e w2 ⟨rfl, k2⟩
      have HK2 := hide ((unhide HK1).trans k2 (by simp))
      clear k2
      go_wp2_with fail
      exact ⟨rfl, _, results_tmp2 rfl _ _ _, _, rfl, OwD.zero (unhide HK2)⟩
    · rw [if_neg (by omega), if_neg (by omega)]
      have HDB := hide (fun lv w0 W (k : Kept [] w W) (hs : SpAt w0 W lv (smL i n)) => digests_any z t v lv ps n _ w0 W (hT.old k) (by omega) hb hs (by omega) (hTb.kept k (by simp) (by simp)) (h6.kept k))
      clear hT h2 hb hTb h6
      generalize smL i n = ss at HPA HDB hpl ⊢
      generalize rgL z (leavesK ps) ss = ds at HDB ⊢
      go_enter Tryd.func20, Tryd.ntmps20
      go_wp2_with fail
      refine (unhide HPA).mono ?_
      rintro e w1 ⟨v1, rfl, s1, k1⟩
      have HK1 := hide k1
      have HS1 := hide s1
      clear s1 k1
      go_wp2_with fail
      refine (unhide HDB v1 w w1 (unhide HK1) (unhide HS1)).mono ?_
      rintro e w2 ⟨u, rfl, o2⟩
      have HO2 := hide (o2.back (unhide HK1))
      clear o2
      go_wp2_with fail
      exact ⟨rfl, _, results_tmp2 rfl _ _ _, u, rfl, unhide HO2⟩
end Go.Proofs.YtecadmldnjlibaaDoor
namespace Go.Proofs.YtecadmldnjlibaaDoor
open Go.RowKit Go.BigFrame
set_option linter.unusedVariables false
set_option linter.unusedSimpArgs false

/-- How many nodes a level has. -/
def lvN (N h : Nat) : Nat := (N + 2 ^ h - 1) / 2 ^ h
theorem lt_lvN {N h b : Nat} : b < lvN N h ↔ b * 2 ^ h < N := by
  have hp : 1 ≤ 2 ^ h := Nat.one_le_two_pow
  unfold lvN
  have h1 : b < (N + 2 ^ h - 1) / 2 ^ h ↔ b + 1 ≤ (N + 2 ^ h - 1) / 2 ^ h := Iff.rfl
  rw [h1, Nat.le_div_iff_mul_le (by omega), Nat.add_mul, Nat.one_mul]
  omega
theorem lvN_up (N h : Nat) : lvN N (h + 1) = (lvN N h + 1) / 2 := by
  have key : ∀ j, j < lvN N (h + 1) ↔ j < (lvN N h + 1) / 2 := by
    intro j
    rw [lt_lvN, show j * 2 ^ (h + 1) = (2 * j) * 2 ^ h by rw [Nat.pow_succ, Nat.mul_comm (2 ^ h) 2, ← Nat.mul_assoc, Nat.mul_comm j 2], ← lt_lvN]
    omega
  rcases Nat.lt_trichotomy (lvN N (h + 1)) ((lvN N h + 1) / 2) with h1 | h1 | h1
  · have := (key _).2 h1; omega
  · exact h1
  · have := (key _).1 h1; omega
/-- A level of the tree. -/
def lvl (z : Int) (no : List Nat) (L : List (List Nat)) (h : Nat) : List (List Nat) := (List.range (lvN L.length h)).map fun j => rngD z no L (j * 2 ^ h) (min ((j + 1) * 2 ^ h) L.length)
theorem lvl_len (z : Int) (no : List Nat) (L : List (List Nat)) (h : Nat) : (lvl z no L h).length = lvN L.length h := by unfold lvl; rw [List.length_map, List.length_range]
theorem lvl_at {z : Int} {no : List Nat} {L : List (List Nat)} {h j : Nat} (hj : j * 2 ^ h < L.length) : (lvl z no L h)[j]? = some (rngD z no L (j * 2 ^ h) (min ((j + 1) * 2 ^ h) L.length)) := by
  unfold lvl
  rw [List.getElem?_map, List.getElem?_range (lt_lvN.2 hj)]; rfl
theorem lvl_getD {z : Int} {no : List Nat} {L : List (List Nat)} {h j : Nat} (hj : j * 2 ^ h < L.length) : (lvl z no L h).getD j [] = rngD z no L (j * 2 ^ h) (min ((j + 1) * 2 ^ h) L.length) := by
  rw [List.getD_eq_getElem?_getD, lvl_at hj]; rfl
theorem lvl_zero (z : Int) (no : List Nat) (L : List (List Nat)) : lvl z no L 0 = L := by
  apply List.ext_getElem?
  intro j
  by_cases hj : j < L.length
  · rw [lvl_at (by simpa using hj), List.getElem?_eq_getElem hj]
    have e : min ((j + 1) * 2 ^ 0) L.length = j + 1 := by rw [Nat.pow_zero, Nat.mul_one]; omega
    rw [e, Nat.pow_zero, Nat.mul_one]
    unfold rngD
    rw [Nat.add_sub_cancel_left, List.drop_eq_getElem_cons hj, List.take_succ_cons, List.take_zero, logT_one]
  · rw [List.getElem?_eq_none (by rw [lvl_len]; have := (lt_lvN (N := L.length) (h := 0) (b := j)).1; simp at this; omega), List.getElem?_eq_none (by omega)]
/-- The level above. -/
def upL (z : Int) : List (List Nat) → List (List Nat)
  | a :: b :: r => nodS z a b :: upL z r
  | [a] => [a]
  | [] => []
theorem upL_at (z : Int) : ∀ (ls : List (List Nat)) (j : Nat), (upL z ls)[j]? = if 2 * j + 1 < ls.length then some (nodS z (ls.getD (2 * j) []) (ls.getD (2 * j + 1) [])) else if 2 * j < ls.length then some (ls.getD (2 * j) []) else none
  | [], j => by simp [upL]
  | [a], 0 => by simp [upL]
  | [a], j + 1 => by simp [upL]
  | a :: b :: r, 0 => by simp [upL]
  | a :: b :: r, j + 1 => by
    have ih := upL_at z r j
    rw [upL, List.getElem?_cons_succ, ih]
    simp only [List.length_cons, show 2 * (j + 1) = 2 * j + 1 + 1 by omega, List.getD_cons_succ]
    simp only [Nat.add_lt_add_iff_right]
theorem upL_len (z : Int) : ∀ (ls : List (List Nat)), (upL z ls).length = (ls.length + 1) / 2
  | [] => rfl
  | [a] => by simp [upL]
  | a :: b :: r => by rw [upL, List.length_cons, upL_len z r]; simp; omega
theorem lvl_up (z : Int) (no : List Nat) (L : List (List Nat)) (h : Nat) : upL z (lvl z no L h) = lvl z no L (h + 1) := by
  apply List.ext_getElem?
  intro j
  have hp : 1 ≤ 2 ^ h := Nat.one_le_two_pow
  have hps : 2 ^ (h + 1) = 2 * 2 ^ h := by rw [Nat.pow_succ]; omega
  have ej : j * 2 ^ (h + 1) = 2 * j * 2 ^ h := by rw [hps, ← Nat.mul_assoc, Nat.mul_comm j 2]
  have ej1 : (j + 1) * 2 ^ (h + 1) = 2 * j * 2 ^ h + 2 * 2 ^ h := by rw [hps, Nat.add_mul, Nat.one_mul, ← Nat.mul_assoc, Nat.mul_comm j 2]
  have ek : (2 * j + 1) * 2 ^ h = 2 * j * 2 ^ h + 2 ^ h := by rw [Nat.add_mul, Nat.one_mul]
  have ek1 : (2 * j + 1 + 1) * 2 ^ h = 2 * j * 2 ^ h + 2 * 2 ^ h := by rw [Nat.add_assoc, Nat.add_mul]
  rw [upL_at, lvl_len]
  by_cases h1 : 2 * j + 1 < lvN L.length h
  · have h1' := lt_lvN.1 h1
    rw [if_pos h1, lvl_getD (lt_lvN.1 (by omega)), lvl_getD h1', lvl_at (by rw [ej]; rw [ek] at h1'; omega)]
    rw [ek] at h1'
    rw [ej, ej1, ek, ek1]
    generalize 2 * j * 2 ^ h = lo at h1' ⊢
    have hm : min (lo + 2 ^ h) L.length = lo + 2 ^ h := by omega
    obtain ⟨hi, hhi⟩ : ∃ hi, min (lo + 2 * 2 ^ h) L.length = hi := ⟨_, rfl⟩
    have hi1 : lo + 2 ^ h < hi := by omega
    have hi2 : hi ≤ lo + 2 * 2 ^ h := by omega
    have hi3 : hi ≤ L.length := by omega
    rw [hm, hhi]
    have hbel : belT (hi - lo) = 2 ^ h := by
      unfold belT
      congr 1
      rw [Nat.log2_eq_iff (by omega)]
      omega
    rw [rngD_cut (lo := lo) (hi := hi) (by omega) hi3, hbel]
    rfl
  · rw [if_neg h1]
    by_cases h2 : 2 * j < lvN L.length h
    · have h2' := lt_lvN.1 h2
      have h1' : ¬ (2 * j + 1) * 2 ^ h < L.length := fun hh => h1 (lt_lvN.2 hh)
      rw [if_pos h2, lvl_getD h2', lvl_at (by rw [ej]; exact h2'), ej, ej1, ek]
      rw [ek] at h1'
      congr 2
      omega
    · rw [if_neg h2, List.getElem?_eq_none (by rw [lvl_len, lvN_up]; omega)]
theorem rngD_take {z : Int} {no : List Nat} {L : List (List Nat)} {n lo hi : Nat} (h : hi ≤ n) : rngD z no (L.take n) lo hi = rngD z no L lo hi := by
  unfold rngD
  rw [List.drop_take, List.take_take, Nat.min_eq_left (by omega)]
theorem levs_stop {N i h : Nat} (hi : i < N) (hN : N ≤ 2 ^ h) : ∀ d, levs N i (h + d) = levs N i h
  | 0 => rfl
  | d + 1 => by
    rw [← Nat.add_assoc, levs_succ, levs_stop hi hN d]
    have hpp : 2 ^ h ≤ 2 ^ (h + d) := Nat.pow_le_pow_right (by omega) (by omega)
    have : broS N i (h + d) = none := by
      unfold broS broN
      rw [Nat.div_eq_of_lt (by omega), if_pos rfl, if_neg (by omega)]
    rw [this]; simp
/-- The proof that the reference answers. -/
theorem inD_levs {z : Int} {L : List (List Nat)} {i n : Nat} (hi : i < n) (hn : n ≤ L.length) (h64 : n < 18446744073709551616) : inD z L i n = (levs n i 64).map fun s => rngD z (noT z) (L.take n) s.1 s.2 := by
  unfold inD
  rw [if_neg (by omega), ← path_all hi (by omega)]
  unfold rgL
  apply List.map_congr_left
  intro s hs
  have h1 := pathF_in i 64 0 n s hs
  unfold rgD
  rw [if_neg (by omega), rngD_take h1.2.2]
end Go.Proofs.YtecadmldnjlibaaDoor
namespace Go.Proofs.YtecadmldnjlibaaDoor
open Go.RowKit Go.BigFrame
set_option linter.unusedVariables false
set_option linter.unusedSimpArgs false

def cI (k i : Nat) (d : List Nat) : List Nat := (d.take k ++ List.replicate (i - k) 0) ++ d.drop i
theorem cI_len {k i : Nat} {d : List Nat} (h : k ≤ i) (hi : i ≤ 32) (hd : d.length = 32) : (cI k i d).length = 32 := by simp [cI, hd]; omega
theorem cI_set {k i : Nat} {d : List Nat} (h : k ≤ i) (hi : i < 32) (hd : d.length = 32) : (brow (cI k i d)).setIfInBounds i (.int .u8 0) = brow (cI k (i + 1) d) := by
  have hA : (d.take k ++ List.replicate (i - k) 0).length = i := by simp [hd]; omega
  have e1 : (cI k i d).set i 0 = cI k (i + 1) d := by
    unfold cI
    rw [List.set_append_right _ _ (by omega), hA, Nat.sub_self, List.drop_eq_getElem_cons (show i < d.length by omega), List.set_cons_zero, show i + 1 - k = (i - k) + 1 by omega, List.replicate_succ']
    simp
  rw [← e1]
  unfold brow
  rw [List.setIfInBounds_toArray, List.map_set]
  rfl
theorem cI_end {k : Nat} {d : List Nat} (hd : d.length = 32) : cI k 32 d = cutL k d := by unfold cI cutL; rw [List.drop_eq_nil_of_le (by omega), List.append_nil]
theorem cI_start {k : Nat} {d : List Nat} : cI k k d = d := by simp [cI]

theorem wpList_load_midT {P : Program} {ops : Array Oper} {rest : List Oper} {op : Oper} {a : Act} {w : World} {Q : Exit → Act → World → Prop} (hw : Region.wanted op (yielded ops a.tmps) = true) (ty : TypeId) (x : Operand) (ho : op.op = .load ty x)
    (b o : Nat) (hx : a.eval x = .pointer (some ⟨b, o, none⟩)) (cs : List Value) (d : TypeDesc) (hc : w.rangeAt b o cs)
    (hu : P.underlying ty = some d) (hd : d.isRow = true) (hi : (P.info? ty).map (·.size) = some cs.length)
    (h : wpList P ops Q rest (a.put op.dst (.agg cs.toArray)) w) : wpList P ops Q (op :: rest) a w :=
  wpList_want hw fun _ hK => wp_load_mid ty x ho b o hx cs d hc hu hd hi (hK _ _ h)
theorem RdD_nil {w : World} : RdD w (.slice none 0 0) [] := ⟨none, 0, 0, rfl, rfl, Nat.le_refl _, by omega, fun d hd => by simp at hd, fun h => by omega⟩
theorem cutL_cut2 {k : Nat} {d : List Nat} (hk : k ≤ 32) (hd : d.length = 32) : cutL k (cutL k d) = cutL k d := cutL_cutL k d (by omega)
theorem cut_dg {k : Nat} {d : List Nat} (hk : k ≤ 32) (hd : Dg d) : Dg (cutL k d) := ⟨cutL_len k d hk hd.1, cutL_byte k d hd.2⟩
theorem cut_form {k : Nat} {d : List Nat} (h1 : 1 ≤ k) (hk : k ≤ 32) (hd : Dg d) : formB (k : Int) (cutL k d) = true := by
  have hw : widthB (k : Int) = true := by simp [widthB]; omega
  unfold formB
  rw [hw, Int.toNat_natCast, cutL_cut2 hk hd.1]
  simp

end Go.Proofs.YtecadmldnjlibaaDoor
namespace Go.Proofs.YtecadmldnjlibaaDoor
open Go.RowKit Go.BigFrame
set_option linter.unusedVariables false
set_option linter.unusedSimpArgs false

/-- What the statements' tree answers. -/
def TrD (z : Int) (ls : List (List Nat)) (w : World) (e : Ending) (w' : World) : Prop :=
  (widthB z = false → e = .returned (.tuple #[.pointer none, .slice none 0 0, .bool false]) ∧ Kept [] w w') ∧
  (widthB z = true → ∃ t v qs u, e = .returned (.tuple #[.pointer (some ⟨t, 0, none⟩), u, .bool true]) ∧ TreeAt z w' t v qs ∧ leavesK qs = ls.map (cutL z.toNat) ∧ OwD w w' u (ls.map (cutL z.toNat)))
theorem cut_all {k : Nat} (h1 : 1 ≤ k) (h2 : k ≤ 32) {ls : List (List Nat)} (h : ∀ d ∈ ls, Dg d) : (ls.map (cutL k)).all (formB (k : Int)) = true := by
  rw [List.all_eq_true]
  intro x hx
  obtain ⟨d, hd, rfl⟩ := List.mem_map.1 hx
  exact cut_form h1 h2 (h d hd)

set_option maxRecDepth 100000 in
set_option maxHeartbeats 1000000 in
theorem tree_bad (z : Int) (lv : Value) (ls : List (List Nat)) (w : World) (hz : -9223372036854775808 ≤ z ∧ z ≤ 9223372036854775807) (hw : widthB z = false) :
    Calls Tryd.prog 16 #[.int .i64 z, lv] w (TrD z ls w) := by
  have HW := hide (rwidth_any z w hz)
  rw [hw] at HW
  have HF := hide hw
  clear hw hz
  go_enter Tryd.func16, Tryd.ntmps16
  go_wp2_with fail
  refine (unhide HW).mono ?_
  rintro e w1 ⟨rfl, rfl⟩
  go_wp2_with fail
  exact ⟨rfl, _, results_tmp3 rfl _ _ _, fun _ => ⟨rfl, Kept.refl _ _⟩, fun h => by rw [unhide HF] at h; simp at h⟩

set_option maxRecDepth 100000 in
set_option maxHeartbeats 1000000 in
theorem tree_ok (k : Nat) (lv : Value) (ls : List (List Nat)) (w : World) (h1 : 1 ≤ k) (h2 : k ≤ 32) (hl : RdD w lv ls) (hN : ls.length ≤ 1000000) (hT : Tabs w) (h6 : Tab6 w) :
    Calls Tryd.prog 16 #[.int .i64 (k : Int), lv] w (TrD (k : Int) ls w) := by
  have hwb : widthB (k : Int) = true := by simp [widthB]; omega
  have HW := hide (rwidth_any (k : Int) w (by omega))
  rw [hwb] at HW
  have HWB := hide hwb
  have HTB := hide hT
  have H6 := hide h6
  have HL := hide hl
  have HDG := hide (fun d hd => hl.dg (d := d) hd)
  obtain ⟨la, ll, lc, rfl, l1, l2, l3, l4, l5⟩ := hl
  subst l1
  clear hT h6 l4 l5 hwb
  go_enter Tryd.func16, Tryd.ntmps16
  go_wp2_with fail
  refine (unhide HW).mono ?_
  rintro e w1 ⟨rfl, rfl⟩
  go_wp2_with fail
  go_loopw [7, 18] (fun t7 t18 wr => ∃ (i : Nat), i ≤ ls.length ∧ t18 = .int .i64 (i : Int) ∧ Hid (OwD w1 wr t7 ((ls.take i).map (cutL k)))) (fun _ t _ => ls.length - (intOf t).toNat)
  case atStart => exact ⟨0, Nat.zero_le _, rfl, hide (OwD.nil _)⟩
  case round =>
    obtain ⟨i, hi, rfl, HO⟩ := hrel
    by_cases hlt : i < ls.length
    · have hlt' : (i : Int) < (ls.length : Int) := by omega
      obtain ⟨_, _, _, he, hel, _, _, _, hcell⟩ := (unhide HL).old (unhide HO).kept
      cases he
      obtain ⟨b, o, rfl, hc⟩ := hcell (by omega)
      have HC := hide (hc i hlt)
      have hgd : ls.getD i [] = ls[i] := by rw [List.getD_eq_getElem?_getD, List.getElem?_eq_getElem hlt]; rfl
      rw [hgd] at HC
      have HDi := hide (unhide HDG ls[i] (List.getElem_mem hlt))
      have HSN := hide (by rw [List.take_add_one, List.getElem?_eq_getElem hlt, List.map_append]; rfl : (ls.take (i + 1)).map (cutL k) = (ls.take i).map (cutL k) ++ [cutL k ls[i]])
      have HLN := hide (by rw [List.length_map, List.length_take]; omega : ((ls.take i).map (cutL k)).length + 1 ≤ 10000000)
      generalize ls[i] = d at HC HDi HSN
      generalize (ls.take i).map (cutL k) = ds at HO HSN HLN
      have hdl := (unhide HDi).1
      have HCE := hide (cI_end (k := k) hdl)
      have hcl := cutL_len k d h2 hdl
      have HCD := hide (cut_dg h2 (unhide HDi))
      obtain ⟨ua, ucap, rfl⟩ := owns_form (unhide HO).own
      have ia : ¬ (i : Int) < 0 := by omega
      have ib : ¬ (ls.length : Int) ≤ i := by omega
      clear hc hcell hel
      obtain ⟨wx, hwx⟩ : ∃ wx, wx = wr := ⟨_, rfl⟩
      subst hwx
      have HN0 := hide (cell_new wx d)
      have HK0 := hide (kept_old wx d)
      obtain ⟨wb, hwb⟩ : ∃ wb, (wx.alloc (.cells (zb 32) 41)).setRow wx.heap.size (brow d) = wb := ⟨_, rfl⟩
      rw [hwb] at HN0 HK0
      have HWBE := hide hwb
      clear hwb
      go_wp2_with (first
        | (refine wpList_load_mid rfl 41 _ rfl b (o + i * 32) rfl (d.map u8) _ (unhide HC) Tryd.underlying41 rfl (by rw [List.length_map, hdl]; exact Tryd.size_dig) ?_)
        | (rw [zb32]; refine wpList_store_row rfl 41 (.tmp 9) _ rfl wx.heap.size (brow d) rfl rfl _ (zb 32) (heap_alloc_new _ _) (Tryd.szD hdl) (by rw [zb_size, brow_size, hdl]) (brow_one _) ?_; rw [unhide HWBE]))
      go_loopw [10] (fun t wq => ∃ (j : Nat), k ≤ j ∧ j ≤ 32 ∧ t = .int .i64 j ∧ Hid (wq.heap[wx.heap.size]? = some (.cells (brow (cI k j d)) 41 (0, 0))) ∧ Hid (Kept [] wx wq)) (fun t _ => 32 - (intOf t).toNat)
      case atStart => exact ⟨k, Nat.le_refl _, h2, rfl, hide (by rw [cI_start]; exact unhide HN0), HK0⟩
      case round =>
        obtain ⟨j, hj1, hj2, rfl, HG, HKr⟩ := hrel
        by_cases hjl : j < 32
        · have hjl' : (j : Int) < 32 := by omega
          have q0 := brow_cell (unhide HG) j (by rw [cI_len hj1 hj2 hdl]; exact hjl)
          simp only [Go.Proofs.YtecadmldnjlibaaDoor.u8] at q0
          have z0 : wr.frozen? ⟨wx.heap.size, j, none⟩ = false := frozen_of_row _ _ _ _ _ (unhide HG)
          have HG2 := hide (by have h9 := heap_setCell_same wr wx.heap.size j _ 41 (.int .u8 0) (unhide HG); rw [cI_set hj1 hjl hdl] at h9; exact h9 : (wr.setCell ⟨wx.heap.size, j, none⟩ (.int .u8 0)).heap[wx.heap.size]? = some (.cells (brow (cI k (j + 1) d)) 41 (0, 0)))
          have HK2 := hide ((unhide HKr).setCell (p := ⟨wx.heap.size, j, none⟩) (Or.inr (Nat.le_refl _)) (.int .u8 0))
          go_wp2_with fail
          refine ⟨⟨j + 1, by omega, by omega, by go_num, HG2, HK2⟩, ?_⟩
          simp [intOf]; omega
        · have hjl' : ¬ (j : Int) < 32 := by omega
          have hj32 : j = 32 := by omega
          subst hj32
          rw [unhide HCE] at HG
          have HOB := hide ((unhide HO).pass (unhide HKr))
          have HOC := hide ((unhide HOB).pass ((Kept.refl [] wr).alloc (.cells (brow (cutL k d)) 41)))
          have HNC := hide (heap_alloc_new wr (.cells (brow (cutL k d)) 41))
          generalize cutL k d = D at HG HOC HNC HSN hcl HCD
          go_wp2_with (first
            | (refine wpList_load_mid rfl 41 _ rfl wx.heap.size 0 rfl (D.map u8) _ (range_row (unhide HG)) Tryd.underlying41 rfl (by rw [List.length_map, hcl]; exact Tryd.size_dig) ?_)
            | (at_builtin; rw [zb32, one_digP D hcl]; refine wpList_appendD rfl _ _ rfl rfl (wr.alloc (.cells (brow D) 41)) w1.heap.size (.slice ua ds.length ucap) ds [D] (some ⟨wr.heap.size, 0, none⟩) 1 1 (unhide HOC).own (RdD.oneP (unhide HNC) (unhide HCD)) (by have := unhide HLN; simp; omega) (unhide HOC).kept.size rfl rfl ?_; intro ao3 cap3 w3 HO3 HG3; have HO4 := hide ((unhide HOC).push (unhide HCD) (unhide HO3) (unhide HG3)); clear HO3 HG3))
          go_roundw
          case rel => exact ⟨i + 1, by omega, by simp, by rw [unhide HSN]; exact HO4⟩
          case measure => simp [intOf]; omega
    · have hlt' : ¬ (i : Int) < (ls.length : Int) := by omega
      have HE := hide (by rw [List.take_of_length_le (by omega)] : ls.take i = ls)
      rw [unhide HE] at HO
      go_wp2_with fail
      refine (newT_any (k : Int) wr (unhide HWB)).mono ?_
      rintro e w2 ⟨t0, rfl, _, tr2, k2⟩
      have HT2 := hide tr2
      have HO2 := hide ((unhide HO).pass k2)
      clear tr2 k2 HO
      go_wp2_with fail
      refine (appendT_any (k : Int) t0 (.slice none 0 0) u7 [] (ls.map (cutL k)) w2 (unhide HT2) (fun _ => rfl) (unhide HO2).rd (by simp [leavesK]; omega) ((unhide HTB).kept (unhide HO2).kept (by simp) (by simp)) ((unhide H6).kept (unhide HO2).kept)).mono ?_
      rintro e w3 ⟨hg1, _, k3⟩
      obtain ⟨t3, v3, qs3, rfl, _, tr3, lv3, _⟩ := hg1 (cut_all h1 h2 (unhide HDG))
      have HT3 := hide tr3
      have HL3 := hide lv3
      have HO3 := hide ((unhide HO2).pass k3)
      clear tr3 lv3 k3 HO2 hg1
      go_wp2_with fail
      refine ⟨rfl, _, results_tmp3 rfl _ _ _, fun h => by rw [unhide HWB] at h; simp at h, fun _ => ⟨t3, v3, qs3, u7, rfl, unhide HT3, by rw [unhide HL3]; simp [leavesK], by rw [Int.toNat_natCast]; exact unhide HO3⟩⟩
end Go.Proofs.YtecadmldnjlibaaDoor
namespace Go.Proofs.YtecadmldnjlibaaDoor
open Go.RowKit Go.BigFrame
set_option linter.unusedVariables false
set_option linter.unusedSimpArgs false

set_option maxRecDepth 100000 in
set_option maxHeartbeats 400000 in
theorem below64_any (k : Nat) (w : World) (h2 : 2 ≤ k) (hk : k < 18446744073709551616) :
    Calls Tryd.prog 39 #[.int .u64 k] w fun e w' => e = .returned (.int .u64 (belT k)) ∧ w' = w := by
  have hs : IntKind.u64.wrap ((k : Int) - 1) = ((k - 1 : Nat) : Int) := by rw [wrM]; omega
  have HB := hide (fun j (h : 2 ^ j ≤ k - 1) (h' : k - 1 < 2 ^ (j + 1)) => (by unfold belT; rw [(Nat.log2_eq_iff (by omega)).2 ⟨h, h'⟩] : belT k = 2 ^ j))
  obtain ⟨k1, hk1⟩ : ∃ k1, k - 1 = k1 := ⟨_, rfl⟩
  rw [hk1] at hs HB
  have h1 : 1 ≤ k1 := by omega
  have h3 : k1 < 18446744073709551616 := by omega
  obtain ⟨B, hBe⟩ : ∃ B, belT k = B := ⟨_, rfl⟩
  rw [hBe] at HB ⊢
  clear hBe hk1
  go_enter Tryd.func39, Tryd.ntmps39
  go_wp2_with fail
  go_loopw [3] (fun t3 wr => ∃ (m : Nat), t3 = .int .u64 (m : Int) ∧ 1 ≤ m ∧ m ≤ k1 ∧ Hid (∃ j, m = 2 ^ j) ∧ wr = w) (fun t _ => k1 - (intOf t).toNat)
  case atStart => exact ⟨1, rfl, by omega, by omega, hide ⟨0, rfl⟩, rfl⟩
  case round =>
    obtain ⟨m, rfl, hm1, hm2, HJ, rfl⟩ := hrel
    by_cases hle : 2 * m ≤ k1
    · have hle' : (m : Int) ≤ (k1 : Int) / 2 := by omega
      have hmul : IntKind.u64.wrap ((m : Int) * 2) = ((2 * m : Nat) : Int) := by rw [wrM]; omega
      have HJ2 := hide (by obtain ⟨j, hj⟩ := unhide HJ; exact ⟨j + 1, by rw [Nat.pow_succ]; omega⟩ : ∃ j, 2 * m = 2 ^ j)
      go_wp2_with (first | simp only [hs] | simp only [hmul])
      refine ⟨⟨2 * m, rfl, by omega, by omega, HJ2, by trivial⟩, ?_⟩
      simp [intOf]
      omega
    · have hle' : ¬ (m : Int) ≤ (k1 : Int) / 2 := by omega
      have HE := hide (by obtain ⟨j, hj⟩ := unhide HJ; rw [hj]; exact unhide HB j (by omega) (by rw [Nat.pow_succ]; omega) : B = m)
      go_wp2_with (simp only [hs])
      go_ret
      exact ⟨by rw [unhide HE]; rfl, rfl⟩

theorem stL_le : ∀ (c i n : Nat), stL c i n ≤ c
  | 0, _, _ => Nat.le_refl _
  | c + 1, i, n => by
    unfold stL
    have := stL_le c (i / 2) (n / 2 + n % 2)
    split
    · omega
    · split <;> omega
theorem stL_one (c i n : Nat) (h : n ≤ 1) : stL c i n = 0 := by
  cases c with
  | zero => rfl
  | succ c => unfold stL; rw [if_pos h]

end Go.Proofs.YtecadmldnjlibaaDoor
namespace Go.Proofs.YtecadmldnjlibaaDoor
open Go.RowKit Go.BigFrame
set_option linter.unusedVariables false
set_option linter.unusedSimpArgs false

theorem sinL_le : ∀ (c m n : Nat) (wh : Bool), sinL c m n wh ≤ c + 1
  | 0, _, _, wh => by unfold sinL; split <;> omega
  | c + 1, m, n, wh => by
    unfold sinL
    have h1 := sinL_le c m (belT n) wh
    have h2 := sinL_le c (m - belT n) (n - belT n) false
    split
    · split <;> omega
    · split <;> omega
theorem sinL_end (c m : Nat) (wh : Bool) : sinL c m m wh = if wh then 0 else 1 := by
  cases c with
  | zero => rfl
  | succ c => unfold sinL; rw [if_pos rfl]

theorem smL_len {m n : Nat} (hm : m ≤ n) (hn : n < 18446744073709551616) : (smL m n).length = if m = 0 then 0 else sinL 64 m n true := by
  unfold smL
  by_cases h0 : m = 0
  · rw [if_pos (Or.inl h0), if_pos h0]; rfl
  · rw [if_neg h0]
    by_cases h1 : m = n
    · rw [if_pos (Or.inr h1), h1, sinL_end]; rfl
    · rw [if_neg (by omega), seam_sin m 64 0 n true (by omega) hm (by omega)]; simp
theorem cntA_eq {i m n : Nat} (hi : i < n) (hm : m ≤ n) (hn : n < 18446744073709551616) : cntA i m n = (stL 64 i n : Int) := by
  unfold cntA
  rw [if_neg (by omega), path_all hi (by omega), levs_steps 64 i n hi (by omega)]

end Go.Proofs.YtecadmldnjlibaaDoor
namespace Go.Proofs.YtecadmldnjlibaaDoor
open Go.RowKit Go.BigFrame
set_option linter.unusedVariables false
set_option linter.unusedSimpArgs false

theorem RdD.flat {w : World} {g : Nat} {ds : List (List Nat)} {t : TypeId} {fr : Nat × Nat} (h : w.heap[g]? = some (.cells (flatD ds).toArray t fr)) (hd : ∀ d ∈ ds, Dg d) (n : Nat) (hn : ds.length = n) (hs : n ≤ 1000000) : RdD w (.slice (some ⟨g, 0, none⟩) n n) ds := by
  subst hn
  refine ⟨_, _, _, rfl, rfl, Nat.le_refl _, by omega, hd, fun _ => ⟨g, 0, rfl, fun i hi => ?_⟩⟩
  intro j v hv
  have hj : j < 32 := by
    have := (List.getElem?_eq_some_iff.1 hv).1
    rw [List.length_map, List.getD_eq_getElem?_getD, List.getElem?_eq_getElem hi] at this
    rw [← (hd ds[i] (List.getElem_mem hi)).1]; exact this
  have hq := flatD_at (fun d hd' => (hd d hd').1) i hi j hj
  rw [Nat.zero_add, cell_of_row _ _ _ _ _ _ h, List.getElem?_toArray, hq]
  exact hv
theorem RdD.range {w : World} {ao : Option Addr} {n c : Nat} {ds : List (List Nat)} (h : RdD w (.slice ao n c) ds) (hp : 0 < ds.length) : ∃ b o, ao = some ⟨b, o, none⟩ ∧ ∀ i, i < ds.length → w.rangeAt b (o + i * 32) ((ds.getD i []).map u8) := by
  obtain ⟨_, _, _, e, h1, h2, h3, h4, h5⟩ := h
  cases e
  obtain ⟨b, o, e, hc⟩ := h5 (by omega)
  exact ⟨b, o, e, fun i hi => hc i (by omega)⟩

def e1 : List Nat := 1 :: List.replicate 31 0
def e2 : List Nat := 2 :: List.replicate 31 0
def e3 : List Nat := 3 :: List.replicate 31 0
theorem e_dg : ∀ d ∈ [e1, e2, e3], Dg d := by
  intro d hd
  simp only [List.mem_cons, List.not_mem_nil, or_false] at hd
  rcases hd with rfl | rfl | rfl <;> exact ⟨rfl, by decide⟩
theorem e_cut : [e1, e2, e3].map (cutL 4) = [e1, e2, e3] := by decide +kernel
theorem e_path : pathF 2 64 0 3 = [(0, 2)] := by decide +kernel
theorem e_seam : smL 1 3 = [(1, 2), (2, 3)] := by decide +kernel
theorem e_in : inD 4 [e1, e2, e3] 2 3 = [nodS 4 e1 e2] := by
  unfold inD
  rw [if_neg (by decide), e_path]
  unfold rgL
  rw [List.map_cons, List.map_nil]
  unfold rgD
  rw [if_neg (by decide), rngD_cut (by decide) (by decide)]
  rfl
theorem e_cs : csD 4 [e1, e2, e3] 1 3 = [e2, e3] := by
  unfold csD
  rw [if_neg (by decide), e_seam]
  rfl

set_option maxRecDepth 100000 in
set_option maxHeartbeats 1000000 in
theorem mpawake_any (w : World) (hT : Tabs w) (h6 : Tab6 w) :
    Calls Tryd.prog 15 #[] w fun e w' => e = .returned (.bool true) ∧ Kept [] w w' := by
  have HTB := hide hT
  have H6 := hide h6
  clear hT h6
  go_enter Tryd.func15, Tryd.ntmps15
  go_wp2_with fail
  have kA := (Kept.refl [] w).alloc (.cells (flatD [e1, e2, e3]).toArray 41)
  have HTR := hide (tree_ok 4 (.slice (some ⟨w.heap.size, 0, none⟩) 3 3) [e1, e2, e3] _ (by decide) (by decide) (RdD.flat (heap_alloc_new w (.cells (flatD [e1, e2, e3]).toArray 41)) e_dg 3 rfl (by decide)) (by decide) ((unhide HTB).kept kA (by simp) (by simp)) ((unhide H6).kept kA))
  have HKA := hide kA
  clear kA
  refine Calls.mono (unhide HTR) ?_
  rintro e w1 ⟨_, h9⟩
  obtain ⟨t, v, qs, u, rfl, tr, lv, ow⟩ := h9 (by decide)
  rw [show ((4 : Nat) : Int).toNat = 4 from rfl, e_cut] at lv ow
  have HT1 := hide tr
  have HLV := hide lv
  have HO1 := hide (ow.back (unhide HKA))
  have HB := hide (by rw [lv]; decide : (leavesK qs).length < 32768)
  clear h9 tr lv ow HTR HKA
  obtain ⟨ua, uc, rfl⟩ := (unhide HO1).form
  go_wp2_with fail
  refine (mincl_any 4 t v qs 2 3 w1 (unhide HT1) (unhide HB) ((unhide HTB).kept (unhide HO1).kept (by simp) (by simp)) ((unhide H6).kept (unhide HO1).kept) (by decide)).mono ?_
  rintro e w2 ⟨p, rfl, o2⟩
  rw [unhide HLV, e_in] at o2
  rw [show inE (leavesK qs) 2 3 = 0 from by rw [unhide HLV]; rfl]
  have HO2 := hide o2
  have HT2 := hide ((unhide HT1).old o2.kept)
  have HOA2 := hide ((unhide HO1).pass o2.kept)
  clear o2 HO1 HT1
  obtain ⟨pa, pc, rfl⟩ := (unhide HO2).form
  go_wp2_with fail
  refine (mcons_any 4 t v qs 1 3 w2 (unhide HT2) (unhide HB) ((unhide HTB).kept (unhide HOA2).kept (by simp) (by simp)) ((unhide H6).kept (unhide HOA2).kept) (by decide)).mono ?_
  rintro e w3 ⟨q, rfl, o3⟩
  rw [unhide HLV, e_cs] at o3
  rw [show csE (leavesK qs) 1 3 = 0 from by rw [unhide HLV]; rfl]
  have HO3 := hide o3
  have HP3 := hide ((unhide HO2).pass o3.kept)
  have HOA3 := hide ((unhide HOA2).pass o3.kept)
  clear o3 HO2 HT2 HOA2
  obtain ⟨qa, qc, rfl⟩ := (unhide HO3).form
  go_wp2_with fail
  refine (counts_any 2 1 3 w3 (by decide) (by decide) (by decide)).mono ?_
  rintro e w4 ⟨rfl, k4⟩
  rw [show cntA 2 1 3 = 1 from by decide +kernel, show cntB 2 1 3 = 2 from by decide +kernel, show cntE 2 1 3 = 0 from rfl]
  have HQ4 := hide ((unhide HO3).pass k4)
  have HP4 := hide ((unhide HP3).pass k4)
  have HL4 := hide ((unhide HOA3).pass k4)
  clear k4 HO3 HP3 HOA3
  obtain ⟨pb, po, rfl, prd⟩ := (unhide HP4).rd.range (by decide)
  obtain ⟨qb, qo, rfl, qrd⟩ := (unhide HQ4).rd.range (by decide)
  obtain ⟨ub, uo, rfl, urd⟩ := (unhide HL4).rd.range (by decide)
  have p0 := prd 0 (by decide)
  have q0 := qrd 0 (by decide)
  have q1 := qrd 1 (by decide)
  have u0 := urd 0 (by decide)
  have u1 := urd 1 (by decide)
  have u2 := urd 2 (by decide)
  simp only [List.getD_cons_zero, List.getD_cons_succ, Nat.zero_mul, Nat.add_zero, Nat.one_mul] at p0 q0 q1 u0 u1 u2
  have HND := hide (fun w' (hw' : Kept [] w4 w') => (refNode_any 4 e1 e2 w' (by decide) (e_dg e1 (by simp)) (e_dg e2 (by simp))).mono (fun e w2 h2 => ⟨h2.1, hw'.trans h2.2 (by simp)⟩) : ∀ w', Kept [] w4 w' → Calls Tryd.prog 30 #[.int .i64 ((4 : Nat) : Int), .agg (brow e1), .agg (brow e2)] w' fun e w2 => e = .returned (.agg (brow (nodS 4 e1 e2))) ∧ Kept [] w4 w2)
  have hN := (nodS_dg 4 e1 e2).1
  generalize nodS 4 e1 e2 = N at p0 HND hN
  have he1 : e1.length = 32 := rfl
  have he2 : e2.length = 32 := rfl
  have he3 : e3.length = 32 := rfl
  have u2 : w4.rangeAt ub (uo + 64) (e3.map u8) := u2
  have hqN := fun W => dig_eq W N N hN hN
  have hq2 := fun W => dig_eq W e2 e2 he2 he2
  have hq3 := fun W => dig_eq W e3 e3 he3 he3
  rw [decide_eq_true rfl] at hqN hq2 hq3
  have hne : ∀ p : Prop, (∀ w', Kept [] w4 w' → p) = p := fun p => propext ⟨fun h => h w4 (Kept.refl [] w4), fun h _ _ => h⟩
  go_wp2_with fail
  refine wp_region_keep (by kernel_rfl) (by kernel_rfl) ?_
  iterate 2 (go_big_quiet_step (fail))
  refine wpQuiet_mid rfl 41 _ rfl pb (po) rfl (N.map u8) _ (fun w' hw' => range_kept p0 hw' (by simp)) Tryd.underlying41 rfl (by rw [List.length_map, hN]; exact Tryd.size_dig) ?_
  simp only [Act.put, List.setIfInBounds_toArray, List.set_cons_succ, List.set_cons_zero]
  iterate 2 (go_big_quiet_step (fail))
  refine wpQuiet_mid rfl 41 _ rfl ub (uo) rfl (e1.map u8) _ (fun w' hw' => range_kept u0 hw' (by simp)) Tryd.underlying41 rfl (by rw [List.length_map, he1]; exact Tryd.size_dig) ?_
  simp only [Act.put, List.setIfInBounds_toArray, List.set_cons_succ, List.set_cons_zero]
  iterate 2 (go_big_quiet_step (fail))
  refine wpQuiet_mid rfl 41 _ rfl ub (uo + 32) rfl (e2.map u8) _ (fun w' hw' => range_kept u1 hw' (by simp)) Tryd.underlying41 rfl (by rw [List.length_map, he2]; exact Tryd.size_dig) ?_
  simp only [Act.put, List.setIfInBounds_toArray, List.set_cons_succ, List.set_cons_zero]
  go_big_quiet_want
  go_big_quiet_op
  apply Exists.intro
  refine ⟨fun w' hw' => ?_, ?_⟩
  · exact unhide HND w' hw'
  go_big_quiet_on
  refine wpQuiet_val rfl (.bool true) (fun w' hw' => run_eql 41 (.tmp 67) (.tmp 74) _ rfl (brow N) (brow N) rfl rfl w' true (by kernel_rfl) (hqN w')) ?_
  simp only [Act.put, List.setIfInBounds_toArray, List.set_cons_succ, List.set_cons_zero]
  iterate 3 (go_big_quiet_step (fail))
  refine wpQuiet_mid rfl 41 _ rfl qb (qo) rfl (e2.map u8) _ (fun w' hw' => range_kept q0 hw' (by simp)) Tryd.underlying41 rfl (by rw [List.length_map, he2]; exact Tryd.size_dig) ?_
  simp only [Act.put, List.setIfInBounds_toArray, List.set_cons_succ, List.set_cons_zero]
  iterate 2 (go_big_quiet_step (fail))
  refine wpQuiet_mid rfl 41 _ rfl ub (uo + 32) rfl (e2.map u8) _ (fun w' hw' => range_kept u1 hw' (by simp)) Tryd.underlying41 rfl (by rw [List.length_map, he2]; exact Tryd.size_dig) ?_
  simp only [Act.put, List.setIfInBounds_toArray, List.set_cons_succ, List.set_cons_zero]
  refine wpQuiet_val rfl (.bool true) (fun w' hw' => run_eql 41 (.tmp 79) (.tmp 82) _ rfl (brow e2) (brow e2) rfl rfl w' true (by kernel_rfl) (hq2 w')) ?_
  simp only [Act.put, List.setIfInBounds_toArray, List.set_cons_succ, List.set_cons_zero]
  iterate 4 (go_big_quiet_step (fail))
  refine wpQuiet_mid rfl 41 _ rfl qb (qo + 32) rfl (e3.map u8) _ (fun w' hw' => range_kept q1 hw' (by simp)) Tryd.underlying41 rfl (by rw [List.length_map, he3]; exact Tryd.size_dig) ?_
  simp only [Act.put, List.setIfInBounds_toArray, List.set_cons_succ, List.set_cons_zero]
  iterate 2 (go_big_quiet_step (fail))
  refine wpQuiet_mid rfl 41 _ rfl ub (uo + 64) rfl (e3.map u8) _ (fun w' hw' => range_kept u2 hw' (by simp)) Tryd.underlying41 rfl (by rw [List.length_map, he3]; exact Tryd.size_dig) ?_
  simp only [Act.put, List.setIfInBounds_toArray, List.set_cons_succ, List.set_cons_zero]
  refine wpQuiet_val rfl (.bool true) (fun w' hw' => run_eql 41 (.tmp 88) (.tmp 91) _ rfl (brow e3) (brow e3) rfl rfl w' true (by kernel_rfl) (hq3 w')) ?_
  simp only [Act.put, List.setIfInBounds_toArray, List.set_cons_succ, List.set_cons_zero]
  repeat (go_big_quiet_step (fail))
  refine wpQuiet_nil ?_
  intro w7 hw7
  have HK7 := hide ((unhide HL4).kept.trans hw7 (by simp))
  clear hw7
  go_wp2
  go_ret
  exact ⟨rfl, unhide HK7⟩
end Go.Proofs.YtecadmldnjlibaaDoor
/-
  Laws for drawn regions, by genreg.py. No program.
-/
namespace Go.Proofs.YtecadmldnjlibaaDoor
open Go Go.RowKit Go.BigFrame
set_option linter.unusedVariables false
set_option linter.unusedSimpArgs false
section
variable {P : Program} {Q : Exit → Act → World → Prop}
theorem wp_mu15 {id : Nat} {o0 o1 o2 o3 o4 o5 o6 o7 o8 o9 o10 o11 o12 o13 o14 : Oper} {a : Act} {w : World} (hm : P.follows .mixedOrders = true) (hs : Region.noSelect #[o0, o1, o2, o3, o4, o5, o6, o7, o8, o9, o10, o11, o12, o13, o14] = true)
    (f0 : Region.free .any #[o0, o1, o2, o3, o4, o5, o6, o7, o8, o9, o10, o11, o12, o13, o14] #[false, false, false, false, false, false, false, false, false, false, false, false, false, false, false] 0 = true) (r0 : (Region.ready .any #[o0, o1, o2, o3, o4, o5, o6, o7, o8, o9, o10, o11, o12, o13, o14] #[false, false, false, false, false, false, false, false, false, false, false, false, false, false, false]).contains 0 = true)
    (f1 : Region.free .any #[o0, o1, o2, o3, o4, o5, o6, o7, o8, o9, o10, o11, o12, o13, o14] #[true, false, false, false, false, false, false, false, false, false, false, false, false, false, false] 1 = true) (r1 : (Region.ready .any #[o0, o1, o2, o3, o4, o5, o6, o7, o8, o9, o10, o11, o12, o13, o14] #[true, false, false, false, false, false, false, false, false, false, false, false, false, false, false]).contains 1 = true)
    (f2 : Region.free .any #[o0, o1, o2, o3, o4, o5, o6, o7, o8, o9, o10, o11, o12, o13, o14] #[true, true, false, false, false, false, false, false, false, false, false, false, false, false, false] 2 = true) (r2 : (Region.ready .any #[o0, o1, o2, o3, o4, o5, o6, o7, o8, o9, o10, o11, o12, o13, o14] #[true, true, false, false, false, false, false, false, false, false, false, false, false, false, false]).contains 2 = true)
    (f3 : Region.free .any #[o0, o1, o2, o3, o4, o5, o6, o7, o8, o9, o10, o11, o12, o13, o14] #[true, true, true, false, false, false, false, false, false, false, false, false, false, false, false] 3 = true) (r3 : (Region.ready .any #[o0, o1, o2, o3, o4, o5, o6, o7, o8, o9, o10, o11, o12, o13, o14] #[true, true, true, false, false, false, false, false, false, false, false, false, false, false, false]).contains 3 = true)
    (f4 : Region.free .any #[o0, o1, o2, o3, o4, o5, o6, o7, o8, o9, o10, o11, o12, o13, o14] #[true, true, true, true, false, false, false, false, false, false, false, false, false, false, false] 4 = true) (r4 : (Region.ready .any #[o0, o1, o2, o3, o4, o5, o6, o7, o8, o9, o10, o11, o12, o13, o14] #[true, true, true, true, false, false, false, false, false, false, false, false, false, false, false]).contains 4 = true)
    (f5 : Region.free .any #[o0, o1, o2, o3, o4, o5, o6, o7, o8, o9, o10, o11, o12, o13, o14] #[true, true, true, true, true, false, false, false, false, false, false, false, false, false, false] 5 = true) (r5 : (Region.ready .any #[o0, o1, o2, o3, o4, o5, o6, o7, o8, o9, o10, o11, o12, o13, o14] #[true, true, true, true, true, false, false, false, false, false, false, false, false, false, false]).contains 5 = true)
    (f6 : Region.free .any #[o0, o1, o2, o3, o4, o5, o6, o7, o8, o9, o10, o11, o12, o13, o14] #[true, true, true, true, true, true, false, false, false, false, false, false, false, false, false] 6 = true) (r6 : (Region.ready .any #[o0, o1, o2, o3, o4, o5, o6, o7, o8, o9, o10, o11, o12, o13, o14] #[true, true, true, true, true, true, false, false, false, false, false, false, false, false, false]).contains 6 = true)
    (f7 : Region.free .any #[o0, o1, o2, o3, o4, o5, o6, o7, o8, o9, o10, o11, o12, o13, o14] #[true, true, true, true, true, true, true, false, false, false, false, false, false, false, false] 7 = true) (r7 : (Region.ready .any #[o0, o1, o2, o3, o4, o5, o6, o7, o8, o9, o10, o11, o12, o13, o14] #[true, true, true, true, true, true, true, false, false, false, false, false, false, false, false]).contains 7 = true)
    (f8 : Region.free .any #[o0, o1, o2, o3, o4, o5, o6, o7, o8, o9, o10, o11, o12, o13, o14] #[true, true, true, true, true, true, true, true, false, false, false, false, false, false, false] 8 = true) (r8 : (Region.ready .any #[o0, o1, o2, o3, o4, o5, o6, o7, o8, o9, o10, o11, o12, o13, o14] #[true, true, true, true, true, true, true, true, false, false, false, false, false, false, false]).contains 8 = true)
    (f9 : Region.free .any #[o0, o1, o2, o3, o4, o5, o6, o7, o8, o9, o10, o11, o12, o13, o14] #[true, true, true, true, true, true, true, true, true, false, false, false, false, false, false] 9 = true) (r9 : (Region.ready .any #[o0, o1, o2, o3, o4, o5, o6, o7, o8, o9, o10, o11, o12, o13, o14] #[true, true, true, true, true, true, true, true, true, false, false, false, false, false, false]).contains 9 = true)
    (f10 : Region.free .any #[o0, o1, o2, o3, o4, o5, o6, o7, o8, o9, o10, o11, o12, o13, o14] #[true, true, true, true, true, true, true, true, true, true, false, false, false, false, false] 10 = true) (r10 : (Region.ready .any #[o0, o1, o2, o3, o4, o5, o6, o7, o8, o9, o10, o11, o12, o13, o14] #[true, true, true, true, true, true, true, true, true, true, false, false, false, false, false]).contains 10 = true)
    (q_ : Region.ready .any #[o0, o1, o2, o3, o4, o5, o6, o7, o8, o9, o10, o11, o12, o13, o14] #[true, true, true, true, true, true, true, true, true, true, true, false, false, false, false] = [11])
    (q11_ : Region.ready .any #[o0, o1, o2, o3, o4, o5, o6, o7, o8, o9, o10, o11, o12, o13, o14] #[true, true, true, true, true, true, true, true, true, true, true, true, false, false, false] = [12])
    (q11_12_ : Region.ready .any #[o0, o1, o2, o3, o4, o5, o6, o7, o8, o9, o10, o11, o12, o13, o14] #[true, true, true, true, true, true, true, true, true, true, true, true, true, false, false] = [13])
    (f11_12_13_14 : Region.free .any #[o0, o1, o2, o3, o4, o5, o6, o7, o8, o9, o10, o11, o12, o13, o14] #[true, true, true, true, true, true, true, true, true, true, true, true, true, true, false] 14 = true) (r11_12_13_14 : (Region.ready .any #[o0, o1, o2, o3, o4, o5, o6, o7, o8, o9, o10, o11, o12, o13, o14] #[true, true, true, true, true, true, true, true, true, true, true, true, true, true, false]).contains 14 = true)
    (q11_12_13_ : Region.ready .any #[o0, o1, o2, o3, o4, o5, o6, o7, o8, o9, o10, o11, o12, o13, o14] #[true, true, true, true, true, true, true, true, true, true, true, true, true, true, true] = [])
    (g11 : o11.guard = none)    (g12 : o12.guard = none)    (g13 : o13.guard = none)
    (v0 v1 v2 v3 v4 v5 v6 v7 v8 v9 v10 : Value) (A0 A1 A2 A3 A4 A5 A6 A7 A8 A9 A10 : Act)
    (S : World → Prop)
    (I_ : World → Prop)
    (I11_ : Value → World → Prop)
    (I11_12_ : Value → Value → World → Prop)
    (I11_12_13_ : Value → Value → Value → World → Prop)
    (v14 : Value → Value)
    (p0 : a.put o0.dst v0 = A0) (hy0 : YieldsIf P #[o0, o1, o2, o3, o4, o5, o6, o7, o8, o9, o10, o11, o12, o13, o14] S o0 v0 a)
    (p1 : A0.put o1.dst v1 = A1) (hy1 : YieldsIf P #[o0, o1, o2, o3, o4, o5, o6, o7, o8, o9, o10, o11, o12, o13, o14] S o1 v1 A0)
    (p2 : A1.put o2.dst v2 = A2) (hy2 : YieldsIf P #[o0, o1, o2, o3, o4, o5, o6, o7, o8, o9, o10, o11, o12, o13, o14] S o2 v2 A1)
    (p3 : A2.put o3.dst v3 = A3) (hy3 : YieldsIf P #[o0, o1, o2, o3, o4, o5, o6, o7, o8, o9, o10, o11, o12, o13, o14] S o3 v3 A2)
    (p4 : A3.put o4.dst v4 = A4) (hy4 : YieldsIf P #[o0, o1, o2, o3, o4, o5, o6, o7, o8, o9, o10, o11, o12, o13, o14] S o4 v4 A3)
    (p5 : A4.put o5.dst v5 = A5) (hy5 : YieldsIf P #[o0, o1, o2, o3, o4, o5, o6, o7, o8, o9, o10, o11, o12, o13, o14] S o5 v5 A4)
    (p6 : A5.put o6.dst v6 = A6) (hy6 : YieldsIf P #[o0, o1, o2, o3, o4, o5, o6, o7, o8, o9, o10, o11, o12, o13, o14] S o6 v6 A5)
    (p7 : A6.put o7.dst v7 = A7) (hy7 : YieldsIf P #[o0, o1, o2, o3, o4, o5, o6, o7, o8, o9, o10, o11, o12, o13, o14] S o7 v7 A6)
    (p8 : A7.put o8.dst v8 = A8) (hy8 : YieldsIf P #[o0, o1, o2, o3, o4, o5, o6, o7, o8, o9, o10, o11, o12, o13, o14] S o8 v8 A7)
    (p9 : A8.put o9.dst v9 = A9) (hy9 : YieldsIf P #[o0, o1, o2, o3, o4, o5, o6, o7, o8, o9, o10, o11, o12, o13, o14] S o9 v9 A8)
    (p10 : A9.put o10.dst v10 = A10) (hy10 : YieldsIf P #[o0, o1, o2, o3, o4, o5, o6, o7, o8, o9, o10, o11, o12, o13, o14] S o10 v10 A9)
    (i0 : I_ w.drew)
    (hIS : (∀ w', I_  w' → S w') ∧ (∀ (u11 : Value) w', I11_ u11 w' → S w') ∧ (∀ (u11 u12 : Value) w', I11_12_ u11 u12 w' → S w') ∧ (∀ (u11 u12 u13 : Value) w', I11_12_13_ u11 u12 u13 w' → S w'))
    (s_11 : ∀ w', I_  w' → ∀ K : Act → World → Prop, (∀ (u11 : Value) w2, I11_ u11 w2 → K (A10.put o11.dst u11) w2) → o11.wp P A10 w' K (NoPanic Q))
    (s11_12 : ∀ (u11 : Value) w', I11_ u11 w' → ∀ K : Act → World → Prop, (∀ (u12 : Value) w2, I11_12_ u11 u12 w2 → K ((A10.put o11.dst u11).put o12.dst u12) w2) → o12.wp P (A10.put o11.dst u11) w' K (NoPanic Q))
    (s11_12_13 : ∀ (u11 u12 : Value) w', I11_12_ u11 u12 w' → ∀ K : Act → World → Prop, (∀ (u13 : Value) w2, I11_12_13_ u11 u12 u13 w2 → K (((A10.put o11.dst u11).put o12.dst u12).put o13.dst u13) w2) → o13.wp P ((A10.put o11.dst u11).put o12.dst u12) w' K (NoPanic Q))
    (y11_12_13_14 : ∀ (u11 u12 u13 : Value) w', I11_12_13_ u11 u12 u13 w' → YieldsIf P #[o0, o1, o2, o3, o4, o5, o6, o7, o8, o9, o10, o11, o12, o13, o14] S o14 (v14 u13) (((A10.put o11.dst u11).put o12.dst u12).put o13.dst u13))
    (h : ∀ (u11 u12 u13 : Value) w', I11_12_13_ u11 u12 u13 w' → Q .normal ((((A10.put o11.dst u11).put o12.dst u12).put o13.dst u13).put o14.dst (v14 u13)) w') :
    (Code.region id #[o0, o1, o2, o3, o4, o5, o6, o7, o8, o9, o10, o11, o12, o13, o14] true).wp P Q a w := by
  subst p0 p1 p2 p3 p4 p5 p6 p7 p8 p9 p10
  obtain ⟨z_, z11_, z11_12_, z11_12_13_⟩ := hIS
  refine wp_region_noPanic ?_
  refine wp_region_held_drew (S := S) hm (z_ _ i0) (fun hH => ?_)
  show wpAnyH P .any #[o0, o1, o2, o3, o4, o5, o6, o7, o8, o9, o10, o11, o12, o13, o14] (NoPanic Q) S 15 #[false, false, false, false, false, false, false, false, false, false, false, false, false, false, false] a w.drew
  refine wpAnyH_take (i := 0) (oi := o0) rfl hs f0 r0 (fun _ _ _ h => h) hy0 hH ?_
  refine wpAnyH_take (i := 1) (oi := o1) rfl hs f1 r1 (fun _ _ _ h => h) hy1 hH ?_
  refine wpAnyH_take (i := 2) (oi := o2) rfl hs f2 r2 (fun _ _ _ h => h) hy2 hH ?_
  refine wpAnyH_take (i := 3) (oi := o3) rfl hs f3 r3 (fun _ _ _ h => h) hy3 hH ?_
  refine wpAnyH_take (i := 4) (oi := o4) rfl hs f4 r4 (fun _ _ _ h => h) hy4 hH ?_
  refine wpAnyH_take (i := 5) (oi := o5) rfl hs f5 r5 (fun _ _ _ h => h) hy5 hH ?_
  refine wpAnyH_take (i := 6) (oi := o6) rfl hs f6 r6 (fun _ _ _ h => h) hy6 hH ?_
  refine wpAnyH_take (i := 7) (oi := o7) rfl hs f7 r7 (fun _ _ _ h => h) hy7 hH ?_
  refine wpAnyH_take (i := 8) (oi := o8) rfl hs f8 r8 (fun _ _ _ h => h) hy8 hH ?_
  refine wpAnyH_take (i := 9) (oi := o9) rfl hs f9 r9 (fun _ _ _ h => h) hy9 hH ?_
  refine wpAnyH_take (i := 10) (oi := o10) rfl hs f10 r10 (fun _ _ _ h => h) hy10 hH ?_
  generalize (((((((((((a.put o0.dst v0).put o1.dst v1).put o2.dst v2).put o3.dst v3).put o4.dst v4).put o5.dst v5).put o6.dst v6).put o7.dst v7).put o8.dst v8).put o9.dst v9).put o10.dst v10) = B at *
  have wa11 : ∀ y, Region.wanted o11 y = true := fun y => by unfold Region.wanted; rw [g11]
  have wa12 : ∀ y, Region.wanted o12 y = true := fun y => by unfold Region.wanted; rw [g12]
  have wa13 : ∀ y, Region.wanted o13 y = true := fun y => by unfold Region.wanted; rw [g13]
  have t11_12_13_ : ∀ (u11 u12 u13 : Value) w', I11_12_13_ u11 u12 u13 w' → wpAnyH P .any #[o0, o1, o2, o3, o4, o5, o6, o7, o8, o9, o10, o11, o12, o13, o14] (NoPanic Q) S 0 #[true, true, true, true, true, true, true, true, true, true, true, true, true, true, true] ((((B.put o11.dst u11).put o12.dst u12).put o13.dst u13).put o14.dst (v14 u13)) w' := by
    intro u11 u12 u13 w0 i0
    exact ⟨q11_12_13_, NoPanic.normal (h u11 u12 u13 w0 i0)⟩
  have t11_12_ : ∀ (u11 u12 : Value) w', I11_12_ u11 u12 w' → wpAnyH P .any #[o0, o1, o2, o3, o4, o5, o6, o7, o8, o9, o10, o11, o12, o13, o14] (NoPanic Q) S 2 #[true, true, true, true, true, true, true, true, true, true, true, true, true, false, false] ((B.put o11.dst u11).put o12.dst u12) w' := by
    intro u11 u12 w0 i0
    refine wpAnyH_ready (rs := [13]) q11_12_ (by simp) (AllReadyH.cons (o := o13) rfl (fun K hK => ?_) AllReadyH.nil)
    · rw [if_pos (wa13 _)]
      refine s11_12_13 u11 u12 w0 i0 K (fun u13 w1 i1 => hK.out _ _ (z11_12_13_ u11 u12 u13 w1 i1) (fun _ => ?_))
      clear hK
      refine wpAnyH_take (i := 14) (oi := o14) rfl hs f11_12_13_14 r11_12_13_14 (fun _ _ _ h => h) (y11_12_13_14 u11 u12 u13 w1 i1) (z11_12_13_ u11 u12 u13 w1 i1) ?_
      exact t11_12_13_ u11 u12 u13 w1 i1
  have t11_ : ∀ (u11 : Value) w', I11_ u11 w' → wpAnyH P .any #[o0, o1, o2, o3, o4, o5, o6, o7, o8, o9, o10, o11, o12, o13, o14] (NoPanic Q) S 3 #[true, true, true, true, true, true, true, true, true, true, true, true, false, false, false] (B.put o11.dst u11) w' := by
    intro u11 w0 i0
    refine wpAnyH_ready (rs := [12]) q11_ (by simp) (AllReadyH.cons (o := o12) rfl (fun K hK => ?_) AllReadyH.nil)
    · rw [if_pos (wa12 _)]
      refine s11_12 u11 w0 i0 K (fun u12 w1 i1 => hK.out _ _ (z11_12_ u11 u12 w1 i1) (fun _ => ?_))
      clear hK
      exact t11_12_ u11 u12 w1 i1
  have t_ : ∀ w', I_  w' → wpAnyH P .any #[o0, o1, o2, o3, o4, o5, o6, o7, o8, o9, o10, o11, o12, o13, o14] (NoPanic Q) S 4 #[true, true, true, true, true, true, true, true, true, true, true, false, false, false, false] B w' := by
    intro w0 i0
    refine wpAnyH_ready (rs := [11]) q_ (by simp) (AllReadyH.cons (o := o11) rfl (fun K hK => ?_) AllReadyH.nil)
    · rw [if_pos (wa11 _)]
      refine s_11  w0 i0 K (fun u11 w1 i1 => hK.out _ _ (z11_ u11 w1 i1) (fun _ => ?_))
      clear hK
      exact t11_ u11 w1 i1
  exact t_ w.drew i0

end
end Go.Proofs.YtecadmldnjlibaaDoor
namespace Go.Proofs.YtecadmldnjlibaaDoor
open Go.RowKit Go.BigFrame
set_option linter.unusedVariables false
set_option linter.unusedSimpArgs false

set_option maxRecDepth 100000 in
set_option maxHeartbeats 1000000 in
/-- Lists that read alike are alike. -/
theorem samep_any (va vb : Value) (ds : List (List Nat)) (w : World) (ha : RdD w va ds) (hb : RdD w vb ds) :
    Calls Tryd.prog 21 #[va, vb] w fun e w' => e = .returned (.bool true) ∧ Kept [] w w' := by
  have HA := hide ha
  have HB := hide hb
  obtain ⟨aa, an, ac, rfl, a1, a2, a3, a4, a5⟩ := ha
  obtain ⟨ba, bn, bc, rfl, b1, b2, b3, b4, b5⟩ := hb
  subst a1
  subst b1
  clear a4 a5 b4 b5
  go_enter Tryd.func21, Tryd.ntmps21
  go_wp2_with fail
  go_loopw [5] (fun t5 wr => ∃ (i : Nat), i ≤ ds.length ∧ t5 = .int .i64 (i : Int) ∧ Hid (Kept [] w wr)) (fun t _ => ds.length - (intOf t).toNat)
  case atStart => exact ⟨0, Nat.zero_le _, rfl, hide (Kept.refl _ _)⟩
  case round =>
    obtain ⟨i, hi, rfl, HK⟩ := hrel
    by_cases hlt : i < ds.length
    · have hlt' : (i : Int) < (ds.length : Int) := by omega
      obtain ⟨b, o, rfl, hc⟩ := ((unhide HA).old (unhide HK)).range (by omega)
      obtain ⟨b', o', rfl, hc'⟩ := ((unhide HB).old (unhide HK)).range (by omega)
      have r1 := hc i hlt
      have r2 := hc' i hlt
      have hdg := (unhide HA).dg (d := ds.getD i []) (by rw [List.getD_eq_getElem?_getD, List.getElem?_eq_getElem hlt]; exact List.getElem_mem hlt)
      generalize ds.getD i [] = d at r1 r2 hdg
      have hdl := hdg.1
      have hq := fun W => dig_eq W d d hdl hdl
      rw [decide_eq_true rfl] at hq
      have ia : ¬ (i : Int) < 0 := by omega
      have ib : ¬ (ds.length : Int) ≤ i := by omega
      clear hc hc' hdg
      have hne : ∀ p : Prop, (∀ w', Kept [] wr w' → p) = p := fun p => propext ⟨fun h => h wr (Kept.refl [] wr), fun h _ _ => h⟩
      go_wp2_with fail
      refine wp_region_keep (by kernel_rfl) (by kernel_rfl) ?_
      iterate 3 (go_big_quiet_step (fail))
      refine wpQuiet_mid rfl 41 _ rfl b (o + i * 32) rfl (d.map u8) _ (fun w' hw' => range_kept r1 hw' (by simp)) Tryd.underlying41 rfl (by rw [List.length_map, hdl]; exact Tryd.size_dig) ?_
      simp only [Act.put, List.setIfInBounds_toArray, List.set_cons_succ, List.set_cons_zero]
      iterate 3 (go_big_quiet_step (fail))
      refine wpQuiet_mid rfl 41 _ rfl b' (o' + i * 32) rfl (d.map u8) _ (fun w' hw' => range_kept r2 hw' (by simp)) Tryd.underlying41 rfl (by rw [List.length_map, hdl]; exact Tryd.size_dig) ?_
      simp only [Act.put, List.setIfInBounds_toArray, List.set_cons_succ, List.set_cons_zero]
      refine wpQuiet_val rfl (.bool false) (fun w' _ => run_neq 41 _ _ _ rfl (d.map u8).toArray (d.map u8).toArray rfl rfl w' true (by kernel_rfl) (hq w')) ?_
      simp only [Act.put, List.setIfInBounds_toArray, List.set_cons_succ, List.set_cons_zero]
      refine wpQuiet_nil ?_
      intro w6 hw6
      have HK6 := hide ((unhide HK).trans hw6 (by simp))
      clear hw6 hne hq r1 r2
      go_wp2_with fail
      refine ⟨⟨i + 1, by omega, by simp, HK6⟩, ?_⟩
      simp [intOf]
      omega
    · have hlt' : ¬ (i : Int) < (ds.length : Int) := by omega
      go_wp2_with fail
      go_ret
      exact ⟨rfl, unhide HK⟩

theorem run_mid {P : Program} {op : Oper} {a : Act} (ty : TypeId) (x : Operand) (ho : op.op = .load ty x) (b off : Nat) (hx : a.eval x = .pointer (some ⟨b, off, none⟩)) (cs : List Value) (d : TypeDesc) (w : World) (hg : w.rangeAt b off cs)
    (hu : P.underlying ty = some d) (hd : d.isRow = true) (hi : (P.info? ty).map (·.size) = some cs.length) : (execOp a.eval op).run P w = .ok (.value (.agg cs.toArray)) w := by
  unfold execOp
  simp only [ho]
  have := run_loadVar_mid (P := P) w b off ty cs d hg hu hd hi
  simp only [hx, Instr.loadAt, Instr.sureAddr, Sem.run_bind, Sem.run_pure, Result.andThen_ok, this]

theorem wp_appendP {P : Program} {o : Oper} {a : Act} {w : World} {K : Act → World → Prop} {Q : Exit → Act → World → Prop} {s x : Operand} {t : TypeId} (ho : o.op = .call { callee := .builtin .append, args := #[s, x], argTypes := #[t, t] }) (hty : o.type = t) {v u r : Value} {w1 : World} (hs : a.eval s = v) (hx : a.eval x = u)
    (hrun : (Builtin.append_ #[t, t] t #[v, u]).run P w = .ok r w1) (hK : K (a.put o.dst r) w1) : o.wp P a w K Q := by
  unfold Oper.wp execOp
  simp only [ho, hty, resolve, invoke, builtin, Sem.run_bind, Sem.run_pure, Result.andThen_ok, List.map_toArray, List.map_cons, List.map_nil, hs, hx, hrun]
  exact hK

theorem upL_dg (z : Int) : ∀ (ls : List (List Nat)), (∀ d ∈ ls, Dg d) → ∀ d ∈ upL z ls, Dg d
  | [], _, d, hd => by simp [upL] at hd
  | [a], h, d, hd => h d (by simpa [upL] using hd)
  | a :: b :: r, h, d, hd => by
    rw [upL, List.mem_cons] at hd
    rcases hd with rfl | hd
    · exact nodS_dg z _ _
    · exact upL_dg z r (fun x hx => h x (by simp [hx])) d hd

set_option maxRecDepth 100000 in
set_option maxHeartbeats 1000000 in
theorem up_any (k : Nat) (hk : 1 ≤ k ∧ k ≤ 32) (lv : Value) (ls : List (List Nat)) (w : World) (hl : RdD w lv ls) (hN : ls.length ≤ 1000000) :
    Calls Tryd.prog 61 #[.int .i64 (k : Int), lv] w fun e w' => ∃ u, e = .returned u ∧ OwD w w' u (upL (k : Int) ls) := by
  have HL := hide hl
  have HDG := hide (fun d hd => hl.dg (d := d) hd)
  have HUL := hide (upL_len (k : Int) ls)
  obtain ⟨la, ll, lc, rfl, l1, l2, l3, l4, l5⟩ := hl
  subst l1
  have HC5 := hide (fun h => l5 h)
  clear l4 l5
  go_enter Tryd.func61, Tryd.ntmps61
  go_wp2_with fail
  go_loopw [5, 6] (fun t5 t6 wr => ∃ (j : Nat), 2 * j ≤ ls.length + 1 ∧ t6 = .int .i64 ((2 * j : Nat) : Int) ∧ Hid (OwD w wr t5 ((upL (k : Int) ls).take j))) (fun _ t _ => ls.length + 1 - (intOf t).toNat)
  case atStart => exact ⟨0, by omega, rfl, hide (OwD.nil _)⟩
  case round =>
    obtain ⟨j, hj, rfl, HO⟩ := hrel
    by_cases hlt : 2 * j < ls.length
    · obtain ⟨b, o, hla, hc⟩ := unhide HC5 (by omega)
      subst hla
      have HAT := hide (upL_at (k : Int) ls j)
      have r0 := hc (2 * j) hlt
      have hbw : b < w.heap.size := by
        have hd0 := (unhide HDG (ls.getD (2 * j) []) (by rw [List.getD_eq_getElem?_getD, List.getElem?_eq_getElem hlt]; exact List.getElem_mem hlt)).1
        cases hx : ls.getD (2 * j) [] with
        | nil => rw [hx] at hd0; simp at hd0
        | cons y r => rw [hx] at r0; exact block_lt_of_cell (r0 0 _ rfl)
      have HLN := hide (by rw [List.length_take]; omega : ((upL (k : Int) ls).take j).length ≤ j)
      have hdg0 := unhide HDG (ls.getD (2 * j) []) (by rw [List.getD_eq_getElem?_getD, List.getElem?_eq_getElem hlt]; exact List.getElem_mem hlt)
      obtain ⟨i, hij⟩ : ∃ i, 2 * j = i := ⟨_, rfl⟩
      rw [hij] at hlt r0 hdg0 HAT
      have HIJ := hide hij
      have hlt' : (i : Int) < (ls.length : Int) := by omega
      have ia : ¬ (i : Int) < 0 := by omega
      have ib : ¬ (ls.length : Int) ≤ i := by omega
      have hi1 : IntKind.i64.wrap ((i : Int) + 1) = (i : Int) + 1 := by simp [IntKind.wrap, IntKind.signed, IntKind.bits]; omega
      have hi2 : IntKind.i64.wrap ((i : Int) + 2) = (i : Int) + 2 := by simp [IntKind.wrap, IntKind.signed, IntKind.bits]; omega
      rw [hij]
      clear hij
      have r0 := range_kept r0 (unhide HO).kept (by simp)
      by_cases hbr : i + 1 < ls.length
      · have hbr' : (i : Int) + 1 < (ls.length : Int) := by omega
        have hdg1 := unhide HDG (ls.getD (i + 1) []) (by rw [List.getD_eq_getElem?_getD, List.getElem?_eq_getElem hbr]; exact List.getElem_mem hbr)
        have r1 := range_kept (hc (i + 1) hbr) (unhide HO).kept (by simp)
        rw [if_pos hbr] at HAT
        generalize ls.getD i [] = d0 at r0 hdg0 HAT
        generalize ls.getD (i + 1) [] = d1 at r1 hdg1 HAT
        have HSN := hide (by rw [List.take_add_one, unhide HAT]; rfl : (upL (k : Int) ls).take (j + 1) = (upL (k : Int) ls).take j ++ [nodS (k : Int) d0 d1])
        have ic : ¬ (i : Int) + 1 < 0 := by omega
        have id' : ¬ (ls.length : Int) ≤ (i : Int) + 1 := by omega
        have HND := hide (fun W => refNode_any k d0 d1 W hk hdg0 hdg1)
        have HDX := hide (nodS_dg (k : Int) d0 d1)
        generalize nodS (k : Int) d0 d1 = X at HND HDX HSN
        generalize (upL (k : Int) ls).take j = ds at HO HSN HLN
        obtain ⟨ua, ucap, rfl⟩ := owns_form (unhide HO).own
        have hxl := (unhide HDX).1
        have h0l := hdg0.1
        have h1l := hdg1.1
        have HR0 := hide r0
        have HR1 := hide r1
        have hnb : b ∉ (Value.slice ua ds.length ucap).ownBlock.toList := by
          intro hm
          have := ((unhide HO).own.lt b (by simpa using hm)).1
          omega
        clear hc r0 r1 HAT
        go_wp2_with fail
        refine wp_mu15 (by kernel_rfl) (by kernel_rfl) (by kernel_rfl) (by kernel_rfl) (by kernel_rfl) (by kernel_rfl) (by kernel_rfl) (by kernel_rfl) (by kernel_rfl) (by kernel_rfl) (by kernel_rfl) (by kernel_rfl) (by kernel_rfl) (by kernel_rfl) (by kernel_rfl) (by kernel_rfl) (by kernel_rfl) (by kernel_rfl) (by kernel_rfl) (by kernel_rfl) (by kernel_rfl) (by kernel_rfl) (by kernel_rfl) (by kernel_rfl) (by kernel_rfl) (by kernel_rfl) (by kernel_rfl) (by kernel_rfl) (by kernel_rfl) (by kernel_rfl) rfl rfl rfl
          (.slice ua ds.length ucap) (.int .i64 (k : Int)) (.slice (some ⟨b, o, none⟩) ls.length lc) (.int .i64 (i : Int)) (.pointer (some ⟨b, o + i * 32, none⟩)) (.agg (d0.map Go.Proofs.YtecadmldnjlibaaDoor.u8).toArray) (.slice (some ⟨b, o, none⟩) ls.length lc) (.int .i64 (i : Int)) (.int .i64 ((i : Int) + 1)) (.pointer (some ⟨b, o + (i + 1) * 32, none⟩)) (.agg (d1.map Go.Proofs.YtecadmldnjlibaaDoor.u8).toArray) _ _ _ _ _ _ _ _ _ _ _
          (fun w' => Kept (Value.slice ua ds.length ucap).ownBlock.toList wr w')
          (fun w' => Kept [] wr w')
          (fun u11 w' => u11 = .agg (X.map Go.Proofs.YtecadmldnjlibaaDoor.u8).toArray ∧ Kept [] wr w')
          (fun u11 u12 w' => u11 = .agg (X.map Go.Proofs.YtecadmldnjlibaaDoor.u8).toArray ∧ (∃ H, u12 = .slice (some ⟨H, 0, none⟩) 1 1 ∧ w'.heap[H]? = some (.cells (brow X) 41 (0, 0))) ∧ Kept [] wr w')
          (fun u11 u12 u13 w' => (∃ aa cc, u13 = .slice aa (ds.length + 1) cc) ∧ OwD w w' u13 (ds ++ [X]) ∧ Kept (Value.slice ua ds.length ucap).ownBlock.toList wr w')
          (fun u13 => u13)
          (by simp only [Act.put, List.setIfInBounds_toArray, List.set_cons_zero, List.set_cons_succ]; rfl) (by exact Or.inl ⟨by rfl, fun W' hW' => by go_simp⟩)
          (by simp only [Act.put, List.setIfInBounds_toArray, List.set_cons_zero, List.set_cons_succ]; rfl) (by exact Or.inl ⟨by rfl, fun W' hW' => by go_simp⟩)
          (by simp only [Act.put, List.setIfInBounds_toArray, List.set_cons_zero, List.set_cons_succ]; rfl) (by exact Or.inl ⟨by rfl, fun W' hW' => by go_simp⟩)
          (by simp only [Act.put, List.setIfInBounds_toArray, List.set_cons_zero, List.set_cons_succ]; rfl) (by exact Or.inl ⟨by rfl, fun W' hW' => by go_simp⟩)
          (by simp only [Act.put, List.setIfInBounds_toArray, List.set_cons_zero, List.set_cons_succ]; rfl) (by exact Or.inl ⟨by rfl, fun W' hW' => by go_simp⟩)
          (by simp only [Act.put, List.setIfInBounds_toArray, List.set_cons_zero, List.set_cons_succ]; rfl) (by exact Or.inl ⟨by rfl, fun W' hW' => run_mid 41 (.tmp 22) rfl b (o + i * 32) rfl (d0.map Go.Proofs.YtecadmldnjlibaaDoor.u8) _ W' (range_kept (unhide HR0) hW' hnb) Tryd.underlying41 rfl (by rw [List.length_map, h0l]; exact Tryd.size_dig)⟩)
          (by simp only [Act.put, List.setIfInBounds_toArray, List.set_cons_zero, List.set_cons_succ]; rfl) (by exact Or.inl ⟨by rfl, fun W' hW' => by go_simp⟩)
          (by simp only [Act.put, List.setIfInBounds_toArray, List.set_cons_zero, List.set_cons_succ]; rfl) (by exact Or.inl ⟨by rfl, fun W' hW' => by go_simp⟩)
          (by simp only [Act.put, List.setIfInBounds_toArray, List.set_cons_zero, List.set_cons_succ]; rfl) (by exact Or.inl ⟨by rfl, fun W' hW' => by go_simp⟩)
          (by simp only [Act.put, List.setIfInBounds_toArray, List.set_cons_zero, List.set_cons_succ]; rfl) (by exact Or.inl ⟨by rfl, fun W' hW' => by go_simp⟩)
          (by simp only [Act.put, List.setIfInBounds_toArray, List.set_cons_zero, List.set_cons_succ]; rfl) (by exact Or.inl ⟨by rfl, fun W' hW' => run_mid 41 (.tmp 27) rfl b (o + (i + 1) * 32) rfl (d1.map Go.Proofs.YtecadmldnjlibaaDoor.u8) _ W' (range_kept (unhide HR1) hW' hnb) Tryd.underlying41 rfl (by rw [List.length_map, h1l]; exact Tryd.size_dig)⟩)
          (Kept.refl [] wr).drew
          ⟨fun w' h => h.mono (by simp), fun u w' h => h.2.mono (by simp), fun u y w' h => h.2.2.mono (by simp), fun u y x w' h => h.2.2⟩
          (by intro w' i9 K hK; exact wp_callN rfl Tryd.call30 [.int .i64 (k : Int), .agg (brow d0), .agg (brow d1)] rfl (unhide HND w') (fun e w2 h => ⟨_, h.1, hK _ _ ⟨rfl, i9.trans h.2 (by simp)⟩⟩))
          (by
            intro u11 w' hh K hK
            simp only [Act.put, List.setIfInBounds_toArray, List.set_cons_zero, List.set_cons_succ] at hK ⊢
            obtain ⟨rfl, i9⟩ := hh
            have hfs : ∀ A : Array Value, (List.foldl (fun cs x => cs.setIfInBounds x.snd x.fst) A (List.map Go.Proofs.YtecadmldnjlibaaDoor.u8 X).zipIdx).size = A.size := fun A => fold_size _ A 0
            unfold Oper.wp execOp
            go_simp
            rw [zb32, one_digP X hxl]
            exact hK _ _ ⟨rfl, ⟨_, rfl, heap_alloc_new _ _⟩, i9.alloc _⟩)
          (by
            intro u11 u12 w' hh K hK
            simp only [Act.put, List.setIfInBounds_toArray, List.set_cons_zero, List.set_cons_succ] at hK ⊢
            obtain ⟨rfl, ⟨H, rfl, hH⟩, i9⟩ := hh
            have hO := (unhide HO).pass i9
            obtain ⟨ao1, cap1, w1, hrun, h2, h3⟩ := appendD w' w.heap.size (.slice ua ds.length ucap) ds [X] (some ⟨H, 0, none⟩) 1 1 hO.own (RdD.oneP hH (unhide HDX)) (by have := unhide HLN; simp; omega) hO.kept.size
            exact wp_appendP rfl rfl rfl rfl hrun (hK _ _ ⟨⟨_, _, rfl⟩, hO.push (unhide HDX) h2 h3, (i9.mono (by simp)).grown h3 (by intro k hk; left; simp [hk])⟩))
          (by rintro u11 u12 u13 w' ⟨⟨aa, cc, rfl⟩, _⟩; exact Or.inl ⟨by rfl, fun W' hW' => by go_simp⟩)
          ?_
        rintro u11 u12 u13 X4 ⟨⟨aa, cc, rfl⟩, hO4, k4⟩
        simp only [Act.put, List.setIfInBounds_toArray, List.set_cons_zero, List.set_cons_succ]
        have HO4 := hide hO4
        clear hO4 k4
        go_wp2_with (first | simp only [hi2])
        refine ⟨⟨j + 1, by have := unhide HIJ; omega, by have := unhide HIJ; simp; omega, by rw [unhide HSN]; exact HO4⟩, ?_⟩
        simp [intOf]
        omega
      · have hbr' : ¬ (i : Int) + 1 < (ls.length : Int) := by omega
        rw [if_neg hbr, if_pos hlt] at HAT
        generalize ls.getD i [] = X at r0 hdg0 HAT
        have HSN := hide (by rw [List.take_add_one, unhide HAT]; rfl : (upL (k : Int) ls).take (j + 1) = (upL (k : Int) ls).take j ++ [X])
        generalize (upL (k : Int) ls).take j = ds at HO HSN HLN
        obtain ⟨ua, ucap, rfl⟩ := owns_form (unhide HO).own
        have HDX := hide hdg0
        have hxl := hdg0.1
        have HR0 := hide r0
        have HOC := hide ((unhide HO).pass ((Kept.refl [] wr).alloc (.cells (brow X) 41)))
        have HNC := hide (heap_alloc_new wr (.cells (brow X) 41))
        clear hc r0 HAT hdg0
        go_wp2_with (first
          | simp only [hi2]
          | (refine wpList_load_mid rfl 41 _ rfl b (o + i * 32) rfl (X.map Go.Proofs.YtecadmldnjlibaaDoor.u8) _ (unhide HR0) Tryd.underlying41 rfl (by rw [List.length_map, hxl]; exact Tryd.size_dig) ?_)
          | (at_builtin; rw [zb32, one_digP X hxl]; refine wpList_appendD rfl _ _ rfl rfl (wr.alloc (.cells (brow X) 41)) w.heap.size (.slice ua ds.length ucap) ds [X] (some ⟨wr.heap.size, 0, none⟩) 1 1 (unhide HOC).own (RdD.oneP (unhide HNC) (unhide HDX)) (by have := unhide HLN; simp; omega) (unhide HOC).kept.size rfl rfl ?_; intro ao3 cap3 w3 HO3 HG3; have HO4 := hide ((unhide HOC).push (unhide HDX) (unhide HO3) (unhide HG3)); clear HO3 HG3))
        refine ⟨⟨j + 1, by have := unhide HIJ; omega, by have := unhide HIJ; simp; omega, by rw [unhide HSN]; exact HO4⟩, ?_⟩
        simp [intOf]
        omega
    · have hlt' : ¬ ((2 * j : Nat) : Int) < (ls.length : Int) := by omega
      have HE := hide (by rw [List.take_of_length_le (by rw [unhide HUL]; omega)] : (upL (k : Int) ls).take j = upL (k : Int) ls)
      rw [unhide HE] at HO
      go_wp2_with fail
      go_ret
      exact ⟨_, rfl, unhide HO⟩
end Go.Proofs.YtecadmldnjlibaaDoor
namespace Go.Proofs.YtecadmldnjlibaaDoor
open Go.RowKit Go.BigFrame
set_option linter.unusedVariables false
set_option linter.unusedSimpArgs false

def mkD : List Nat := 1 :: 2 :: 3 :: List.replicate 29 0
theorem mkD_dg : Dg mkD := ⟨rfl, by decide⟩
theorem mkD_built : Tryd.prog.built 41 [(0, .int .u8 1), (1, .int .u8 2), (2, .int .u8 3)] = some (brow mkD) := by kernel_rfl

theorem mk_fill : Instr.fill (fun i => some (i * 32, 32)) ((Array.range (2 * 32)).map ((Value.agg (zb 32)).cells[· % (Value.agg (zb 32)).cells.size]!)) [(0, .agg (brow mkD)), (1, .agg (brow mkD))] = some (mkD.map u8 ++ mkD.map u8).toArray := by kernel_rfl
theorem wp_mkLit {o : Oper} {a : Act} {w : World} {K : Act → World → Prop} {Q : Exit → Act → World → Prop} (x y : Operand) (ho : o.op = .buildSlice 32 2 #[(0, x), (1, y)]) (hx : a.eval x = .agg (brow mkD)) (hy : a.eval y = .agg (brow mkD))
    (h : K (a.put o.dst (.slice (some ⟨w.heap.size, 0, none⟩) 2 2)) (w.alloc (.cells (mkD.map u8 ++ mkD.map u8).toArray 41))) : o.wp Tryd.prog a w K Q := by
  obtain ⟨i0, hi, hz0, hz1, hz2⟩ := info_parts Tryd.infoD
  refine wp_buildSlice 32 41 2 #[(0, x), (1, y)] ho _ i0 (.agg (zb 32)) Tryd.underlying32 hi hz0 (by rw [hz1]; decide) (by rw [hz1]; decide) ?_ h
  rw [hz1]
  simp only [List.map_toArray, List.map_cons, List.map_nil, hx, hy]
  exact mk_fill

/-- A row of digests of one's own behind the world W. -/
def MkR (W : World) (v : Value) (ds : List (List Nat)) (w' : World) : Prop := (∃ a c, v = .slice a ds.length c) ∧ w'.ownsRow W.heap.size 41 32 v ds.length (flatD ds)
/-- The literal's row. -/
def MkT (W : World) (v : Value) (w' : World) : Prop := ∃ g, v = .slice (some ⟨g, 0, none⟩) 2 2 ∧ W.heap.size ≤ g ∧ w'.heap[g]? = some (.cells (mkD.map u8 ++ mkD.map u8).toArray 41 (0, 0))
def MkB (W : World) (v t : Value) (ds : List (List Nat)) (w' : World) : Prop := MkR W v ds w' ∧ MkT W t w' ∧ (∀ k, v.ownBlock = some k → t.ownBlock ≠ some k)
theorem MkR.grow {W w' : World} {v : Value} {ds ps : List (List Nat)} {ao : Option Addr} {n c : Nat} (h : MkR W v ds w') (k : Kept [] W w') (hr : RdD w' (.slice ao n c) ps) (hl : ds.length + ps.length ≤ 1000000) :
    ∃ v1 w1, (Builtin.append_ #[32, 32] 32 #[v, .slice ao n c]).run Tryd.prog w' = .ok v1 w1 ∧ MkR W v1 (ds ++ ps) w1 ∧ Kept [] W w1 ∧ (∀ t, MkB W v t ds w' → MkB W v1 t (ds ++ ps) w1) := by
  obtain ⟨ao1, cap1, w1, hrun, h1, h2, h3⟩ := appendDL w' W.heap.size v ds ps ao n c h.2 hr (by omega) k.size
  have hr1 : MkR W (.slice ao1 (ds.length + ps.length) cap1) (ds ++ ps) w1 := ⟨⟨ao1, cap1, by rw [List.length_append]⟩, h1⟩
  refine ⟨_, w1, hrun, hr1, k.grown h2 (fun k9 hk => Or.inr (h.2.lt k9 hk).1), fun t ht => ⟨hr1, ?_, ?_⟩⟩
  · obtain ⟨_, ⟨g, rfl, hg, hgg⟩, hne⟩ := ht
    exact ⟨g, rfl, hg, ((Kept.refl v.ownBlock.toList w').grown h2 (fun k9 hk => Or.inl (by rw [hk]; simp))).heap hgg (by intro h9; cases hv : v.ownBlock with | none => rw [hv] at h9; simp at h9 | some x => rw [hv] at h9; simp at h9; subst h9; exact hne _ hv rfl)⟩
  · intro k9 hk9 e
    obtain ⟨_, ⟨g, rfl, hg, hgg⟩, hne⟩ := ht
    simp only [Value.ownBlock, Option.some.injEq] at e
    subst e
    rcases h3 g hk9 with h4 | h4
    · exact hne g h4 rfl
    · have := lt_of_block hgg; omega
theorem MkR.pass {W w' w2 : World} {v : Value} {ds : List (List Nat)} (h : MkR W v ds w') (k : Kept [] w' w2) : MkR W v ds w2 := ⟨h.1, k.owns h.2 (by simp)⟩
theorem MkR.nil {W w' : World} (k : Kept [] W w') : MkR W (.slice (some ⟨w'.heap.size, 0, none⟩) 0 0) [] (w'.alloc (.cells #[] 41)) := ⟨⟨_, _, rfl⟩, World.ownsRow_made (base := W.heap.size) (e := 41) (size := 32) w' #[] 0 k.size (by unfold maxLen; omega) (by simp)⟩
theorem MkB.lit {W w' : World} {v : Value} {ds : List (List Nat)} (h : MkR W v ds w') (k : Kept [] W w') : MkB W v (.slice (some ⟨w'.heap.size, 0, none⟩) 2 2) ds (w'.alloc (.cells (mkD.map u8 ++ mkD.map u8).toArray 41)) :=
  ⟨h.pass ((Kept.refl [] w').alloc _), ⟨_, rfl, k.size, heap_alloc_new _ _⟩, fun k9 hk e => by
    have := (h.2.lt k9 hk).2
    simp only [Value.ownBlock, Option.some.injEq] at e
    omega⟩
theorem MkB.emp {W w' : World} {t : Value} (h : MkT W t w') (k : Kept [] W w') : MkB W (.slice (some ⟨w'.heap.size, 0, none⟩) 0 0) t [] (w'.alloc (.cells #[] 41)) := by
  obtain ⟨g, rfl, hg, hgg⟩ := h
  refine ⟨MkR.nil k, ⟨g, rfl, hg, ((Kept.refl [] w').alloc _).heap hgg (by simp)⟩, fun k9 hk e => ?_⟩
  have := lt_of_block hgg
  simp only [Value.ownBlock, Option.some.injEq] at e hk
  omega
theorem MkT.rd {W w' : World} {v : Value} (h : MkT W v w') : ∃ g, v = .slice (some ⟨g, 0, none⟩) 2 2 ∧ RdD w' (.slice (some ⟨g, 0, none⟩) 2 2) [mkD, mkD] := by
  obtain ⟨g, rfl, _, hg⟩ := h
  exact ⟨g, rfl, RdD.two hg mkD_dg.1 mkD_dg.1 mkD_dg.2 mkD_dg.2⟩

theorem RdD.far {L : List Nat} {w w' : World} {ao : Option Addr} {n c : Nat} {ds : List (List Nat)} (h : RdD w (.slice ao n c) ds) (k : Kept L w w') (hb : ∀ b o s, ao = some ⟨b, o, s⟩ → b ∉ L) : RdD w' (.slice ao n c) ds := by
  obtain ⟨_, _, _, e, h1, h2, h3, h4, h5⟩ := h
  cases e
  refine ⟨_, _, _, rfl, h1, h2, h3, h4, fun hp => ?_⟩
  obtain ⟨b, off, e, hc⟩ := h5 hp
  exact ⟨b, off, e, fun i hi u v hv => k.cell (hc i hi u v hv) (hb _ _ _ e)⟩
theorem RdD.none (w : World) : RdD w (.slice none 0 0) [] := ⟨_, _, _, rfl, rfl, Nat.le_refl _, by omega, by simp, fun h => by simp at h⟩

/-- The digest that is written at place i. -/
def bD (i : Nat) : List Nat := (i % 256) :: List.replicate 31 0
theorem bD_dg (i : Nat) : Dg (bD i) := ⟨by simp [bD], by
  intro x hx
  simp only [bD, List.mem_cons, List.mem_replicate] at hx
  rcases hx with rfl | ⟨_, rfl⟩ <;> omega⟩
theorem bD_form {k : Nat} (h1 : 1 ≤ k) (h2 : k ≤ 32) (i : Nat) : formB (k : Int) (bD i) = true := by
  have hw : widthB (k : Int) = true := by simp [widthB]; omega
  obtain ⟨j, rfl⟩ : ∃ j, k = j + 1 := ⟨k - 1, by omega⟩
  unfold formB
  rw [hw, Int.toNat_natCast]
  simp only [cutL, bD, List.take_succ_cons, List.take_replicate, Bool.true_and, decide_eq_true_eq, List.cons_append, List.replicate_append_replicate]
  congr 2
  omega
theorem bD_built (x : Int) : Tryd.prog.built 41 [(0, .int .u8 x)] = some (.int .u8 x :: List.replicate 31 (.int .u8 0)).toArray := by kernel_rfl
theorem bD_brow (i : Nat) : brow (bD i) = (.int .u8 ((i % 256 : Nat) : Int) :: List.replicate 31 (.int .u8 0)).toArray := by
  simp [brow, bD, u8]
/-- The list, written over up to place i. -/
def owL (F : List (List Nat)) (i : Nat) : List (List Nat) := (List.range i).map bD ++ F.drop i
theorem owL_len {F : List (List Nat)} {i : Nat} (h : i ≤ F.length) : (owL F i).length = F.length := by simp [owL]; omega
theorem owL_dg {F : List (List Nat)} (h : ∀ d ∈ F, Dg d) (i : Nat) : ∀ d ∈ owL F i, Dg d := by
  intro d hd
  rcases List.mem_append.1 hd with hd | hd
  · obtain ⟨j, _, rfl⟩ := List.mem_map.1 hd; exact bD_dg j
  · exact h d (List.mem_of_mem_drop hd)
theorem owL_set {F : List (List Nat)} {i : Nat} (h : i < F.length) : (owL F i).set i (bD i) = owL F (i + 1) := by
  unfold owL
  rw [List.set_append_right _ _ (by simp), List.length_map, List.length_range, Nat.sub_self, List.drop_eq_getElem_cons h, List.set_cons_zero, List.range_succ, List.map_append, List.append_assoc]
  rfl

set_option maxRecDepth 100000 in
set_option maxHeartbeats 4000000 in
theorem mtreeKeeps_go (z : Int) (lv mv : Value) (ls ms : List (List Nat)) (w : World) (hz : -9223372036854775808 ≤ z ∧ z ≤ 9223372036854775807) (hl : RdD w lv ls) (hm : RdD w mv ms) (hlx : ls.length ≤ 1048576) (hmx : ms.length ≤ 1048576) (hT : Tabs w) (h6 : Tab6 w) :
    Calls Tryd.prog 4 #[.int .i64 z, lv, mv] w fun e w' => e = .returned (.bool true) ∧ Kept [] w w' := by
  have HTB := hide hT
  have H6 := hide h6
  have HL := hide hl
  have HM := hide hm
  obtain ⟨la, ln, lc, rfl, h1, h2, h3, h4, h5⟩ := hl
  obtain ⟨ma, mn, mc, rfl, m1, m2, m3, m4, m5⟩ := hm
  have hlx2 : ln ≤ 1048576 := by omega
  have hmx2 : mn ≤ 1048576 := by omega
  have HLN := hide h1
  have HMN := hide m1
  clear hT h6 h4 h5 m4 m5 h1 m1 hlx hmx
  go_enter Tryd.func4, Tryd.ntmps4
  go_wp2_with fail
  refine (mtawake_any w (unhide HTB) (unhide H6)).mono ?_
  rintro e w1 ⟨rfl, k1⟩
  have HK1 := hide k1
  clear k1
  go_wp2_with fail
  refine (fit_any z (.slice la ln lc) ls w1 hz ((unhide HL).old (unhide HK1))).mono ?_
  rintro e w2 ⟨rfl, k2⟩
  have HK2 := hide ((unhide HK1).trans k2 (by simp))
  clear k2 HK1
  cases hf1 : fitB z ls with
  | false =>
    clear hf1
    go_wp2_with fail
    all_goals go_ret
    all_goals exact ⟨rfl, unhide HK2⟩
  | true =>
    have HF1 := hide hf1
    clear hf1
    go_wp2_with fail
    refine (fit_any z (.slice ma mn mc) ms w2 hz ((unhide HM).old (unhide HK2))).mono ?_
    rintro e w3 ⟨rfl, k3⟩
    have HK3 := hide ((unhide HK2).trans k3 (by simp))
    clear k3 HK2
    cases hf2 : fitB z ms with
    | false =>
      clear hf2
      go_wp2_with fail
      all_goals go_ret
      all_goals exact ⟨rfl, unhide HK3⟩
    | true =>
      have HF2 := hide hf2
      clear hf2
      have hsum : IntKind.i64.wrap ((ln : Int) + (mn : Int)) = (ln : Int) + (mn : Int) := by simp [IntKind.wrap, IntKind.signed, IntKind.bits]; omega
      by_cases h400 : 400 < ln + mn
      · have h400' : (400 : Int) < (ln : Int) + (mn : Int) := by omega
        go_wp2_with (simp only [hsum])
        all_goals go_ret
        all_goals exact ⟨rfl, unhide HK3⟩
      · have h400' : ¬ (400 : Int) < (ln : Int) + (mn : Int) := by omega
        have HN4 := hide (cell_new w3 mkD)
        have HK4 := hide ((unhide HK3).trans (kept_old w3 mkD) (by simp))
        obtain ⟨w4, hw4⟩ : ∃ w4, (w3.alloc (.cells (zb 32) 41)).setRow w3.heap.size (brow mkD) = w4 := ⟨_, rfl⟩
        rw [hw4] at HN4 HK4
        have HW4 := hide hw4
        clear hw4
        go_wp2_with (first
          | (simp only [hsum])
          | (refine wpList_build_as rfl 41 _ rfl (brow mkD) (by exact mkD_built) ?_)
          | (rw [zb32]; refine wpList_store_row rfl 41 (.tmp 7) _ rfl w3.heap.size (brow mkD) rfl rfl _ (zb 32) (heap_alloc_new _ _) (Tryd.szD mkD_dg.1) rfl (brow_one _) ?_; rw [unhide HW4]))
        refine wp_mk10 (by kernel_rfl) (by kernel_rfl) (by kernel_rfl) (by kernel_rfl) (by kernel_rfl) (by kernel_rfl) (by kernel_rfl) (by kernel_rfl) (by kernel_rfl) (by kernel_rfl) (by kernel_rfl) (by kernel_rfl) (by kernel_rfl) (by kernel_rfl) (by kernel_rfl) (by kernel_rfl) (by kernel_rfl) (by kernel_rfl) (by kernel_rfl) (by kernel_rfl) (by kernel_rfl) rfl rfl rfl rfl rfl (by simp) (by simp) (by simp)
          (.slice la ln lc) (.slice ma mn mc) (.agg (mkD.map Go.Proofs.YtecadmldnjlibaaDoor.u8).toArray) (.agg (mkD.map Go.Proofs.YtecadmldnjlibaaDoor.u8).toArray) _ _ _ _
          (fun w' => Kept [] w4 w')
          (fun w' => Kept [] w4 w')
          (fun u0 w' => MkR w4 u0 [] w' ∧ Kept [] w4 w')
          (fun u7 w' => MkT w4 u7 w' ∧ Kept [] w4 w')
          (fun u0 u2 w' => MkR w4 u2 ls w' ∧ Kept [] w4 w')
          (fun u0 u7 w' => MkB w4 u0 u7 [] w' ∧ Kept [] w4 w')
          (fun u0 u2 u4 w' => MkR w4 u4 (ls ++ ms) w' ∧ Kept [] w4 w')
          (fun u0 u2 u7 w' => MkB w4 u2 u7 ls w' ∧ Kept [] w4 w')
          (fun u0 u2 u4 u7 w' => MkB w4 u4 u7 (ls ++ ms) w' ∧ Kept [] w4 w')
          (fun u0 u2 u4 u7 u8 w' => MkR w4 u8 (ls ++ ms ++ [mkD, mkD]) w' ∧ Kept [] w4 w')
          (fun _ _ _ _ u8 => u8)
          (by simp only [Act.put, List.setIfInBounds_toArray, List.set_cons_zero, List.set_cons_succ]; rfl) (by exact Or.inl ⟨by rfl, fun W' hW' => by go_simp⟩)
          (by simp only [Act.put, List.setIfInBounds_toArray, List.set_cons_zero, List.set_cons_succ]; rfl) (by exact Or.inl ⟨by rfl, fun W' hW' => by go_simp⟩)
          (by simp only [Act.put, List.setIfInBounds_toArray, List.set_cons_zero, List.set_cons_succ]; rfl) (by exact Or.inl ⟨by rfl, fun W' hW' => run_mid 41 (.tmp 7) rfl w3.heap.size 0 rfl (mkD.map Go.Proofs.YtecadmldnjlibaaDoor.u8) _ W' (range_row (hW'.heap (unhide HN4) (by simp))) Tryd.underlying41 rfl (by exact Tryd.size_dig)⟩)
          (by simp only [Act.put, List.setIfInBounds_toArray, List.set_cons_zero, List.set_cons_succ]; rfl) (by exact Or.inl ⟨by rfl, fun W' hW' => run_mid 41 (.tmp 7) rfl w3.heap.size 0 rfl (mkD.map Go.Proofs.YtecadmldnjlibaaDoor.u8) _ W' (range_row (hW'.heap (unhide HN4) (by simp))) Tryd.underlying41 rfl (by exact Tryd.size_dig)⟩)
          (Kept.refl [] w4).drew
          ⟨fun w' h => h, fun _ w' h => h.2, fun _ w' h => h.2, fun _ _ w' h => h.2, fun _ _ w' h => h.2, fun _ _ _ w' h => h.2, fun _ _ _ w' h => h.2, fun _ _ _ _ w' h => h.2, fun _ _ _ _ _ w' h => h.2⟩
          (by
            intro w' hh K hK
            simp only [Act.put, List.setIfInBounds_toArray, List.set_cons_zero, List.set_cons_succ] at hK ⊢
            unfold Oper.wp execOp
            go_simp
            exact hK _ _ ⟨MkR.nil hh, hh.alloc _⟩)
          (by
            intro w' hh K hK
            simp only [Act.put, List.setIfInBounds_toArray, List.set_cons_zero, List.set_cons_succ] at hK ⊢
            exact wp_mkLit (.tmp 47) (.tmp 48) rfl rfl rfl (hK _ _ ⟨⟨_, rfl, hh.size, heap_alloc_new _ _⟩, hh.alloc _⟩))
          (by
            intro u0 w' hh K hK
            simp only [Act.put, List.setIfInBounds_toArray, List.set_cons_zero, List.set_cons_succ] at hK ⊢
            obtain ⟨r0, i9⟩ := hh
            obtain ⟨v1, w9, hrun, r1, k9, b1⟩ := MkR.grow r0 i9 ((unhide HL).old ((unhide HK4).trans i9 (by simp))) (by simp only [List.length_append, List.length_cons, List.length_nil, unhide HLN, unhide HMN]; omega)
            exact wp_appendT rfl rfl rfl rfl hrun (hK _ _ ⟨by simpa using r1, k9⟩))
          (by
            intro u0 w' hh K hK
            simp only [Act.put, List.setIfInBounds_toArray, List.set_cons_zero, List.set_cons_succ] at hK ⊢
            obtain ⟨r0, i9⟩ := hh
            exact wp_mkLit (.tmp 47) (.tmp 48) rfl rfl rfl (hK _ _ ⟨MkB.lit r0 i9, i9.alloc _⟩))
          (by
            intro u7 w' hh K hK
            simp only [Act.put, List.setIfInBounds_toArray, List.set_cons_zero, List.set_cons_succ] at hK ⊢
            obtain ⟨t0, i9⟩ := hh
            unfold Oper.wp execOp
            go_simp
            exact hK _ _ ⟨MkB.emp t0 i9, i9.alloc _⟩)
          (by
            intro u0 u2 w' hh K hK
            simp only [Act.put, List.setIfInBounds_toArray, List.set_cons_zero, List.set_cons_succ] at hK ⊢
            obtain ⟨r0, i9⟩ := hh
            obtain ⟨v1, w9, hrun, r1, k9, b1⟩ := MkR.grow r0 i9 ((unhide HM).old ((unhide HK4).trans i9 (by simp))) (by simp only [List.length_append, List.length_cons, List.length_nil, unhide HLN, unhide HMN]; omega)
            exact wp_appendT rfl rfl rfl rfl hrun (hK _ _ ⟨by simpa using r1, k9⟩))
          (by
            intro u0 u2 w' hh K hK
            simp only [Act.put, List.setIfInBounds_toArray, List.set_cons_zero, List.set_cons_succ] at hK ⊢
            obtain ⟨r0, i9⟩ := hh
            exact wp_mkLit (.tmp 47) (.tmp 48) rfl rfl rfl (hK _ _ ⟨MkB.lit r0 i9, i9.alloc _⟩))
          (by
            intro u0 u7 w' hh K hK
            simp only [Act.put, List.setIfInBounds_toArray, List.set_cons_zero, List.set_cons_succ] at hK ⊢
            obtain ⟨b0, i9⟩ := hh
            obtain ⟨v1, w9, hrun, r1, k9, b1⟩ := MkR.grow b0.1 i9 ((unhide HL).old ((unhide HK4).trans i9 (by simp))) (by simp only [List.length_append, List.length_cons, List.length_nil, unhide HLN, unhide HMN]; omega)
            exact wp_appendT rfl rfl rfl rfl hrun (hK _ _ ⟨by simpa using b1 _ b0, k9⟩))
          (by
            intro u0 u2 u4 w' hh K hK
            simp only [Act.put, List.setIfInBounds_toArray, List.set_cons_zero, List.set_cons_succ] at hK ⊢
            obtain ⟨r0, i9⟩ := hh
            exact wp_mkLit (.tmp 47) (.tmp 48) rfl rfl rfl (hK _ _ ⟨MkB.lit r0 i9, i9.alloc _⟩))
          (by
            intro u0 u2 u7 w' hh K hK
            simp only [Act.put, List.setIfInBounds_toArray, List.set_cons_zero, List.set_cons_succ] at hK ⊢
            obtain ⟨b0, i9⟩ := hh
            obtain ⟨v1, w9, hrun, r1, k9, b1⟩ := MkR.grow b0.1 i9 ((unhide HM).old ((unhide HK4).trans i9 (by simp))) (by simp only [List.length_append, List.length_cons, List.length_nil, unhide HLN, unhide HMN]; omega)
            exact wp_appendT rfl rfl rfl rfl hrun (hK _ _ ⟨by simpa using b1 _ b0, k9⟩))
          (by
            intro u0 u2 u4 u7 w' hh K hK
            simp only [Act.put, List.setIfInBounds_toArray, List.set_cons_zero, List.set_cons_succ] at hK ⊢
            obtain ⟨b0, i9⟩ := hh
            obtain ⟨g9, hg9, hrd⟩ := b0.2.1.rd
            obtain ⟨v1, w9, hrun, r1, k9, b1⟩ := MkR.grow b0.1 i9 hrd (by simp only [List.length_append, List.length_cons, List.length_nil, unhide HLN, unhide HMN]; omega)
            exact wp_appendT rfl rfl rfl (by exact hg9) hrun (hK _ _ ⟨r1, k9⟩))
          (by rintro u0 u2 u4 u7 u8 w' _; exact Or.inl ⟨by rfl, fun W' hW' => by go_simp⟩)
          ?_
        rintro u0 u2 u4 u7 u8 w5 ⟨hr5, k5⟩
        simp only [Act.put, List.setIfInBounds_toArray, List.set_cons_zero, List.set_cons_succ]
        have hF : (ls ++ ms ++ [mkD, mkD]).length = ln + mn + 2 := by simp only [List.length_append, List.length_cons, List.length_nil, unhide HLN, unhide HMN]
        have hFD : ∀ d ∈ ls ++ ms ++ [mkD, mkD], Dg d := by
          intro d hd
          rcases List.mem_append.1 hd with hd | hd
          · rcases List.mem_append.1 hd with hd | hd
            · exact (unhide HL).dg hd
            · exact (unhide HM).dg hd
          · simp only [List.mem_cons, List.not_mem_nil, or_false, or_self] at hd
            subst hd; exact mkD_dg
        have HPC1 := hide (by rw [List.append_assoc, List.drop_zero, Nat.sub_zero, ← unhide HLN, List.take_left] : ((ls ++ ms ++ [mkD, mkD]).drop 0).take (ln - 0) = ls)
        have HPC2 := hide (by rw [List.append_assoc, ← unhide HLN, List.drop_left, ← unhide HMN, Nat.add_sub_cancel_left, List.take_left] : ((ls ++ ms ++ [mkD, mkD]).drop ln).take (ln + mn - ln) = ms)
        have HGET := hide (fun i (hi : i < ln + mn) => (by rw [List.getD_eq_getElem?_getD, List.getD_eq_getElem?_getD, List.getElem?_append_left (by rw [List.length_append, unhide HLN, unhide HMN]; exact hi)] : (ls ++ ms ++ [mkD, mkD]).getD i [] = (ls ++ ms).getD i []))
        have HGM := hide (fun j (hj : j < 2) => (by rw [List.getD_eq_getElem?_getD, List.getElem?_append_right (by rw [List.length_append, unhide HLN, unhide HMN]; omega), List.length_append, unhide HLN, unhide HMN, Nat.add_sub_cancel_left]; rcases (by omega : j = 0 ∨ j = 1) with rfl | rfl <;> rfl : (ls ++ ms ++ [mkD, mkD]).getD (ln + mn + j) [] = mkD))
        obtain ⟨F, hFe⟩ : ∃ F, ls ++ ms ++ [mkD, mkD] = F := ⟨_, rfl⟩
        rw [hFe] at hF hFD hr5 HPC1 HPC2 HGET HGM
        clear hFe
        have HFD := hide hFD
        obtain ⟨N, hNe⟩ : ∃ N, ln + mn + 2 = N := ⟨_, rfl⟩
        rw [hNe] at hF
        have HFN := hide hF
        obtain ⟨g, cap, rfl, hg4, cs5, hgc5⟩ : ∃ g cap, u8 = .slice (some ⟨g, 0, none⟩) N cap ∧ w4.heap.size ≤ g ∧ ∃ cs, w5.heap[g]? = some (.cells cs 41 (0, 0)) := by
          rcases hr5.2.2 with ⟨_, h9⟩ | ⟨g, cap, cur, e, hb, hg, _⟩
          · omega
          · rw [hF] at e; exact ⟨g, cap, e, hb, _, hg⟩
        have HOW := hide hr5.2
        rw [hF] at HOW
        have HRD := hide (rdd_owns hr5.2 hFD)
        have HK5 := hide ((unhide HK4).trans k5 (by simp))
        have HK45 := hide k5
        have HMK5 := hide (k5.heap (unhide HN4) (by simp))
        have hcap : N ≤ cap ∧ cap ≤ 9223372036854775807 := by
          obtain ⟨_, _, _, e9, h91, h92, h93, _⟩ := unhide HRD; cases e9; omega
        have hmk : w3.heap.size < g := by have := lt_of_block (unhide HN4); omega
        have HGC5 := hide hgc5
        clear hr5 k5 hF hFD hgc5 HN4
        obtain ⟨kk, rfl⟩ : ∃ kk : Nat, z = kk := by
          have h9 := unhide HF1
          unfold fitB at h9
          rw [Bool.and_eq_true] at h9
          have h8 : 1 ≤ z ∧ z ≤ 32 := by simpa [widthB] using h9.1
          exact ⟨z.toNat, by omega⟩
        have hkk : 1 ≤ kk ∧ kk ≤ 32 := by
          have h9 := unhide HF1
          unfold fitB at h9
          rw [Bool.and_eq_true] at h9
          have h8 : (1 : Int) ≤ kk ∧ (kk : Int) ≤ 32 := by simpa [widthB] using h9.1
          omega
        have HWB := hide (by simp [widthB]; omega : widthB (kk : Int) = true)
        have HFL := hide (by have h9 := unhide HF1; unfold fitB at h9; rw [Bool.and_eq_true] at h9; exact h9.2 : ls.all (formB (kk : Int)) = true)
        have HFM := hide (by have h9 := unhide HF2; unfold fitB at h9; rw [Bool.and_eq_true] at h9; exact h9.2 : ms.all (formB (kk : Int)) = true)
        have hw1 : ¬ (cap : Int) < (ln : Int) := by omega
        have hw2 : ¬ (ln : Int) < 0 := by omega
        go_wp2_with fail
        refine (newT_any (kk : Int) w5 (unhide HWB)).mono ?_
        rintro e w6 ⟨t, rfl, ht6, htr, k6⟩
        have HT6 := hide (⟨htr, fun _ => rfl, 0, World.ownsRow_nil _ _ _ _⟩ : TrO (kk : Int) w6 t (.slice none 0 0) [])
        have HK6 := hide ((unhide HK5).trans k6 (by simp))
        have HRD6 := hide ((unhide HRD).old k6)
        have HX6 := hide k6
        clear htr k6
        have hcap2 : ln - 0 ≤ cap ∧ cap ≤ 9223372036854775807 := by omega
        have HR1 := hide (fun W (k9 : Kept [] w6 W) => (by have h9 := (unhide HRD6).piece (lo := 0) (hi := ln) (c' := cap) (by omega) (by omega) hcap2 (some ⟨g, 0, none⟩) (by intro _ b off e; cases e; rfl); rw [unhide HPC1, Nat.sub_zero] at h9; exact h9.old k9 : RdD W (.slice (some ⟨g, 0, none⟩) ln cap) ls))
        go_wp2_with fail
        refine (appendT_own (kk : Int) t (.slice none 0 0) (.slice (some ⟨g, 0, none⟩) ln cap) [] ls w6 (unhide HT6).tree (fun _ => rfl) (unhide HR1 w6 (Kept.refl _ _)) (by simp [leavesK]; rw [unhide HLN]; omega) ((unhide HTB).kept (unhide HK6) (by simp) (by simp)) ((unhide H6).kept (unhide HK6))).mono ?_
        rintro e w7 ⟨ha, _, k7⟩
        obtain ⟨t2, v2, qs, rfl, ht7, htr2, hlv2, hnl2, hpo2⟩ := ha (unhide HFL)
        have HT7 := hide (⟨htr2, hnl2, _, hpo2⟩ : TrO (kk : Int) w7 t2 v2 qs)
        have HLV2 := hide (by rw [hlv2]; rfl : leavesK qs = ls)
        have HT6b := hide ((unhide HT6).old k7)
        have HK7 := hide ((unhide HK6).trans k7 (by simp))
        have HRD7 := hide ((unhide HRD6).old k7)
        have HX7 := hide ((unhide HX6).trans k7 (by simp))
        clear ha k7 htr2 hlv2 hnl2 hpo2 HT6 HRD6
        have hs1 : ¬ ((ln : Int) + (mn : Int)) < (ln : Int) := by omega
        have hs2 : ¬ (cap : Int) < (ln : Int) + (mn : Int) := by omega
        have hs3 : ¬ cap = ln := by omega
        have hs4 : ¬ (cap : Int) = (ln : Int) := by omega
        have hs5 : ((ln : Int) + (mn : Int) - (ln : Int)) = (mn : Int) := by omega
        have hs6 : ¬ ln = cap := by omega
        have HR2 := hide (by have h9 := (unhide HRD7).piece (lo := ln) (hi := ln + mn) (c' := cap - ln) (by omega) (by omega) (by omega) (some ⟨g, ln * 32, none⟩) (by intro _ b off e; cases e; simp); rw [unhide HPC2, Nat.add_sub_cancel_left] at h9; exact h9 : RdD w7 (.slice (some ⟨g, ln * 32, none⟩) mn (cap - ln)) ms)
        go_wp2_with (simp only [hsum])
        refine (appendT_own (kk : Int) t2 v2 (.slice (some ⟨g, ln * 32, none⟩) mn (cap - ln)) qs ms w7 (unhide HT7).tree (unhide HT7).nil (unhide HR2) (by rw [unhide HLV2, unhide HLN, unhide HMN]; omega) ((unhide HTB).kept (unhide HK7) (by simp) (by simp)) ((unhide H6).kept (unhide HK7))).mono ?_
        rintro e w8 ⟨ha, _, k8⟩
        obtain ⟨t3, v3, rs, rfl, ht8, htr3, hlv3, hnl3, hpo3⟩ := ha (unhide HFM)
        have HT8 := hide (⟨htr3, hnl3, _, hpo3⟩ : TrO (kk : Int) w8 t3 v3 rs)
        have HLV3 := hide (by rw [hlv3, unhide HLV2] : leavesK rs = ls ++ ms)
        have HT7b := hide ((unhide HT7).old k8)
        have HT6c := hide ((unhide HT6b).old k8)
        have HK8 := hide ((unhide HK7).trans k8 (by simp))
        have HX8 := hide ((unhide HX7).trans k8 (by simp))
        clear ha k8 htr3 hlv3 hnl3 hpo3 HT7 HT6b HRD7 HR2 hs1 hs2 hs3 hs4 hs5 hs6 HR1
        have HOE := hide (World.ownsRow_made (base := w8.heap.size) (e := 41) (size := 32) w8 #[] 0 (Nat.le_refl _) (by unfold maxLen; omega) (by simp))
        have kE := (Kept.refl [] w8).alloc (.cells #[] 41)
        have HLE := hide ((unhide HL).old ((unhide HK8).trans kE (by simp)))
        have HKE := hide kE
        have HAL := hide (by rw [List.length_append, unhide HLN, unhide HMN] : (ls ++ ms).length = ln + mn)
        clear kE
        go_wp2_with (first
          | (at_builtin; refine wpList_appendD rfl (.tmp 90) (.tmp 91) rfl rfl _ w8.heap.size (.slice (some ⟨w8.heap.size, 0, none⟩) 0 0) [] ls la ln lc (by exact unhide HOE) (by exact unhide HLE) (by simp only [List.length_nil, Nat.zero_add, unhide HLN]; omega) (by simp) rfl rfl ?_; clear HOE HLE; intro aa ac wa HOa HGa; simp only [List.nil_append, List.length_nil, Nat.zero_add] at HOa ⊢; have HKa := hide ((unhide HKE).grown (unhide HGa) (by intro k9 hk9; right; simp [Value.ownBlock] at hk9; omega)); have HMa := hide ((unhide HM).old ((unhide HK8).trans (unhide HKa) (by simp))); clear HGa HKE)
          | (at_builtin; refine wpList_appendD rfl (.tmp 92) (.tmp 93) rfl rfl wa w8.heap.size (.slice aa ls.length ac) ls ms ma mn mc (by exact unhide HOa) (by exact unhide HMa) (by simp only [unhide HLN, unhide HMN]; omega) (unhide HKa).size rfl rfl ?_; intro ab ac2 wb HOb HGb; have HKb := hide ((unhide HKa).grown (unhide HGb) (by intro k9 hk9; right; have h9 := (unhide HOa).lt k9 hk9; omega)); have HRb := hide (rdd_owns (unhide HOb) (by intro d hd; rcases List.mem_append.1 hd with hd | hd; (exact (unhide HL).dg hd); exact (unhide HM).dg hd)); have HNB := hide (fun b9 o9 s9 (e9 : ab = some ⟨b9, o9, s9⟩) => ((unhide HOb).lt b9 (by rw [e9]; rfl)).1); rw [unhide HLN, unhide HMN] at HRb ⊢; clear HGb HKa HOa HMa HOb))
        obtain ⟨al, hal⟩ : ∃ al, ln + mn = al := ⟨_, rfl⟩
        rw [hal] at HRb HAL
        simp only [hal]
        have HTRb := hide ((unhide HT8).old (unhide HKb))
        have HTQb := hide ((unhide HT7b).old (unhide HKb))
        have HT0b := hide ((unhide HT6c).old (unhide HKb))
        have HXb := hide ((unhide HX8).trans (unhide HKb) (by simp))
        have HKWb := hide ((unhide HK8).trans (unhide HKb) (by simp))
        have hg8 : g < w8.heap.size := Nat.lt_of_lt_of_le (lt_of_block (unhide HGC5)) (unhide HX8).size
        clear HT8 HT7b HT6c HX8 HK8 HKb HX7 HX6 HK7 HK6
        have HOWb := hide ((unhide HXb).owns (unhide HOW) (by simp))
        have HFRb := hide ((unhide HRD).old (unhide HXb))
        have HMKb := hide ((unhide HXb).heap (unhide HMK5) (by simp))
        have HGCb := hide ((unhide HXb).heap (unhide HGC5) (by simp))
        go_wp2_with fail
        have hmkl : mkD.length = 32 := rfl
        have hmkq := fun W => dig_eq W mkD mkD rfl rfl
        rw [decide_eq_true rfl] at hmkq
        have HFRG := hide (fun i (hi : i < N) => (by obtain ⟨b9, o9, e9, h9⟩ := (unhide HFRb).range (by rw [unhide HFN]; omega); cases e9; have h8 := h9 i (by rw [unhide HFN]; exact hi); rw [Nat.zero_add] at h8; exact h8 : wb.rangeAt g (i * 32) ((F.getD i []).map Go.Proofs.YtecadmldnjlibaaDoor.u8)))
        go_loopw [97] (fun t97 wr => ∃ (i : Nat), i ≤ al ∧ t97 = .int .i64 (i : Int) ∧ Hid (Kept [] wb wr)) (fun t _ => al - (intOf t).toNat)
        case atStart => exact ⟨0, Nat.zero_le _, rfl, hide (Kept.refl _ _)⟩
        case round =>
          obtain ⟨i, hi, rfl, HKr⟩ := hrel
          by_cases hil : i < al
          · have hil' : (i : Int) < (al : Int) := by omega
            obtain ⟨bb, bo, rfl, hrb⟩ := (unhide HRb).range (by rw [unhide HAL]; omega)
            have HX := hide (unhide HFD (F.getD i []) (by rw [List.getD_eq_getElem?_getD, List.getElem?_eq_getElem (by rw [unhide HFN]; omega)]; exact List.getElem_mem _))
            have HXa := hide (range_kept (hrb i (by rw [unhide HAL]; exact hil)) (unhide HKr) (by simp))
            have HXf := hide (range_kept (unhide HFRG i (by omega)) (unhide HKr) (by simp))
            rw [← unhide HGET i (by omega)] at HXa
            generalize F.getD i [] = X at HX HXa HXf
            have hxl := (unhide HX).1
            have hqx := fun W => dig_eq W X X hxl hxl
            rw [decide_eq_true rfl] at hqx
            have HN9 := hide (cell_new wr X)
            have HO9 := hide (kept_old wr X)
            obtain ⟨w9, hw9⟩ : ∃ w9, (wr.alloc (.cells (zb 32) 41)).setRow wr.heap.size (brow X) = w9 := ⟨_, rfl⟩
            rw [hw9] at HN9 HO9
            have HW9 := hide hw9
            have HXg := hide (range_kept (unhide HXf) (unhide HO9) (by simp))
            have HK9 := hide ((unhide HKr).trans (unhide HO9) (by simp))
            have ib : ¬ (al : Int) ≤ (i : Int) := by omega
            have ic : ¬ (N : Int) ≤ (i : Int) := by omega
            have id0 : ¬ (i : Int) < 0 := by omega
            clear hw9 HXf HO9 hrb hmkq
            go_wp2_with (first
              | (refine wpList_load_mid rfl 41 (.tmp 100) rfl bb (bo + i * 32) rfl (X.map Go.Proofs.YtecadmldnjlibaaDoor.u8) _ (unhide HXa) Tryd.underlying41 rfl (by rw [List.length_map, hxl]; exact Tryd.size_dig) ?_)
              | (rw [zb32]; refine wpList_store_row rfl 41 (.tmp 18) _ rfl wr.heap.size (brow X) rfl rfl _ (zb 32) (heap_alloc_new _ _) (Tryd.szD hxl) (by rw [zb_size, brow_size, hxl]) (brow_one _) ?_; rw [unhide HW9]))
            have hne : ∀ p : Prop, (∀ w', Kept [] w9 w' → p) = p := fun p => propext ⟨fun h => h w9 (Kept.refl [] w9), fun h _ _ => h⟩
            refine wp_region_keep (by kernel_rfl) (by kernel_rfl) ?_
            iterate 3 (go_big_quiet_step (fail))
            refine wpQuiet_mid rfl 41 (.tmp 104) rfl g (i * 32) rfl (X.map Go.Proofs.YtecadmldnjlibaaDoor.u8) _ (fun w' hw' => range_kept (unhide HXg) hw' (by simp)) Tryd.underlying41 rfl (by rw [List.length_map, hxl]; exact Tryd.size_dig) ?_
            simp only [Act.put, List.setIfInBounds_toArray, List.set_cons_succ, List.set_cons_zero]
            refine wpQuiet_row rfl 41 (.tmp 18) rfl wr.heap.size rfl _ (brow X) (0, 0) _ (fun w' hw' => hw'.heap (unhide HN9) (by simp)) Tryd.underlying41 rfl (Tryd.szD hxl) ?_
            simp only [Act.put, List.setIfInBounds_toArray, List.set_cons_succ, List.set_cons_zero]
            refine wpQuiet_val rfl (.bool false) (fun w' _ => run_neq 41 (.tmp 105) (.tmp 106) _ rfl (brow X) (brow X) rfl rfl w' true (by kernel_rfl) (hqx w')) ?_
            simp only [Act.put, List.setIfInBounds_toArray, List.set_cons_succ, List.set_cons_zero]
            refine wpQuiet_nil ?_
            intro w6 hw6
            have HK10 := hide ((unhide HK9).trans hw6 (by simp))
            clear hw6 hqx hne
            go_wp2_with fail
            refine ⟨⟨i + 1, by omega, by go_num, HK10⟩, ?_⟩
            simp [intOf]; omega
          · have hil' : ¬ (i : Int) < (al : Int) := by omega
            obtain ⟨R0, hR0⟩ : ∃ R0, R0 = wr := ⟨_, rfl⟩
            subst hR0
            have HMa := hide (range_kept (unhide HFRG al (by omega)) (unhide HKr) (by simp))
            have HMb := hide (range_kept (unhide HFRG (al + 1) (by omega)) (unhide HKr) (by simp))
            rw [← hal, show ln + mn = ln + mn + 0 from rfl, unhide HGM 0 (by omega), Nat.add_zero, hal] at HMa
            rw [← hal, unhide HGM 1 (by omega), hal] at HMb
            have HMr := hide ((unhide HKr).heap (unhide HMKb) (by simp))
            have ja : ¬ (N : Int) ≤ (al : Int) := by omega
            have jb : ¬ (N : Int) ≤ (al : Int) + 1 := by omega
            have jc : IntKind.i64.wrap ((al : Int) + 1) = (al : Int) + 1 := by simp [IntKind.wrap, IntKind.signed, IntKind.bits]; omega
            have jd : ¬ (al : Int) < 0 := by omega
            have je : ¬ (al : Int) + 1 < 0 := by omega
            go_wp2_with fail
            have hne : ∀ p : Prop, (∀ w', Kept [] R0 w' → p) = p := fun p => propext ⟨fun h => h R0 (Kept.refl [] R0), fun h _ _ => h⟩
            refine wp_region_keep (by kernel_rfl) (by kernel_rfl) ?_
            iterate 4 (go_big_quiet_step (fail))
            refine wpQuiet_mid rfl 41 (.tmp 112) rfl g (al * 32) rfl (mkD.map Go.Proofs.YtecadmldnjlibaaDoor.u8) _ (fun w' hw' => range_kept (unhide HMa) hw' (by simp)) Tryd.underlying41 rfl (by exact Tryd.size_dig) ?_
            simp only [Act.put, List.setIfInBounds_toArray, List.set_cons_succ, List.set_cons_zero]
            refine wpQuiet_row rfl 41 (.tmp 7) rfl w3.heap.size rfl _ (brow mkD) (0, 0) _ (fun w' hw' => hw'.heap (unhide HMr) (by simp)) Tryd.underlying41 rfl (Tryd.szD hmkl) ?_
            simp only [Act.put, List.setIfInBounds_toArray, List.set_cons_succ, List.set_cons_zero]
            refine wpQuiet_val rfl (.bool false) (fun w' _ => run_neq 41 (.tmp 113) (.tmp 114) _ rfl (brow mkD) (brow mkD) rfl rfl w' true (by kernel_rfl) (hmkq w')) ?_
            simp only [Act.put, List.setIfInBounds_toArray, List.set_cons_succ, List.set_cons_zero]
            iterate 5 (go_big_quiet_step (simp only [jc]))
            go_big_quiet_step (fail)
            refine wpQuiet_mid rfl 41 (.tmp 121) rfl g ((al + 1) * 32) rfl (mkD.map Go.Proofs.YtecadmldnjlibaaDoor.u8) _ (fun w' hw' => range_kept (unhide HMb) hw' (by simp)) Tryd.underlying41 rfl (by exact Tryd.size_dig) ?_
            simp only [Act.put, List.setIfInBounds_toArray, List.set_cons_succ, List.set_cons_zero]
            refine wpQuiet_row rfl 41 (.tmp 7) rfl w3.heap.size rfl _ (brow mkD) (0, 0) _ (fun w' hw' => hw'.heap (unhide HMr) (by simp)) Tryd.underlying41 rfl (Tryd.szD hmkl) ?_
            simp only [Act.put, List.setIfInBounds_toArray, List.set_cons_succ, List.set_cons_zero]
            refine wpQuiet_val rfl (.bool false) (fun w' _ => run_neq 41 (.tmp 122) (.tmp 123) _ rfl (brow mkD) (brow mkD) rfl rfl w' true (by kernel_rfl) (hmkq w')) ?_
            simp only [Act.put, List.setIfInBounds_toArray, List.set_cons_succ, List.set_cons_zero]
            go_big_quiet_step (fail)
            refine wpQuiet_nil ?_
            intro w6 hw6
            have HKc := hide ((unhide HKr).trans hw6 (by simp))
            have HOWc := hide ((unhide HKc).owns (unhide HOWb) (by simp))
            clear hw6 hne hmkq HMa HMb HMr ja jb jc jd je
            go_wp2_with fail
            have HOW0 := hide (by have h9 : owL F 0 = F := by simp [owL]
                                  rw [h9]; exact unhide HOWc : w6.ownsRow w4.heap.size 41 32 (.slice (some ⟨g, 0, none⟩) N cap) N (flatD (owL F 0)))
            go_loopw [128] (fun t128 wr => ∃ (i : Nat), i ≤ N ∧ t128 = .int .i64 (i : Int) ∧ Hid (wr.ownsRow w4.heap.size 41 32 (.slice (some ⟨g, 0, none⟩) N cap) N (flatD (owL F i))) ∧ Hid (Kept [g] w6 wr)) (fun t _ => N - (intOf t).toNat)
            case atStart => exact ⟨0, Nat.zero_le _, rfl, HOW0, hide (Kept.refl _ _)⟩
            case round =>
              obtain ⟨i, hi, rfl, HOi, HKi⟩ := hrel
              by_cases hin : i < N
              · have hin' : (i : Int) < (N : Int) := by omega
                have hol : (owL F i).length = N := by rw [owL_len (by rw [unhide HFN]; exact hi), unhide HFN]
                have hpt := owns_put (X := bD i) (by rw [hol]; exact unhide HOi) (fun d hd => (owL_dg (unhide HFD) i d hd).1) (by rw [hol]; exact hin) (bD_dg i).1
                rw [owL_set (by rw [unhide HFN]; exact hin), hol] at hpt
                obtain ⟨hth, hop, hkp⟩ := hpt
                have HTH := hide hth
                have HOp := hide hop
                have HKp := hide ((unhide HKi).trans hkp (by simp))
                have hwr8 : IntKind.u8.wrap (i : Int) = ((i % 256 : Nat) : Int) := by simp [IntKind.wrap, IntKind.signed, IntKind.bits]
                have ib : ¬ (N : Int) ≤ (i : Int) := by omega
                have HBB := hide (by rw [bD_brow]; exact bD_built _ : Tryd.prog.built 41 [(0, .int .u8 ((i % 256 : Nat) : Int))] = some (brow (bD i)))
                have hbsz : (brow (bD i)).size = 32 := by rw [brow_size, (bD_dg i).1]
                obtain ⟨wp, hwp⟩ : ∃ wp, wr.setCells g (i * 32) ((bD i).map Go.Proofs.YtecadmldnjlibaaDoor.u8) = wp := ⟨_, rfl⟩
                rw [hwp] at HOp HKp
                have HWP := hide (by rw [← hwp]; simp [brow] : wr.setCells g (i * 32) (brow (bD i)).toList = wp)
                clear hth hop hkp hwp hol
                go_wp2_with (first
                  | (simp only [hwr8])
                  | (refine wpList_build_as rfl 41 _ rfl (brow (bD i)) (by exact unhide HBB) ?_)
                  | (refine wpList_store_mid rfl 41 (.tmp 136) (.tmp 135) rfl g (i * 32) (brow (bD i)) rfl rfl (by rw [hbsz]; exact unhide HTH) (Tryd.szD (bD_dg i).1) (brow_one _) ?_; rw [unhide HWP]))
                refine ⟨⟨i + 1, by omega, by go_num, HOp, HKp⟩, ?_⟩
                simp [intOf]; omega
              · have hin' : ¬ (i : Int) < (N : Int) := by omega
                have hie : N = i := by omega
                subst hie
                have HKd := hide ((unhide HKWb).trans (unhide HKc) (by simp))
                have HKe := hide ((unhide HKd).trans (unhide HKi) (by intro x hx; right; simp at hx; have := (unhide HK4).size; omega))
                have hgt : ∀ b ∈ [g], ∃ cs m, w6.heap[b]? = some (.cells cs 41 m) := by
                  intro b hb
                  rw [List.mem_singleton] at hb
                  subst hb
                  exact ⟨_, _, (unhide HKc).heap (unhide HGCb) (by simp)⟩
                have HTR := hide (((unhide HTRb).old (unhide HKc)).turn (unhide HKi) hgt)
                have HTQ := hide (((unhide HTQb).old (unhide HKc)).turn (unhide HKi) hgt)
                have HT0 := hide (((unhide HT0b).old (unhide HKc)).turn (unhide HKi) hgt)
                have HAll := hide (((unhide HRb).old (unhide HKc)).far (unhide HKi) (by intro b9 o9 s9 e9 h9; rw [List.mem_singleton] at h9; have := unhide HNB b9 o9 s9 e9; omega))
                have HLl := hide ((unhide HL).old (unhide HKe))
                have hGl : (owL F N).length = N := by rw [owL_len (by rw [unhide HFN]; exact Nat.le_refl _), unhide HFN]
                have HGR := hide (by have h9 := rdd_owns (ds := owL F N) (by rw [hGl]; exact unhide HOi) (owL_dg (unhide HFD) N); exact h9 : RdD wr (.slice (some ⟨g, 0, none⟩) N cap) (owL F N))
                have HGP := hide (by have h9 := (unhide HGR).piece (lo := 0) (hi := ln) (c' := cap) (by omega) (by omega) hcap2 (some ⟨g, 0, none⟩) (by intro _ b off e; cases e; rfl); rw [Nat.sub_zero, List.drop_zero] at h9; exact h9 : RdD wr (.slice (some ⟨g, 0, none⟩) ln cap) ((owL F N).take ln))
                have HGF := hide (by
                  rw [List.all_eq_true]
                  intro d hd
                  have hd2 := List.mem_of_mem_take hd
                  unfold owL at hd2
                  rw [List.drop_of_length_le (by rw [unhide HFN]; exact Nat.le_refl _), List.append_nil] at hd2
                  obtain ⟨j, _, rfl⟩ := List.mem_map.1 hd2
                  exact bD_form hkk.1 hkk.2 j : ((owL F N).take ln).all (formB (kk : Int)) = true)
                have HGN := hide (by rw [List.length_take, hGl]; omega : ((owL F N).take ln).length = ln)
                generalize (owL F N).take ln = gl at HGP HGF HGN
                clear HOi HGR hGl hgt HTRb HTQb HT0b HRb HKWb HOWb HOWc HOW0 HFRb HFRG HMKb HGCb HXb
                go_wp2_with fail
                refine (appendT_own (kk : Int) t (.slice none 0 0) (.slice (some ⟨g, 0, none⟩) ln cap) [] gl wr (unhide HT0).tree (fun _ => rfl) (unhide HGP) (by simp [leavesK]; rw [unhide HGN]; omega) ((unhide HTB).kept (unhide HKe) (by simp) (by simp)) ((unhide H6).kept (unhide HKe))).mono ?_
                rintro e w9 ⟨ha, _, k9⟩
                obtain ⟨t4, v4, ss, rfl, ht9, htr4, hlv4, hnl4, hpo4⟩ := ha (unhide HGF)
                have HLV4 := hide (by rw [hlv4]; rfl : leavesK ss = gl)
                have HTX := hide htr4
                have HKf := hide ((unhide HKe).trans k9 (by simp))
                have HZ9 := hide k9
                clear ha htr4 hlv4 hnl4 hpo4 k9
                go_wp2_with fail
                refine (reads_any kk hkk t2 v2 (.slice la ln lc) qs w9 ((unhide HTQ).old (unhide HZ9)).tree (by rw [unhide HLV2]; exact (unhide HLl).old (unhide HZ9)) (by rw [unhide HLV2, unhide HLN]; omega) ((unhide HTB).kept (unhide HKf) (by simp) (by simp)) ((unhide H6).kept (unhide HKf))).mono ?_
                rintro e wA ⟨rfl, kA⟩
                have HZA := hide ((unhide HZ9).trans kA (by simp))
                have HKA := hide ((unhide HKf).trans kA (by simp))
                have HTXA := hide ((unhide HTX).old kA)
                clear kA HZ9 HKf HTX
                go_wp2_with fail
                refine (reads_any kk hkk t3 v3 (.slice ab al ac2) rs wA ((unhide HTR).old (unhide HZA)).tree (by rw [unhide HLV3]; exact (unhide HAll).old (unhide HZA)) (by rw [unhide HLV3, List.length_append, unhide HLN, unhide HMN]; omega) ((unhide HTB).kept (unhide HKA) (by simp) (by simp)) ((unhide H6).kept (unhide HKA))).mono ?_
                rintro e wB ⟨rfl, kB⟩
                have HZB := hide ((unhide HZA).trans kB (by simp))
                have HKB := hide ((unhide HKA).trans kB (by simp))
                have HTXB := hide ((unhide HTXA).old kB)
                clear kB HZA HKA HTXA
                have HOE2 := hide (World.ownsRow_made (base := wB.heap.size) (e := 41) (size := 32) wB #[] 0 (Nat.le_refl _) (by unfold maxLen; omega) (by simp))
                have kE := (Kept.refl [] wB).alloc (.cells #[] 41)
                have HGE := hide ((unhide HGP).old ((unhide HZB).trans kE (by simp)))
                have HKE2 := hide kE
                have HGD := hide (fun d (hd : d ∈ gl) => (unhide HGP).dg hd)
                clear kE
                go_wp2_with (at_builtin; refine wpList_appendD rfl (.tmp 162) (.tmp 163) rfl rfl _ wB.heap.size (.slice (some ⟨wB.heap.size, 0, none⟩) 0 0) [] gl (some ⟨g, 0, none⟩) ln cap (by exact unhide HOE2) (by exact unhide HGE) (by simp only [List.length_nil, Nat.zero_add, unhide HGN]; omega) (by simp) rfl rfl ?_; clear HOE2 HGE; intro xa xc wC HOx HGx; simp only [List.nil_append, List.length_nil, Nat.zero_add] at HOx ⊢; have HKx := hide ((unhide HKE2).grown (unhide HGx) (by intro k9 hk9; right; simp [Value.ownBlock] at hk9; omega)); have HRx := hide (rdd_owns (unhide HOx) (unhide HGD)); clear HGx HOx)
                have HKC := hide ((unhide HKB).trans (unhide HKx) (by simp))
                have HZC := hide ((unhide HZB).trans (unhide HKx) (by simp))
                refine (reads_any kk hkk t4 v4 (.slice xa gl.length xc) ss wC ((unhide HTXB).old (unhide HKx)) (by rw [unhide HLV4]; exact unhide HRx) (by rw [unhide HLV4, unhide HGN]; omega) ((unhide HTB).kept (unhide HKC) (by simp) (by simp)) ((unhide H6).kept (unhide HKC))).mono ?_
                rintro e wD ⟨rfl, kD⟩
                have HKD := hide ((unhide HKC).trans kD (by simp))
                have HZD := hide ((unhide HZC).trans kD (by simp))
                clear kD
                go_wp2_with fail
                refine (reads_any kk hkk t (.slice none 0 0) (.slice none 0 0) [] wD ((unhide HT0).old (unhide HZD)).tree (RdD.none _) (by simp [leavesK]) ((unhide HTB).kept (unhide HKD) (by simp) (by simp)) ((unhide H6).kept (unhide HKD))).mono ?_
                rintro e wE ⟨rfl, kE⟩
                have HKE := hide ((unhide HKD).trans kE (by simp))
                clear kE
                go_wp2_with fail
                go_ret
                exact ⟨rfl, unhide HKE⟩

theorem mtreeKeeps_walk (z : Int) (lv : Value) (ls : List (List Nat)) (mv : Value) (ms : List (List Nat)) (w : World) (hz : -9223372036854775808 ≤ z ∧ z ≤ 9223372036854775807) (hl : RdD w lv ls) (hx : ls.length ≤ 1048576) (hm : RdD w mv ms) (hx2 : ms.length ≤ 1048576) (h : Tabs w ∧ Tab6 w) :
    Calls Tryd.prog 4 #[.int .i64 z, lv, mv] w fun e w' => e = .returned (.bool true) ∧ Below w.heap.size w w' :=
  (mtreeKeeps_go z lv mv ls ms w hz hl hm hx hx2 h.1 h.2).mono fun e w' h9 => ⟨h9.1, h9.2.below (Nat.le_refl _) (by simp)⟩
end Go.Proofs.YtecadmldnjlibaaDoor
namespace Go.Proofs.YtecadmldnjlibaaDoor
open Go.ChangeShapes Go.WideShapes Go.ChangeAt Go.RowKit Go.Deep
set_option linter.unusedVariables false
set_option linter.unusedSimpArgs false

theorem own : ownKnob Tryd.prog.godebug = none := by kernel_rfl
theorem laidOut : laidOutB Tryd.prog = true := by kernel_rfl
theorem byte_of_wf {x : Int} (h : (Lit.int .u8 x).wf = true) : 0 ≤ x ∧ x < 256 := by
  simp [Lit.wf, IntKind.min, IntKind.max, IntKind.signed, IntKind.bits] at h
  exact ⟨by omega, by omega⟩
theorem int_of_wf {x : Int} (h : (Lit.int .i64 x).wf = true) : -9223372036854775808 ≤ x ∧ x ≤ 9223372036854775807 := by
  simp [Lit.wf, IntKind.min, IntKind.max, IntKind.signed, IntKind.bits] at h
  exact ⟨by omega, by omega⟩

theorem bulk_one {H : Type} (d : DataW H) : 1 ≤ Rows.uptoBulk d := by
  cases d with
  | lit l => cases l <;> simp [Rows.uptoBulk]
  | nil => simp [Rows.uptoBulk]
  | ptr d => simp [Rows.uptoBulk]
  | slice elems spare => simp [Rows.uptoBulk]
  | agg parts => simp [Rows.uptoBulk]
  | iface t d => simp [Rows.uptoBulk]
  | map entries => simp [Rows.uptoBulk]
  | held h => simp [Rows.uptoBulk]
theorem bulk_len {H : Type} (l : List (DataW H)) : l.length ≤ Rows.uptoBulkAll l := by
  induction l with
  | nil => simp [Rows.uptoBulkAll]
  | cons x r ih => have := bulk_one x; simp only [Rows.uptoBulkAll, List.length_cons]; omega
theorem Tryd.bytes5 : Tryd.prog.bytesOf 5 = 1 := by kernel_rfl

section
variable {H : Type} {enc : TypeId × Value → H} {W : World}

/-- Bytes that came in, as the walks want them, of whatever length. -/
theorem open_bytes {fuel : Nat} {cs : List Value} {x : DataW H × List MemPlace} (h : DataW.trod enc Tryd.prog W 0 (fun _ => true) true fuel 86 cs = some x) :
    ∃ v bs, cs = [v] ∧ (bs.length ≤ 140737488355328 → Rd W v bs) ∧ ((bs = [] ∧ x.1 = .nil) ∨ ∃ elems spare, x.1 = .slice elems spare ∧ elems.length = bs.length) := by
  rcases open_ints Tryd.underlying86 Tryd.underlying5 (by kernel_rfl) h with ⟨rfl, rfl⟩ | ⟨a, len, cap, zs, rfl, _, hl, hm, hz, rfl, hcell, hwz⟩
  · exact ⟨_, [], rfl, fun _ => Rd.nil W, .inl ⟨rfl, rfl⟩⟩
  · have h2 : (lits (H := H) .u8 (zs.take len)).length = len := by simp only [lits, List.length_map, List.length_take]; simp at hz; omega
    have hbl : ((zs.take len).map Int.toNat).length = len := by simp at hz; simp; omega
    refine ⟨_, (zs.take len).map Int.toNat, rfl, fun hB => ⟨_, _, _, rfl, hbl, hl, ⟨by unfold maxLen at hm; omega, by omega⟩, by simp, ?_, ?_⟩, .inr ⟨_, _, rfl, by rw [h2, hbl]⟩⟩
    · intro y hy
      obtain ⟨z, hz1, rfl⟩ := List.mem_map.1 hy
      have := byte_of_wf (hwz z (List.mem_of_mem_take hz1)); omega
    · intro hp
      simp at hz
      have hc0 := hcell 0 (by omega)
      obtain ⟨b, off, spot⟩ := a
      have hspot : spot = none := by simpa [Addr.add] using World.cell?_spot hc0
      subst hspot
      refine ⟨b, off, rfl, fun i hi => ?_⟩
      have hc := hcell i (by omega)
      have hzi : i < zs.length := by omega
      rw [Addr.add_mid] at hc
      rw [hc]
      have hw := byte_of_wf (hwz (zs[i]) (List.getElem_mem hzi))
      simp only [List.getD_eq_getElem?_getD, List.getElem?_eq_getElem hzi, Option.getD_some, List.getElem?_map, List.getElem?_take, hi, if_true, Option.map_some]
      simp [u8]; omega
/-- Their length, by the reach. -/
theorem reach_bytes {ts : List TypeId} {ds : List (DataW H)} (h : (DataW.weightsEach Tryd.prog ts ds).all (· ≤ reachBytes) = true) {j : Nat} (ht : ts[j]? = some 86) {d : DataW H} (hd : ds[j]? = some d) {bs : List Nat}
    (hx : (bs = [] ∧ d = .nil) ∨ ∃ elems spare, d = .slice elems spare ∧ elems.length = bs.length) : bs.length ≤ 140737488351232 := by
  rcases hx with ⟨rfl, _⟩ | ⟨elems, spare, rfl, he⟩
  · simp
  · have := sized_slice h ht hd Tryd.underlying86
    rw [Tryd.bytes5, Nat.mul_one] at this
    unfold reachBytes at this
    omega
/-- Their length, by the bulk. -/
theorem bulk_bytes {d : DataW H} {bs : List Nat} (hx : (bs = [] ∧ d = .nil) ∨ ∃ elems spare, d = .slice elems spare ∧ elems.length = bs.length) : bs.length + 1 ≤ Rows.uptoBulk d := by
  rcases hx with ⟨rfl, rfl⟩ | ⟨elems, spare, rfl, he⟩
  · simp [Rows.uptoBulk]
  · have := bulk_len elems
    simp only [Rows.uptoBulk]; omega
end
end Go.Proofs.YtecadmldnjlibaaDoor
namespace Go.Proofs.YtecadmldnjlibaaDoor
open Go Go.RowKit
set_option linter.unusedVariables false
set_option linter.unusedSimpArgs false
section
variable {H : Type} {enc : TypeId × Value → H} {W : World}

def natOf : Value → Nat
  | .int _ n => n.toNat
  | _ => 0
/-- A digest that came in. -/
theorem open_dig {fuel : Nat} {cs : List Value} {x : DataW H × List MemPlace} (h : DataW.trod enc Tryd.prog W 0 (fun _ => true) true fuel 41 cs = some x) :
    ∃ l : List Nat, cs = l.map u8 ∧ l.length = 32 ∧ ∀ y ∈ l, y < 256 := by
  obtain ⟨xs, m, _, rfl, hl, hn, hc⟩ := DataW.trod_array Tryd.underlying41 h
  rw [show Tryd.prog.cellsOf 41 = 32 from by kernel_rfl] at hl
  rw [show Tryd.prog.cellsOf 5 = 1 from by kernel_rfl] at hc
  have key : ∀ i (hi : i < cs.length), cs[i] = u8 (natOf cs[i]) ∧ natOf cs[i] < 256 := by
    intro i hi
    have h1 := hc i (by omega)
    rw [Nat.mul_one, List.getElem?_eq_getElem (by omega)] at h1
    obtain ⟨n, e, _, hw⟩ := DataW.trod_int Tryd.underlying5 h1
    rw [List.drop_eq_getElem_cons hi, List.take_succ_cons, List.take_zero] at e
    simp only [List.cons.injEq, and_true] at e
    have := byte_of_wf hw
    rw [e]
    refine ⟨?_, ?_⟩
    · simp [u8, natOf]; omega
    · simp [natOf]; omega
  refine ⟨cs.map natOf, ?_, by simp [hl], ?_⟩
  · rw [List.map_map]
    refine List.ext_getElem (by simp) fun i h1 h2 => ?_
    rw [List.getElem_map]
    exact (key i h1).1
  · intro y hy
    obtain ⟨v, hv, rfl⟩ := List.mem_map.1 hy
    obtain ⟨i, hi, rfl⟩ := List.getElem_of_mem hv
    exact (key i hi).2
set_option maxRecDepth 100000 in
theorem open_digv {b0 : Nat} {v : Value} {d : DataW H} {ps : List MemPlace} (hv : Value.okWide Tryd.prog W .any b0 41 v) (h : DataW.Trod enc Tryd.prog W 0 (fun _ => true) true 41 v d ps) :
    ∃ l : List Nat, v = .agg (brow l) ∧ l.length = 32 ∧ ∀ y ∈ l, y < 256 := by
  unfold Value.okWide at hv
  rw [Tryd.underlying41] at hv
  obtain ⟨cs, rfl, _, _⟩ := hv
  obtain ⟨fuel, hf⟩ := h
  obtain ⟨l, e, h1, h2⟩ := open_dig hf
  refine ⟨l, ?_, h1, h2⟩
  simp only [Value.cells] at e
  unfold brow
  rw [← e]
end
end Go.Proofs.YtecadmldnjlibaaDoor
namespace Go.Proofs.YtecadmldnjlibaaDoor
open Go.RowKit
set_option linter.unusedVariables false
set_option linter.unusedSimpArgs false

/-- The slice value v reads as these numbers of 64 bits. -/
def RdQ (w : World) (v : Value) (xs : List Nat) : Prop :=
  ∃ (ao : Option Addr) (len cap : Nat), v = .slice ao len cap ∧ xs.length = len ∧ len ≤ cap ∧ cap ≤ 9223372036854775807 ∧ (∀ x ∈ xs, x < 18446744073709551616) ∧
    (0 < len → ∃ b off, ao = some ⟨b, off, none⟩ ∧ ∀ i, i < len → w.cell? ⟨b, off + i, none⟩ = some (.int .u64 ((xs.getD i 0 : Nat) : Int)))
theorem RdQ.old {w0 w : World} {v : Value} {ws : List Nat} (h : RdQ w0 v ws) (k : Kept [] w0 w) : RdQ w v ws := by
  obtain ⟨ao, len, cap, rfl, h1, h2, h3, h5, h6⟩ := h
  refine ⟨ao, len, cap, rfl, h1, h2, h3, h5, fun hp => ?_⟩
  obtain ⟨b, off, rfl, hc⟩ := h6 hp
  exact ⟨b, off, rfl, fun i hi => k.cell (hc i hi) (by simp)⟩
end Go.Proofs.YtecadmldnjlibaaDoor
namespace Go.Proofs.YtecadmldnjlibaaDoor
open Go.ChangeShapes Go.WideShapes Go.ChangeAt Go.RowKit Go.Deep
set_option linter.unusedVariables false
set_option linter.unusedSimpArgs false
section
variable {H : Type} {enc : TypeId × Value → H} {W : World}

/-- Digests that came in. -/
theorem open_digs2 {fuel : Nat} {cs : List Value} {x : DataW H × List MemPlace} (h : DataW.trod enc Tryd.prog W 0 (fun _ => true) true fuel 32 cs = some x) (hB : Rows.uptoBulk x.1 ≤ 1048576) :
    ∃ v ds, cs = [v] ∧ RdD W v ds ∧ ds.length ≤ 1048576 := by
  rcases open_slice Tryd.underlying32 h with ⟨rfl, rfl⟩ | ⟨a, len, cap, m, n, D, Pl, rfl, _, hl, hm, hmm, rfl, hx⟩
  · exact ⟨_, [], rfl, ⟨none, 0, 0, rfl, rfl, Nat.le_refl _, by omega, fun d hd => by simp at hd, fun h => by omega⟩, by simp⟩
  · have hC : Tryd.prog.cellsOf 41 = 32 := by kernel_rfl
    rw [hC] at hx
    simp only [if_true] at hmm
    simp only [Rows.uptoBulk] at hB
    have hcap : cap ≤ 1048576 := by
      have h1 := bulk_len ((List.range len).map D)
      have h2 := bulk_len ((List.range (m - len)).map fun j => D (len + j))
      simp at h1 h2
      omega
    obtain ⟨f, hf⟩ := choose_lt (α := List Nat) (n := len) (p := fun i o => (∀ j v, (o.map u8)[j]? = some v → W.cell? ((a.add (i * 32)).add j) = some v) ∧ o.length = 32 ∧ ∀ y ∈ o, y < 256) (by
      intro i hi
      obtain ⟨cs', h1, h2⟩ := hx i (by omega)
      obtain ⟨l, rfl, hl1, hl2⟩ := open_dig h2
      obtain ⟨_, hlen, hc⟩ := World.cells?_some h1
      refine ⟨l, fun j v hv => ?_, hl1, hl2⟩
      have hj := (List.getElem?_eq_some_iff.1 hv).1
      have := hc j (by rw [List.length_map] at hj; omega)
      rw [this, ← hv, List.getElem?_eq_getElem hj])
    refine ⟨_, (List.range len).map f, rfl, ⟨some a, len, cap, rfl, by simp, hl, by omega, ?_, ?_⟩, by simp; omega⟩
    · intro d hd
      obtain ⟨i, hi, rfl⟩ := List.mem_map.1 hd
      exact (hf i (List.mem_range.1 hi)).2
    · intro hp
      obtain ⟨b, off, spot⟩ := a
      have h0 := hf 0 hp
      have hc0 := h0.1 0 (u8 ((f 0).getD 0 0)) (by rw [List.getElem?_map, List.getD_eq_getElem?_getD, List.getElem?_eq_getElem (by omega)]; rfl)
      have hspot : spot = none := by simpa [Addr.add] using World.cell?_spot hc0
      subst hspot
      refine ⟨b, off, rfl, fun i hi j v hv => ?_⟩
      have e9 : ((List.range len).map f).getD i [] = f i := by simp [List.getD_eq_getElem?_getD, hi]
      rw [e9] at hv
      have := (hf i hi).1 j v hv
      rw [Addr.add_mid, Addr.add_mid] at this
      exact this

/-- Numbers of 64 bits that came in. -/
theorem open_u64s {fuel : Nat} {cs : List Value} {x : DataW H × List MemPlace} (h : DataW.trod enc Tryd.prog W 0 (fun _ => true) true fuel 69 cs = some x) :
    ∃ v ws, cs = [v] ∧ RdQ W v ws := by
  rcases open_ints Tryd.underlying69 Tryd.underlying49 (by kernel_rfl) h with ⟨rfl, rfl⟩ | ⟨a, len, cap, zs, rfl, _, hl, hm, hz, rfl, hcell, hwz⟩
  · exact ⟨_, [], rfl, ⟨none, 0, 0, rfl, rfl, Nat.le_refl _, by omega, by simp, fun h => by omega⟩⟩
  · have hbl : ((zs.take len).map Int.toNat).length = len := by simp at hz; simp; omega
    have hwf : ∀ y ∈ zs, 0 ≤ y ∧ y < 18446744073709551616 := by
      intro y hy
      have h9 := hwz y hy
      simp [Lit.wf, IntKind.min, IntKind.max, IntKind.signed, IntKind.bits] at h9
      omega
    refine ⟨_, (zs.take len).map Int.toNat, rfl, ⟨_, _, _, rfl, hbl, hl, by unfold maxLen at hm; omega, ?_, ?_⟩⟩
    · intro y hy
      obtain ⟨u, hu, rfl⟩ := List.mem_map.1 hy
      have := hwf u (List.mem_of_mem_take hu)
      omega
    · intro hp
      simp at hz
      have hc0 := hcell 0 (by omega)
      obtain ⟨b, off, spot⟩ := a
      have hspot : spot = none := by simpa [Addr.add] using World.cell?_spot hc0
      subst hspot
      refine ⟨b, off, rfl, fun i hi => ?_⟩
      have hc := hcell i (by omega)
      have hzi : i < zs.length := by omega
      have hzm := hwf (zs[i]) (List.getElem_mem hzi)
      rw [Addr.add_mid] at hc
      rw [hc]
      simp [List.getD_eq_getElem?_getD, List.getElem?_take, hi, hzi]
      omega

end
end Go.Proofs.YtecadmldnjlibaaDoor
