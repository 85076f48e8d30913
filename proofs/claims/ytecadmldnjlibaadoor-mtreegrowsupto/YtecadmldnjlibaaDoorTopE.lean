import Derived.Test.YtecadmldnjlibaaDoorTopD
import Derived.Test.YtecadmldnjlibaaDoorTopB
import Derived.Test.YtecadmldnjlibaaDoorTopC
import Derived.Test.YtecadmldnjlibaaDoorRowz
import Derived.Deep.RegionHeld3
import Derived.Test.YtecadmldnjlibaaDoorBase
import Derived.Test.YtecadmldnjlibaaDoorCards
import Derived.Test.YtecadmldnjlibaaDoorTie
import Derived.ProofKit
import Derived.OpenShut
import Derived.Deep.Slices
import Derived.SizedLaws
import Derived.Test.YtecadmldnjlibaaDoorDForm
import Derived.Deep.SlicePairs
namespace Go.Proofs.YtecadmldnjlibaaDoor
open Go.RowKit Go.BigFrame
set_option linter.unusedVariables false
set_option linter.unusedSimpArgs false

theorem OwD.back {w0 w w' : World} {v : Value} {ds : List (List Nat)} (h : OwD w w' v ds) (k : Kept [] w0 w) : OwD w0 w' v ds := by
  refine ⟨⟨h.own.1, ?_⟩, h.dg, k.trans h.kept (by simp)⟩
  rcases h.own.2 with h1 | ⟨g, cap, cur, h1, h2, h3⟩
  · exact Or.inl h1
  · exact Or.inr ⟨g, cap, cur, h1, Nat.le_trans k.size h2, h3⟩
theorem OwD.form {w0 w : World} {v : Value} {ds : List (List Nat)} (h : OwD w0 w v ds) : ∃ ao cap, v = .slice ao ds.length cap := owns_form h.own
theorem OwD.zero {w0 w : World} (k : Kept [] w0 w) : OwD w0 w (.slice none 0 0) [] := (OwD.nil w).back k

/-- What Inclusion answers. -/
def inE (L : List (List Nat)) (i n : Nat) : Int := if n ≤ i ∨ L.length < n then 4 else 0
def inD (z : Int) (L : List (List Nat)) (i n : Nat) : List (List Nat) := if n ≤ i ∨ L.length < n then [] else rgL z L (pathF i 64 0 n)

set_option maxRecDepth 100000 in
set_option maxHeartbeats 400000 in
theorem mincl_any (z : Int) (t : Nat) (v : Value) (ps : List Pk) (i n : Nat) (w : World) (hT : TreeAt z w t v ps) (hb : (leavesK ps).length < 32768) (hTb : Tabs w) (h6 : Tab6 w) (hn64 : n < 18446744073709551616) :
    Calls Tryd.prog 19 #[.pointer (some ⟨t, 0, none⟩), .int .u64 i, .int .u64 n] w fun e w' => ∃ u, e = .returned (.tuple #[u, .int .i64 (inE (leavesK ps) i n)]) ∧ OwD w w' u (inD z (leavesK ps) i n) := by
  unfold inE inD
  by_cases h1 : n ≤ i
  · have h1' : (n : Int) ≤ (i : Int) := by omega
    rw [if_pos (Or.inl h1), if_pos (Or.inl h1)]
    go_enter Tryd.func19, Tryd.ntmps19
    go_wp2_with fail
    exact ⟨rfl, _, results_tmp2 rfl _ _ _, _, rfl, OwD.nil _⟩
  · have h1' : ¬ (n : Int) ≤ (i : Int) := by omega
    have HPA := hide (path_any i n w (by omega) hn64)
    have hpl := pathF_len i 64 0 n
    by_cases h2 : (leavesK ps).length < n
    · rw [if_pos (Or.inr h2), if_pos (Or.inr h2)]
      have HDB := hide (fun lv W (k : Kept [] w W) => digests_bad z t v lv ps n W (hT.old k) h2)
      clear hT h2
      go_enter Tryd.func19, Tryd.ntmps19
      go_wp2_with fail
      refine (unhide HPA).mono ?_
      rintro e w1 ⟨v1, rfl, s1, k1⟩
      have HK1 := hide k1
      clear s1 k1
      go_wp2_with fail
      refine (unhide HDB v1 w1 (unhide HK1)).mono ?_
      rintro e w2 ⟨rfl, k2⟩
      have HK2 := hide ((unhide HK1).trans k2 (by simp))
      clear k2
      go_wp2_with fail
      exact ⟨rfl, _, results_tmp2 rfl _ _ _, _, rfl, OwD.zero (unhide HK2)⟩
    · rw [if_neg (by omega), if_neg (by omega)]
      have HDB := hide (fun lv w0 W (k : Kept [] w W) (hs : SpAt w0 W lv (pathF i 64 0 n)) => digests_any z t v lv ps n _ w0 W (hT.old k) (by omega) hb hs (by omega) (hTb.kept k (by simp) (by simp)) (h6.kept k))
      clear hT h2 hb hTb h6
      generalize pathF i 64 0 n = ss at HPA HDB hpl ⊢
      generalize rgL z (leavesK ps) ss = ds at HDB ⊢
      go_enter Tryd.func19, Tryd.ntmps19
      go_wp2_with fail
      refine (unhide HPA).mono ?_
      rintro e w1 ⟨v1, rfl, s1, k1⟩
      have HK1 := hide k1
      have HS1 := hide s1
      clear s1 k1
      go_wp2_with fail
      refine (unhide HDB v1 w w1 (unhide HK1) (unhide HS1)).mono ?_
      rintro e w2 ⟨u, rfl, o2⟩
      have HO2 := hide (o2.back (unhide HK1))
      clear o2
      go_wp2_with fail
      exact ⟨rfl, _, results_tmp2 rfl _ _ _, u, rfl, unhide HO2⟩

/-- What Consistency answers. -/
def csE (L : List (List Nat)) (m n : Nat) : Int := if n < m ∨ L.length < n then 4 else 0
def csD (z : Int) (L : List (List Nat)) (m n : Nat) : List (List Nat) := if n < m ∨ L.length < n then [] else rgL z L (smL m n)
theorem smL_le (m n : Nat) : (smL m n).length ≤ 65 := by
  unfold smL
  have := seamF_len m 64 0 n true
  split
  · simp
  · omega

set_option maxRecDepth 100000 in
set_option maxHeartbeats 400000 in
theorem mcons_any (z : Int) (t : Nat) (v : Value) (ps : List Pk) (i n : Nat) (w : World) (hT : TreeAt z w t v ps) (hb : (leavesK ps).length < 32768) (hTb : Tabs w) (h6 : Tab6 w) (hn64 : n < 18446744073709551616) :
    Calls Tryd.prog 20 #[.pointer (some ⟨t, 0, none⟩), .int .u64 i, .int .u64 n] w fun e w' => ∃ u, e = .returned (.tuple #[u, .int .i64 (csE (leavesK ps) i n)]) ∧ OwD w w' u (csD z (leavesK ps) i n) := by
  unfold csE csD
  by_cases h1 : n < i
  · have h1' : (n : Int) < (i : Int) := by omega
    rw [if_pos (Or.inl h1), if_pos (Or.inl h1)]
    go_enter Tryd.func20, Tryd.ntmps20
    go_wp2_with fail
    exact ⟨rfl, _, results_tmp2 rfl _ _ _, _, rfl, OwD.nil _⟩
  · have h1' : ¬ (n : Int) < (i : Int) := by omega
    have HPA := hide (seam_any i n w (by omega) hn64)
    have hpl := smL_le i n
    by_cases h2 : (leavesK ps).length < n
    · rw [if_pos (Or.inr h2), if_pos (Or.inr h2)]
      have HDB := hide (fun lv W (k : Kept [] w W) => digests_bad z t v lv ps n W (hT.old k) h2)
      clear hT h2
      go_enter Tryd.func20, Tryd.ntmps20
      go_wp2_with fail
      refine (unhide HPA).mono ?_
      rintro e w1 ⟨v1, rfl, s1, k1⟩
      have HK1 := hide k1
      clear s1 k1
      go_wp2_with fail
      refine (unhide HDB v1 w1 (unhide HK1)).mono ?_
      rintro e w2 ⟨rfl, k2⟩
      have HK2 := hide ((unhide HK1).trans k2 (by simp))
      clear k2
      go_wp2_with fail
      exact ⟨rfl, _, results_tmp2 rfl _ _ _, _, rfl, OwD.zero (unhide HK2)⟩
    · rw [if_neg (by omega), if_neg (by omega)]
      have HDB := hide (fun lv w0 W (k : Kept [] w W) (hs : SpAt w0 W lv (smL i n)) => digests_any z t v lv ps n _ w0 W (hT.old k) (by omega) hb hs (by omega) (hTb.kept k (by simp) (by simp)) (h6.kept k))
      clear hT h2 hb hTb h6
      generalize smL i n = ss at HPA HDB hpl ⊢
      generalize rgL z (leavesK ps) ss = ds at HDB ⊢
      go_enter Tryd.func20, Tryd.ntmps20
      go_wp2_with fail
      refine (unhide HPA).mono ?_
      rintro e w1 ⟨v1, rfl, s1, k1⟩
      have HK1 := hide k1
      have HS1 := hide s1
      clear s1 k1
      go_wp2_with fail
      refine (unhide HDB v1 w w1 (unhide HK1) (unhide HS1)).mono ?_
      rintro e w2 ⟨u, rfl, o2⟩
      have HO2 := hide (o2.back (unhide HK1))
      clear o2
      go_wp2_with fail
      exact ⟨rfl, _, results_tmp2 rfl _ _ _, u, rfl, unhide HO2⟩
end Go.Proofs.YtecadmldnjlibaaDoor
namespace Go.Proofs.YtecadmldnjlibaaDoor
open Go.RowKit Go.BigFrame
set_option linter.unusedVariables false
set_option linter.unusedSimpArgs false

/-- How many nodes a level has. -/
def lvN (N h : Nat) : Nat := (N + 2 ^ h - 1) / 2 ^ h
theorem lt_lvN {N h b : Nat} : b < lvN N h ↔ b * 2 ^ h < N := by
  have hp : 1 ≤ 2 ^ h := Nat.one_le_two_pow
  unfold lvN
  have h1 : b < (N + 2 ^ h - 1) / 2 ^ h ↔ b + 1 ≤ (N + 2 ^ h - 1) / 2 ^ h := Iff.rfl
  rw [h1, Nat.le_div_iff_mul_le (by omega), Nat.add_mul, Nat.one_mul]
  omega
theorem lvN_up (N h : Nat) : lvN N (h + 1) = (lvN N h + 1) / 2 := by
  have key : ∀ j, j < lvN N (h + 1) ↔ j < (lvN N h + 1) / 2 := by
    intro j
    rw [lt_lvN, show j * 2 ^ (h + 1) = (2 * j) * 2 ^ h by rw [Nat.pow_succ, Nat.mul_comm (2 ^ h) 2, ← Nat.mul_assoc, Nat.mul_comm j 2], ← lt_lvN]
    omega
  rcases Nat.lt_trichotomy (lvN N (h + 1)) ((lvN N h + 1) / 2) with h1 | h1 | h1
  · have := (key _).2 h1; omega
  · exact h1
  · have := (key _).1 h1; omega
/-- A level of the tree. -/
def lvl (z : Int) (no : List Nat) (L : List (List Nat)) (h : Nat) : List (List Nat) := (List.range (lvN L.length h)).map fun j => rngD z no L (j * 2 ^ h) (min ((j + 1) * 2 ^ h) L.length)
theorem lvl_len (z : Int) (no : List Nat) (L : List (List Nat)) (h : Nat) : (lvl z no L h).length = lvN L.length h := by unfold lvl; rw [List.length_map, List.length_range]
theorem lvl_at {z : Int} {no : List Nat} {L : List (List Nat)} {h j : Nat} (hj : j * 2 ^ h < L.length) : (lvl z no L h)[j]? = some (rngD z no L (j * 2 ^ h) (min ((j + 1) * 2 ^ h) L.length)) := by
  unfold lvl
  rw [List.getElem?_map, List.getElem?_range (lt_lvN.2 hj)]; rfl
theorem lvl_getD {z : Int} {no : List Nat} {L : List (List Nat)} {h j : Nat} (hj : j * 2 ^ h < L.length) : (lvl z no L h).getD j [] = rngD z no L (j * 2 ^ h) (min ((j + 1) * 2 ^ h) L.length) := by
  rw [List.getD_eq_getElem?_getD, lvl_at hj]; rfl
theorem lvl_zero (z : Int) (no : List Nat) (L : List (List Nat)) : lvl z no L 0 = L := by
  apply List.ext_getElem?
  intro j
  by_cases hj : j < L.length
  · rw [lvl_at (by simpa using hj), List.getElem?_eq_getElem hj]
    have e : min ((j + 1) * 2 ^ 0) L.length = j + 1 := by rw [Nat.pow_zero, Nat.mul_one]; omega
    rw [e, Nat.pow_zero, Nat.mul_one]
    unfold rngD
    rw [Nat.add_sub_cancel_left, List.drop_eq_getElem_cons hj, List.take_succ_cons, List.take_zero, logT_one]
  · rw [List.getElem?_eq_none (by rw [lvl_len]; have := (lt_lvN (N := L.length) (h := 0) (b := j)).1; simp at this; omega), List.getElem?_eq_none (by omega)]
/-- The level above. -/
def upL (z : Int) : List (List Nat) → List (List Nat)
  | a :: b :: r => nodS z a b :: upL z r
  | [a] => [a]
  | [] => []
theorem upL_at (z : Int) : ∀ (ls : List (List Nat)) (j : Nat), (upL z ls)[j]? = if 2 * j + 1 < ls.length then some (nodS z (ls.getD (2 * j) []) (ls.getD (2 * j + 1) [])) else if 2 * j < ls.length then some (ls.getD (2 * j) []) else none
  | [], j => by simp [upL]
  | [a], 0 => by simp [upL]
  | [a], j + 1 => by simp [upL]
  | a :: b :: r, 0 => by simp [upL]
  | a :: b :: r, j + 1 => by
    have ih := upL_at z r j
    rw [upL, List.getElem?_cons_succ, ih]
    simp only [List.length_cons, show 2 * (j + 1) = 2 * j + 1 + 1 by omega, List.getD_cons_succ]
    simp only [Nat.add_lt_add_iff_right]
theorem upL_len (z : Int) : ∀ (ls : List (List Nat)), (upL z ls).length = (ls.length + 1) / 2
  | [] => rfl
  | [a] => by simp [upL]
  | a :: b :: r => by rw [upL, List.length_cons, upL_len z r]; simp; omega
theorem lvl_up (z : Int) (no : List Nat) (L : List (List Nat)) (h : Nat) : upL z (lvl z no L h) = lvl z no L (h + 1) := by
  apply List.ext_getElem?
  intro j
  have hp : 1 ≤ 2 ^ h := Nat.one_le_two_pow
  have hps : 2 ^ (h + 1) = 2 * 2 ^ h := by rw [Nat.pow_succ]; omega
  have ej : j * 2 ^ (h + 1) = 2 * j * 2 ^ h := by rw [hps, ← Nat.mul_assoc, Nat.mul_comm j 2]
  have ej1 : (j + 1) * 2 ^ (h + 1) = 2 * j * 2 ^ h + 2 * 2 ^ h := by rw [hps, Nat.add_mul, Nat.one_mul, ← Nat.mul_assoc, Nat.mul_comm j 2]
  have ek : (2 * j + 1) * 2 ^ h = 2 * j * 2 ^ h + 2 ^ h := by rw [Nat.add_mul, Nat.one_mul]
  have ek1 : (2 * j + 1 + 1) * 2 ^ h = 2 * j * 2 ^ h + 2 * 2 ^ h := by rw [Nat.add_assoc, Nat.add_mul]
  rw [upL_at, lvl_len]
  by_cases h1 : 2 * j + 1 < lvN L.length h
  · have h1' := lt_lvN.1 h1
    rw [if_pos h1, lvl_getD (lt_lvN.1 (by omega)), lvl_getD h1', lvl_at (by rw [ej]; rw [ek] at h1'; omega)]
    rw [ek] at h1'
    rw [ej, ej1, ek, ek1]
    generalize 2 * j * 2 ^ h = lo at h1' ⊢
    have hm : min (lo + 2 ^ h) L.length = lo + 2 ^ h := by omega
    obtain ⟨hi, hhi⟩ : ∃ hi, min (lo + 2 * 2 ^ h) L.length = hi := ⟨_, rfl⟩
    have hi1 : lo + 2 ^ h < hi := by omega
    have hi2 : hi ≤ lo + 2 * 2 ^ h := by omega
    have hi3 : hi ≤ L.length := by omega
    rw [hm, hhi]
    have hbel : belT (hi - lo) = 2 ^ h := by
      unfold belT
      congr 1
      rw [Nat.log2_eq_iff (by omega)]
      omega
    rw [rngD_cut (lo := lo) (hi := hi) (by omega) hi3, hbel]
    rfl
  · rw [if_neg h1]
    by_cases h2 : 2 * j < lvN L.length h
    · have h2' := lt_lvN.1 h2
      have h1' : ¬ (2 * j + 1) * 2 ^ h < L.length := fun hh => h1 (lt_lvN.2 hh)
      rw [if_pos h2, lvl_getD h2', lvl_at (by rw [ej]; exact h2'), ej, ej1, ek]
      rw [ek] at h1'
      congr 2
      omega
    · rw [if_neg h2, List.getElem?_eq_none (by rw [lvl_len, lvN_up]; omega)]
theorem rngD_take {z : Int} {no : List Nat} {L : List (List Nat)} {n lo hi : Nat} (h : hi ≤ n) : rngD z no (L.take n) lo hi = rngD z no L lo hi := by
  unfold rngD
  rw [List.drop_take, List.take_take, Nat.min_eq_left (by omega)]
theorem levs_stop {N i h : Nat} (hi : i < N) (hN : N ≤ 2 ^ h) : ∀ d, levs N i (h + d) = levs N i h
  | 0 => rfl
  | d + 1 => by
    rw [← Nat.add_assoc, levs_succ, levs_stop hi hN d]
    have hpp : 2 ^ h ≤ 2 ^ (h + d) := Nat.pow_le_pow_right (by omega) (by omega)
    have : broS N i (h + d) = none := by
      unfold broS broN
      rw [Nat.div_eq_of_lt (by omega), if_pos rfl, if_neg (by omega)]
    rw [this]; simp
/-- The proof that the reference answers. -/
theorem inD_levs {z : Int} {L : List (List Nat)} {i n : Nat} (hi : i < n) (hn : n ≤ L.length) (h64 : n < 18446744073709551616) : inD z L i n = (levs n i 64).map fun s => rngD z (noT z) (L.take n) s.1 s.2 := by
  unfold inD
  rw [if_neg (by omega), ← path_all hi (by omega)]
  unfold rgL
  apply List.map_congr_left
  intro s hs
  have h1 := pathF_in i 64 0 n s hs
  unfold rgD
  rw [if_neg (by omega), rngD_take h1.2.2]
end Go.Proofs.YtecadmldnjlibaaDoor
namespace Go.Proofs.YtecadmldnjlibaaDoor
open Go.RowKit Go.BigFrame
set_option linter.unusedVariables false
set_option linter.unusedSimpArgs false

def cI (k i : Nat) (d : List Nat) : List Nat := (d.take k ++ List.replicate (i - k) 0) ++ d.drop i
theorem cI_len {k i : Nat} {d : List Nat} (h : k ≤ i) (hi : i ≤ 32) (hd : d.length = 32) : (cI k i d).length = 32 := by simp [cI, hd]; omega
theorem cI_set {k i : Nat} {d : List Nat} (h : k ≤ i) (hi : i < 32) (hd : d.length = 32) : (brow (cI k i d)).setIfInBounds i (.int .u8 0) = brow (cI k (i + 1) d) := by
  have hA : (d.take k ++ List.replicate (i - k) 0).length = i := by simp [hd]; omega
  have e1 : (cI k i d).set i 0 = cI k (i + 1) d := by
    unfold cI
    rw [List.set_append_right _ _ (by omega), hA, Nat.sub_self, List.drop_eq_getElem_cons (show i < d.length by omega), List.set_cons_zero, show i + 1 - k = (i - k) + 1 by omega, List.replicate_succ']
    simp
  rw [← e1]
  unfold brow
  rw [List.setIfInBounds_toArray, List.map_set]
  rfl
theorem cI_end {k : Nat} {d : List Nat} (hd : d.length = 32) : cI k 32 d = cutL k d := by unfold cI cutL; rw [List.drop_eq_nil_of_le (by omega), List.append_nil]
theorem cI_start {k : Nat} {d : List Nat} : cI k k d = d := by simp [cI]

theorem wpList_load_midT {P : Program} {ops : Array Oper} {rest : List Oper} {op : Oper} {a : Act} {w : World} {Q : Exit → Act → World → Prop} (hw : Region.wanted op (yielded ops a.tmps) = true) (ty : TypeId) (x : Operand) (ho : op.op = .load ty x)
    (b o : Nat) (hx : a.eval x = .pointer (some ⟨b, o, none⟩)) (cs : List Value) (d : TypeDesc) (hc : w.rangeAt b o cs)
    (hu : P.underlying ty = some d) (hd : d.isRow = true) (hi : (P.info? ty).map (·.size) = some cs.length)
    (h : wpList P ops Q rest (a.put op.dst (.agg cs.toArray)) w) : wpList P ops Q (op :: rest) a w :=
  wpList_want hw fun _ hK => wp_load_mid ty x ho b o hx cs d hc hu hd hi (hK _ _ h)
theorem RdD_nil {w : World} : RdD w (.slice none 0 0) [] := ⟨none, 0, 0, rfl, rfl, Nat.le_refl _, by omega, fun d hd => by simp at hd, fun h => by omega⟩
theorem cutL_cut2 {k : Nat} {d : List Nat} (hk : k ≤ 32) (hd : d.length = 32) : cutL k (cutL k d) = cutL k d := cutL_cutL k d (by omega)
theorem cut_dg {k : Nat} {d : List Nat} (hk : k ≤ 32) (hd : Dg d) : Dg (cutL k d) := ⟨cutL_len k d hk hd.1, cutL_byte k d hd.2⟩
theorem cut_form {k : Nat} {d : List Nat} (h1 : 1 ≤ k) (hk : k ≤ 32) (hd : Dg d) : formB (k : Int) (cutL k d) = true := by
  have hw : widthB (k : Int) = true := by simp [widthB]; omega
  unfold formB
  rw [hw, Int.toNat_natCast, cutL_cut2 hk hd.1]
  simp

end Go.Proofs.YtecadmldnjlibaaDoor
namespace Go.Proofs.YtecadmldnjlibaaDoor
open Go.RowKit Go.BigFrame
set_option linter.unusedVariables false
set_option linter.unusedSimpArgs false

/-- What the statements' tree answers. -/
def TrD (z : Int) (ls : List (List Nat)) (w : World) (e : Ending) (w' : World) : Prop :=
  (widthB z = false → e = .returned (.tuple #[.pointer none, .slice none 0 0, .bool false]) ∧ Kept [] w w') ∧
  (widthB z = true → ∃ t v qs u, e = .returned (.tuple #[.pointer (some ⟨t, 0, none⟩), u, .bool true]) ∧ TreeAt z w' t v qs ∧ leavesK qs = ls.map (cutL z.toNat) ∧ OwD w w' u (ls.map (cutL z.toNat)))
theorem cut_all {k : Nat} (h1 : 1 ≤ k) (h2 : k ≤ 32) {ls : List (List Nat)} (h : ∀ d ∈ ls, Dg d) : (ls.map (cutL k)).all (formB (k : Int)) = true := by
  rw [List.all_eq_true]
  intro x hx
  obtain ⟨d, hd, rfl⟩ := List.mem_map.1 hx
  exact cut_form h1 h2 (h d hd)

set_option maxRecDepth 100000 in
set_option maxHeartbeats 1000000 in
theorem tree_bad (z : Int) (lv : Value) (ls : List (List Nat)) (w : World) (hz : -9223372036854775808 ≤ z ∧ z ≤ 9223372036854775807) (hw : widthB z = false) :
    Calls Tryd.prog 16 #[.int .i64 z, lv] w (TrD z ls w) := by
  have HW := hide (rwidth_any z w hz)
  rw [hw] at HW
  have HF := hide hw
  clear hw hz
  go_enter Tryd.func16, Tryd.ntmps16
  go_wp2_with fail
  refine (unhide HW).mono ?_
  rintro e w1 ⟨rfl, rfl⟩
  go_wp2_with fail
  exact ⟨rfl, _, results_tmp3 rfl _ _ _, fun _ => ⟨rfl, Kept.refl _ _⟩, fun h => by rw [unhide HF] at h; simp at h⟩

set_option maxRecDepth 100000 in
set_option maxHeartbeats 1000000 in
theorem tree_ok (k : Nat) (lv : Value) (ls : List (List Nat)) (w : World) (h1 : 1 ≤ k) (h2 : k ≤ 32) (hl : RdD w lv ls) (hN : ls.length ≤ 1000000) (hT : Tabs w) (h6 : Tab6 w) :
    Calls Tryd.prog 16 #[.int .i64 (k : Int), lv] w (TrD (k : Int) ls w) := by
  have hwb : widthB (k : Int) = true := by simp [widthB]; omega
  have HW := hide (rwidth_any (k : Int) w (by omega))
  rw [hwb] at HW
  have HWB := hide hwb
  have HTB := hide hT
  have H6 := hide h6
  have HL := hide hl
  have HDG := hide (fun d hd => hl.dg (d := d) hd)
  obtain ⟨la, ll, lc, rfl, l1, l2, l3, l4, l5⟩ := hl
  subst l1
  clear hT h6 l4 l5 hwb
  go_enter Tryd.func16, Tryd.ntmps16
  go_wp2_with fail
  refine (unhide HW).mono ?_
  rintro e w1 ⟨rfl, rfl⟩
  go_wp2_with fail
  go_loopw [7, 18] (fun t7 t18 wr => ∃ (i : Nat), i ≤ ls.length ∧ t18 = .int .i64 (i : Int) ∧ Hid (OwD w1 wr t7 ((ls.take i).map (cutL k)))) (fun _ t _ => ls.length - (intOf t).toNat)
  case atStart => exact ⟨0, Nat.zero_le _, rfl, hide (OwD.nil _)⟩
  case round =>
    obtain ⟨i, hi, rfl, HO⟩ := hrel
    by_cases hlt : i < ls.length
    · have hlt' : (i : Int) < (ls.length : Int) := by omega
      obtain ⟨_, _, _, he, hel, _, _, _, hcell⟩ := (unhide HL).old (unhide HO).kept
      cases he
      obtain ⟨b, o, rfl, hc⟩ := hcell (by omega)
      have HC := hide (hc i hlt)
      have hgd : ls.getD i [] = ls[i] := by rw [List.getD_eq_getElem?_getD, List.getElem?_eq_getElem hlt]; rfl
      rw [hgd] at HC
      have HDi := hide (unhide HDG ls[i] (List.getElem_mem hlt))
      have HSN := hide (by rw [List.take_add_one, List.getElem?_eq_getElem hlt, List.map_append]; rfl : (ls.take (i + 1)).map (cutL k) = (ls.take i).map (cutL k) ++ [cutL k ls[i]])
      have HLN := hide (by rw [List.length_map, List.length_take]; omega : ((ls.take i).map (cutL k)).length + 1 ≤ 10000000)
      generalize ls[i] = d at HC HDi HSN
      generalize (ls.take i).map (cutL k) = ds at HO HSN HLN
      have hdl := (unhide HDi).1
      have HCE := hide (cI_end (k := k) hdl)
      have hcl := cutL_len k d h2 hdl
      have HCD := hide (cut_dg h2 (unhide HDi))
      obtain ⟨ua, ucap, rfl⟩ := owns_form (unhide HO).own
      have ia : ¬ (i : Int) < 0 := by omega
      have ib : ¬ (ls.length : Int) ≤ i := by omega
      clear hc hcell hel
      obtain ⟨wx, hwx⟩ : ∃ wx, wx = wr := ⟨_, rfl⟩
      subst hwx
      have HN0 := hide (cell_new wx d)
      have HK0 := hide (kept_old wx d)
      obtain ⟨wb, hwb⟩ : ∃ wb, (wx.alloc (.cells (zb 32) 41)).setRow wx.heap.size (brow d) = wb := ⟨_, rfl⟩
      rw [hwb] at HN0 HK0
      have HWBE := hide hwb
      clear hwb
      go_wp2_with (first
        | (refine wpList_load_mid rfl 41 _ rfl b (o + i * 32) rfl (d.map u8) _ (unhide HC) Tryd.underlying41 rfl (by rw [List.length_map, hdl]; exact Tryd.size_dig) ?_)
        | (rw [zb32]; refine wpList_store_row rfl 41 (.tmp 9) _ rfl wx.heap.size (brow d) rfl rfl _ (zb 32) (heap_alloc_new _ _) (Tryd.szD hdl) (by rw [zb_size, brow_size, hdl]) (brow_one _) ?_; rw [unhide HWBE]))
      go_loopw [10] (fun t wq => ∃ (j : Nat), k ≤ j ∧ j ≤ 32 ∧ t = .int .i64 j ∧ Hid (wq.heap[wx.heap.size]? = some (.cells (brow (cI k j d)) 41 (0, 0))) ∧ Hid (Kept [] wx wq)) (fun t _ => 32 - (intOf t).toNat)
      case atStart => exact ⟨k, Nat.le_refl _, h2, rfl, hide (by rw [cI_start]; exact unhide HN0), HK0⟩
      case round =>
        obtain ⟨j, hj1, hj2, rfl, HG, HKr⟩ := hrel
        by_cases hjl : j < 32
        · have hjl' : (j : Int) < 32 := by omega
          have q0 := brow_cell (unhide HG) j (by rw [cI_len hj1 hj2 hdl]; exact hjl)
          simp only [Go.Proofs.YtecadmldnjlibaaDoor.u8] at q0
          have z0 : wr.frozen? ⟨wx.heap.size, j, none⟩ = false := frozen_of_row _ _ _ _ _ (unhide HG)
          have HG2 := hide (by have h9 := heap_setCell_same wr wx.heap.size j _ 41 (.int .u8 0) (unhide HG); rw [cI_set hj1 hjl hdl] at h9; exact h9 : (wr.setCell ⟨wx.heap.size, j, none⟩ (.int .u8 0)).heap[wx.heap.size]? = some (.cells (brow (cI k (j + 1) d)) 41 (0, 0)))
          have HK2 := hide ((unhide HKr).setCell (p := ⟨wx.heap.size, j, none⟩) (Or.inr (Nat.le_refl _)) (.int .u8 0))
          go_wp2_with fail
          refine ⟨⟨j + 1, by omega, by omega, by go_num, HG2, HK2⟩, ?_⟩
          simp [intOf]; omega
        · have hjl' : ¬ (j : Int) < 32 := by omega
          have hj32 : j = 32 := by omega
          subst hj32
          rw [unhide HCE] at HG
          have HOB := hide ((unhide HO).pass (unhide HKr))
          have HOC := hide ((unhide HOB).pass ((Kept.refl [] wr).alloc (.cells (brow (cutL k d)) 41)))
          have HNC := hide (heap_alloc_new wr (.cells (brow (cutL k d)) 41))
          generalize cutL k d = D at HG HOC HNC HSN hcl HCD
          go_wp2_with (first
            | (refine wpList_load_mid rfl 41 _ rfl wx.heap.size 0 rfl (D.map u8) _ (range_row (unhide HG)) Tryd.underlying41 rfl (by rw [List.length_map, hcl]; exact Tryd.size_dig) ?_)
            | (at_builtin; rw [zb32, one_digP D hcl]; refine wpList_appendD rfl _ _ rfl rfl (wr.alloc (.cells (brow D) 41)) w1.heap.size (.slice ua ds.length ucap) ds [D] (some ⟨wr.heap.size, 0, none⟩) 1 1 (unhide HOC).own (RdD.oneP (unhide HNC) (unhide HCD)) (by have := unhide HLN; simp; omega) (unhide HOC).kept.size rfl rfl ?_; intro ao3 cap3 w3 HO3 HG3; have HO4 := hide ((unhide HOC).push (unhide HCD) (unhide HO3) (unhide HG3)); clear HO3 HG3))
          go_roundw
          case rel => exact ⟨i + 1, by omega, by simp, by rw [unhide HSN]; exact HO4⟩
          case measure => simp [intOf]; omega
    · have hlt' : ¬ (i : Int) < (ls.length : Int) := by omega
      have HE := hide (by rw [List.take_of_length_le (by omega)] : ls.take i = ls)
      rw [unhide HE] at HO
      go_wp2_with fail
      refine (newT_any (k : Int) wr (unhide HWB)).mono ?_
      rintro e w2 ⟨t0, rfl, _, tr2, k2⟩
      have HT2 := hide tr2
      have HO2 := hide ((unhide HO).pass k2)
      clear tr2 k2 HO
      go_wp2_with fail
      refine (appendT_any (k : Int) t0 (.slice none 0 0) u7 [] (ls.map (cutL k)) w2 (unhide HT2) (fun _ => rfl) (unhide HO2).rd (by simp [leavesK]; omega) ((unhide HTB).kept (unhide HO2).kept (by simp) (by simp)) ((unhide H6).kept (unhide HO2).kept)).mono ?_
      rintro e w3 ⟨hg1, _, k3⟩
      obtain ⟨t3, v3, qs3, rfl, _, tr3, lv3, _⟩ := hg1 (cut_all h1 h2 (unhide HDG))
      have HT3 := hide tr3
      have HL3 := hide lv3
      have HO3 := hide ((unhide HO2).pass k3)
      clear tr3 lv3 k3 HO2 hg1
      go_wp2_with fail
      refine ⟨rfl, _, results_tmp3 rfl _ _ _, fun h => by rw [unhide HWB] at h; simp at h, fun _ => ⟨t3, v3, qs3, u7, rfl, unhide HT3, by rw [unhide HL3]; simp [leavesK], by rw [Int.toNat_natCast]; exact unhide HO3⟩⟩
end Go.Proofs.YtecadmldnjlibaaDoor
namespace Go.Proofs.YtecadmldnjlibaaDoor
open Go.RowKit Go.BigFrame
set_option linter.unusedVariables false
set_option linter.unusedSimpArgs false

set_option maxRecDepth 100000 in
set_option maxHeartbeats 400000 in
theorem below64_any (k : Nat) (w : World) (h2 : 2 ≤ k) (hk : k < 18446744073709551616) :
    Calls Tryd.prog 39 #[.int .u64 k] w fun e w' => e = .returned (.int .u64 (belT k)) ∧ w' = w := by
  have hs : IntKind.u64.wrap ((k : Int) - 1) = ((k - 1 : Nat) : Int) := by rw [wrM]; omega
  have HB := hide (fun j (h : 2 ^ j ≤ k - 1) (h' : k - 1 < 2 ^ (j + 1)) => (by unfold belT; rw [(Nat.log2_eq_iff (by omega)).2 ⟨h, h'⟩] : belT k = 2 ^ j))
  obtain ⟨k1, hk1⟩ : ∃ k1, k - 1 = k1 := ⟨_, rfl⟩
  rw [hk1] at hs HB
  have h1 : 1 ≤ k1 := by omega
  have h3 : k1 < 18446744073709551616 := by omega
  obtain ⟨B, hBe⟩ : ∃ B, belT k = B := ⟨_, rfl⟩
  rw [hBe] at HB ⊢
  clear hBe hk1
  go_enter Tryd.func39, Tryd.ntmps39
  go_wp2_with fail
  go_loopw [3] (fun t3 wr => ∃ (m : Nat), t3 = .int .u64 (m : Int) ∧ 1 ≤ m ∧ m ≤ k1 ∧ Hid (∃ j, m = 2 ^ j) ∧ wr = w) (fun t _ => k1 - (intOf t).toNat)
  case atStart => exact ⟨1, rfl, by omega, by omega, hide ⟨0, rfl⟩, rfl⟩
  case round =>
    obtain ⟨m, rfl, hm1, hm2, HJ, rfl⟩ := hrel
    by_cases hle : 2 * m ≤ k1
    · have hle' : (m : Int) ≤ (k1 : Int) / 2 := by omega
      have hmul : IntKind.u64.wrap ((m : Int) * 2) = ((2 * m : Nat) : Int) := by rw [wrM]; omega
      have HJ2 := hide (by obtain ⟨j, hj⟩ := unhide HJ; exact ⟨j + 1, by rw [Nat.pow_succ]; omega⟩ : ∃ j, 2 * m = 2 ^ j)
      go_wp2_with (first | simp only [hs] | simp only [hmul])
      refine ⟨⟨2 * m, rfl, by omega, by omega, HJ2, by trivial⟩, ?_⟩
      simp [intOf]
      omega
    · have hle' : ¬ (m : Int) ≤ (k1 : Int) / 2 := by omega
      have HE := hide (by obtain ⟨j, hj⟩ := unhide HJ; rw [hj]; exact unhide HB j (by omega) (by rw [Nat.pow_succ]; omega) : B = m)
      go_wp2_with (simp only [hs])
      go_ret
      exact ⟨by rw [unhide HE]; rfl, rfl⟩

theorem stL_le : ∀ (c i n : Nat), stL c i n ≤ c
  | 0, _, _ => Nat.le_refl _
  | c + 1, i, n => by
    unfold stL
    have := stL_le c (i / 2) (n / 2 + n % 2)
    split
    · omega
    · split <;> omega
theorem stL_one (c i n : Nat) (h : n ≤ 1) : stL c i n = 0 := by
  cases c with
  | zero => rfl
  | succ c => unfold stL; rw [if_pos h]

end Go.Proofs.YtecadmldnjlibaaDoor
namespace Go.Proofs.YtecadmldnjlibaaDoor
open Go.RowKit Go.BigFrame
set_option linter.unusedVariables false
set_option linter.unusedSimpArgs false

theorem sinL_le : ∀ (c m n : Nat) (wh : Bool), sinL c m n wh ≤ c + 1
  | 0, _, _, wh => by unfold sinL; split <;> omega
  | c + 1, m, n, wh => by
    unfold sinL
    have h1 := sinL_le c m (belT n) wh
    have h2 := sinL_le c (m - belT n) (n - belT n) false
    split
    · split <;> omega
    · split <;> omega
theorem sinL_end (c m : Nat) (wh : Bool) : sinL c m m wh = if wh then 0 else 1 := by
  cases c with
  | zero => rfl
  | succ c => unfold sinL; rw [if_pos rfl]

theorem smL_len {m n : Nat} (hm : m ≤ n) (hn : n < 18446744073709551616) : (smL m n).length = if m = 0 then 0 else sinL 64 m n true := by
  unfold smL
  by_cases h0 : m = 0
  · rw [if_pos (Or.inl h0), if_pos h0]; rfl
  · rw [if_neg h0]
    by_cases h1 : m = n
    · rw [if_pos (Or.inr h1), h1, sinL_end]; rfl
    · rw [if_neg (by omega), seam_sin m 64 0 n true (by omega) hm (by omega)]; simp
theorem cntA_eq {i m n : Nat} (hi : i < n) (hm : m ≤ n) (hn : n < 18446744073709551616) : cntA i m n = (stL 64 i n : Int) := by
  unfold cntA
  rw [if_neg (by omega), path_all hi (by omega), levs_steps 64 i n hi (by omega)]

end Go.Proofs.YtecadmldnjlibaaDoor
namespace Go.Proofs.YtecadmldnjlibaaDoor
open Go.RowKit Go.BigFrame
set_option linter.unusedVariables false
set_option linter.unusedSimpArgs false

theorem RdD.flat {w : World} {g : Nat} {ds : List (List Nat)} {t : TypeId} {fr : Nat × Nat} (h : w.heap[g]? = some (.cells (flatD ds).toArray t fr)) (hd : ∀ d ∈ ds, Dg d) (n : Nat) (hn : ds.length = n) (hs : n ≤ 1000000) : RdD w (.slice (some ⟨g, 0, none⟩) n n) ds := by
  subst hn
  refine ⟨_, _, _, rfl, rfl, Nat.le_refl _, by omega, hd, fun _ => ⟨g, 0, rfl, fun i hi => ?_⟩⟩
  intro j v hv
  have hj : j < 32 := by
    have := (List.getElem?_eq_some_iff.1 hv).1
    rw [List.length_map, List.getD_eq_getElem?_getD, List.getElem?_eq_getElem hi] at this
    rw [← (hd ds[i] (List.getElem_mem hi)).1]; exact this
  have hq := flatD_at (fun d hd' => (hd d hd').1) i hi j hj
  rw [Nat.zero_add, cell_of_row _ _ _ _ _ _ h, List.getElem?_toArray, hq]
  exact hv
theorem RdD.range {w : World} {ao : Option Addr} {n c : Nat} {ds : List (List Nat)} (h : RdD w (.slice ao n c) ds) (hp : 0 < ds.length) : ∃ b o, ao = some ⟨b, o, none⟩ ∧ ∀ i, i < ds.length → w.rangeAt b (o + i * 32) ((ds.getD i []).map u8) := by
  obtain ⟨_, _, _, e, h1, h2, h3, h4, h5⟩ := h
  cases e
  obtain ⟨b, o, e, hc⟩ := h5 (by omega)
  exact ⟨b, o, e, fun i hi => hc i (by omega)⟩

def e1 : List Nat := 1 :: List.replicate 31 0
def e2 : List Nat := 2 :: List.replicate 31 0
def e3 : List Nat := 3 :: List.replicate 31 0
theorem e_dg : ∀ d ∈ [e1, e2, e3], Dg d := by
  intro d hd
  simp only [List.mem_cons, List.not_mem_nil, or_false] at hd
  rcases hd with rfl | rfl | rfl <;> exact ⟨rfl, by decide⟩
theorem e_cut : [e1, e2, e3].map (cutL 4) = [e1, e2, e3] := by decide +kernel
theorem e_path : pathF 2 64 0 3 = [(0, 2)] := by decide +kernel
theorem e_seam : smL 1 3 = [(1, 2), (2, 3)] := by decide +kernel
theorem e_in : inD 4 [e1, e2, e3] 2 3 = [nodS 4 e1 e2] := by
  unfold inD
  rw [if_neg (by decide), e_path]
  unfold rgL
  rw [List.map_cons, List.map_nil]
  unfold rgD
  rw [if_neg (by decide), rngD_cut (by decide) (by decide)]
  rfl
theorem e_cs : csD 4 [e1, e2, e3] 1 3 = [e2, e3] := by
  unfold csD
  rw [if_neg (by decide), e_seam]
  rfl

set_option maxRecDepth 100000 in
set_option maxHeartbeats 1000000 in
theorem mpawake_any (w : World) (hT : Tabs w) (h6 : Tab6 w) :
    Calls Tryd.prog 15 #[] w fun e w' => e = .returned (.bool true) ∧ Kept [] w w' := by
  have HTB := hide hT
  have H6 := hide h6
  clear hT h6
  go_enter Tryd.func15, Tryd.ntmps15
  go_wp2_with fail
  have kA := (Kept.refl [] w).alloc (.cells (flatD [e1, e2, e3]).toArray 41)
  have HTR := hide (tree_ok 4 (.slice (some ⟨w.heap.size, 0, none⟩) 3 3) [e1, e2, e3] _ (by decide) (by decide) (RdD.flat (heap_alloc_new w (.cells (flatD [e1, e2, e3]).toArray 41)) e_dg 3 rfl (by decide)) (by decide) ((unhide HTB).kept kA (by simp) (by simp)) ((unhide H6).kept kA))
  have HKA := hide kA
  clear kA
  refine Calls.mono (unhide HTR) ?_
  rintro e w1 ⟨_, h9⟩
  obtain ⟨t, v, qs, u, rfl, tr, lv, ow⟩ := h9 (by decide)
  rw [show ((4 : Nat) : Int).toNat = 4 from rfl, e_cut] at lv ow
  have HT1 := hide tr
  have HLV := hide lv
  have HO1 := hide (ow.back (unhide HKA))
  have HB := hide (by rw [lv]; decide : (leavesK qs).length < 32768)
  clear h9 tr lv ow HTR HKA
  obtain ⟨ua, uc, rfl⟩ := (unhide HO1).form
  go_wp2_with fail
  refine (mincl_any 4 t v qs 2 3 w1 (unhide HT1) (unhide HB) ((unhide HTB).kept (unhide HO1).kept (by simp) (by simp)) ((unhide H6).kept (unhide HO1).kept) (by decide)).mono ?_
  rintro e w2 ⟨p, rfl, o2⟩
  rw [unhide HLV, e_in] at o2
  rw [show inE (leavesK qs) 2 3 = 0 from by rw [unhide HLV]; rfl]
  have HO2 := hide o2
  have HT2 := hide ((unhide HT1).old o2.kept)
  have HOA2 := hide ((unhide HO1).pass o2.kept)
  clear o2 HO1 HT1
  obtain ⟨pa, pc, rfl⟩ := (unhide HO2).form
  go_wp2_with fail
  refine (mcons_any 4 t v qs 1 3 w2 (unhide HT2) (unhide HB) ((unhide HTB).kept (unhide HOA2).kept (by simp) (by simp)) ((unhide H6).kept (unhide HOA2).kept) (by decide)).mono ?_
  rintro e w3 ⟨q, rfl, o3⟩
  rw [unhide HLV, e_cs] at o3
  rw [show csE (leavesK qs) 1 3 = 0 from by rw [unhide HLV]; rfl]
  have HO3 := hide o3
  have HP3 := hide ((unhide HO2).pass o3.kept)
  have HOA3 := hide ((unhide HOA2).pass o3.kept)
  clear o3 HO2 HT2 HOA2
  obtain ⟨qa, qc, rfl⟩ := (unhide HO3).form
  go_wp2_with fail
  refine (counts_any 2 1 3 w3 (by decide) (by decide) (by decide)).mono ?_
  rintro e w4 ⟨rfl, k4⟩
  rw [show cntA 2 1 3 = 1 from by decide +kernel, show cntB 2 1 3 = 2 from by decide +kernel, show cntE 2 1 3 = 0 from rfl]
  have HQ4 := hide ((unhide HO3).pass k4)
  have HP4 := hide ((unhide HP3).pass k4)
  have HL4 := hide ((unhide HOA3).pass k4)
  clear k4 HO3 HP3 HOA3
  obtain ⟨pb, po, rfl, prd⟩ := (unhide HP4).rd.range (by decide)
  obtain ⟨qb, qo, rfl, qrd⟩ := (unhide HQ4).rd.range (by decide)
  obtain ⟨ub, uo, rfl, urd⟩ := (unhide HL4).rd.range (by decide)
  have p0 := prd 0 (by decide)
  have q0 := qrd 0 (by decide)
  have q1 := qrd 1 (by decide)
  have u0 := urd 0 (by decide)
  have u1 := urd 1 (by decide)
  have u2 := urd 2 (by decide)
  simp only [List.getD_cons_zero, List.getD_cons_succ, Nat.zero_mul, Nat.add_zero, Nat.one_mul] at p0 q0 q1 u0 u1 u2
  have HND := hide (fun w' (hw' : Kept [] w4 w') => (refNode_any 4 e1 e2 w' (by decide) (e_dg e1 (by simp)) (e_dg e2 (by simp))).mono (fun e w2 h2 => ⟨h2.1, hw'.trans h2.2 (by simp)⟩) : ∀ w', Kept [] w4 w' → Calls Tryd.prog 30 #[.int .i64 ((4 : Nat) : Int), .agg (brow e1), .agg (brow e2)] w' fun e w2 => e = .returned (.agg (brow (nodS 4 e1 e2))) ∧ Kept [] w4 w2)
  have hN := (nodS_dg 4 e1 e2).1
  generalize nodS 4 e1 e2 = N at p0 HND hN
  have he1 : e1.length = 32 := rfl
  have he2 : e2.length = 32 := rfl
  have he3 : e3.length = 32 := rfl
  have u2 : w4.rangeAt ub (uo + 64) (e3.map u8) := u2
  have hqN := fun W => dig_eq W N N hN hN
  have hq2 := fun W => dig_eq W e2 e2 he2 he2
  have hq3 := fun W => dig_eq W e3 e3 he3 he3
  rw [decide_eq_true rfl] at hqN hq2 hq3
  have hne : ∀ p : Prop, (∀ w', Kept [] w4 w' → p) = p := fun p => propext ⟨fun h => h w4 (Kept.refl [] w4), fun h _ _ => h⟩
  go_wp2_with fail
  refine wp_region_keep (by kernel_rfl) (by kernel_rfl) ?_
  iterate 2 (go_big_quiet_step (fail))
  refine wpQuiet_mid rfl 41 _ rfl pb (po) rfl (N.map u8) _ (fun w' hw' => range_kept p0 hw' (by simp)) Tryd.underlying41 rfl (by rw [List.length_map, hN]; exact Tryd.size_dig) ?_
  simp only [Act.put, List.setIfInBounds_toArray, List.set_cons_succ, List.set_cons_zero]
  iterate 2 (go_big_quiet_step (fail))
  refine wpQuiet_mid rfl 41 _ rfl ub (uo) rfl (e1.map u8) _ (fun w' hw' => range_kept u0 hw' (by simp)) Tryd.underlying41 rfl (by rw [List.length_map, he1]; exact Tryd.size_dig) ?_
  simp only [Act.put, List.setIfInBounds_toArray, List.set_cons_succ, List.set_cons_zero]
  iterate 2 (go_big_quiet_step (fail))
  refine wpQuiet_mid rfl 41 _ rfl ub (uo + 32) rfl (e2.map u8) _ (fun w' hw' => range_kept u1 hw' (by simp)) Tryd.underlying41 rfl (by rw [List.length_map, he2]; exact Tryd.size_dig) ?_
  simp only [Act.put, List.setIfInBounds_toArray, List.set_cons_succ, List.set_cons_zero]
  go_big_quiet_want
  go_big_quiet_op
  apply Exists.intro
  refine ⟨fun w' hw' => ?_, ?_⟩
  · exact unhide HND w' hw'
  go_big_quiet_on
  refine wpQuiet_val rfl (.bool true) (fun w' hw' => run_eql 41 (.tmp 67) (.tmp 74) _ rfl (brow N) (brow N) rfl rfl w' true (by kernel_rfl) (hqN w')) ?_
  simp only [Act.put, List.setIfInBounds_toArray, List.set_cons_succ, List.set_cons_zero]
  iterate 3 (go_big_quiet_step (fail))
  refine wpQuiet_mid rfl 41 _ rfl qb (qo) rfl (e2.map u8) _ (fun w' hw' => range_kept q0 hw' (by simp)) Tryd.underlying41 rfl (by rw [List.length_map, he2]; exact Tryd.size_dig) ?_
  simp only [Act.put, List.setIfInBounds_toArray, List.set_cons_succ, List.set_cons_zero]
  iterate 2 (go_big_quiet_step (fail))
  refine wpQuiet_mid rfl 41 _ rfl ub (uo + 32) rfl (e2.map u8) _ (fun w' hw' => range_kept u1 hw' (by simp)) Tryd.underlying41 rfl (by rw [List.length_map, he2]; exact Tryd.size_dig) ?_
  simp only [Act.put, List.setIfInBounds_toArray, List.set_cons_succ, List.set_cons_zero]
  refine wpQuiet_val rfl (.bool true) (fun w' hw' => run_eql 41 (.tmp 79) (.tmp 82) _ rfl (brow e2) (brow e2) rfl rfl w' true (by kernel_rfl) (hq2 w')) ?_
  simp only [Act.put, List.setIfInBounds_toArray, List.set_cons_succ, List.set_cons_zero]
  iterate 4 (go_big_quiet_step (fail))
  refine wpQuiet_mid rfl 41 _ rfl qb (qo + 32) rfl (e3.map u8) _ (fun w' hw' => range_kept q1 hw' (by simp)) Tryd.underlying41 rfl (by rw [List.length_map, he3]; exact Tryd.size_dig) ?_
  simp only [Act.put, List.setIfInBounds_toArray, List.set_cons_succ, List.set_cons_zero]
  iterate 2 (go_big_quiet_step (fail))
  refine wpQuiet_mid rfl 41 _ rfl ub (uo + 64) rfl (e3.map u8) _ (fun w' hw' => range_kept u2 hw' (by simp)) Tryd.underlying41 rfl (by rw [List.length_map, he3]; exact Tryd.size_dig) ?_
  simp only [Act.put, List.setIfInBounds_toArray, List.set_cons_succ, List.set_cons_zero]
  refine wpQuiet_val rfl (.bool true) (fun w' hw' => run_eql 41 (.tmp 88) (.tmp 91) _ rfl (brow e3) (brow e3) rfl rfl w' true (by kernel_rfl) (hq3 w')) ?_
  simp only [Act.put, List.setIfInBounds_toArray, List.set_cons_succ, List.set_cons_zero]
  repeat (go_big_quiet_step (fail))
  refine wpQuiet_nil ?_
  intro w7 hw7
  have HK7 := hide ((unhide HL4).kept.trans hw7 (by simp))
  clear hw7
  go_wp2
  go_ret
  exact ⟨rfl, unhide HK7⟩
end Go.Proofs.YtecadmldnjlibaaDoor
/-
  Laws for drawn regions, by genreg.py. No program.
-/
namespace Go.Proofs.YtecadmldnjlibaaDoor
open Go Go.RowKit Go.BigFrame
set_option linter.unusedVariables false
set_option linter.unusedSimpArgs false
section
variable {P : Program} {Q : Exit → Act → World → Prop}
theorem wp_mu15 {id : Nat} {o0 o1 o2 o3 o4 o5 o6 o7 o8 o9 o10 o11 o12 o13 o14 : Oper} {a : Act} {w : World} (hm : P.follows .mixedOrders = true) (hs : Region.noSelect #[o0, o1, o2, o3, o4, o5, o6, o7, o8, o9, o10, o11, o12, o13, o14] = true)
    (f0 : Region.free .any #[o0, o1, o2, o3, o4, o5, o6, o7, o8, o9, o10, o11, o12, o13, o14] #[false, false, false, false, false, false, false, false, false, false, false, false, false, false, false] 0 = true) (r0 : (Region.ready .any #[o0, o1, o2, o3, o4, o5, o6, o7, o8, o9, o10, o11, o12, o13, o14] #[false, false, false, false, false, false, false, false, false, false, false, false, false, false, false]).contains 0 = true)
    (f1 : Region.free .any #[o0, o1, o2, o3, o4, o5, o6, o7, o8, o9, o10, o11, o12, o13, o14] #[true, false, false, false, false, false, false, false, false, false, false, false, false, false, false] 1 = true) (r1 : (Region.ready .any #[o0, o1, o2, o3, o4, o5, o6, o7, o8, o9, o10, o11, o12, o13, o14] #[true, false, false, false, false, false, false, false, false, false, false, false, false, false, false]).contains 1 = true)
    (f2 : Region.free .any #[o0, o1, o2, o3, o4, o5, o6, o7, o8, o9, o10, o11, o12, o13, o14] #[true, true, false, false, false, false, false, false, false, false, false, false, false, false, false] 2 = true) (r2 : (Region.ready .any #[o0, o1, o2, o3, o4, o5, o6, o7, o8, o9, o10, o11, o12, o13, o14] #[true, true, false, false, false, false, false, false, false, false, false, false, false, false, false]).contains 2 = true)
    (f3 : Region.free .any #[o0, o1, o2, o3, o4, o5, o6, o7, o8, o9, o10, o11, o12, o13, o14] #[true, true, true, false, false, false, false, false, false, false, false, false, false, false, false] 3 = true) (r3 : (Region.ready .any #[o0, o1, o2, o3, o4, o5, o6, o7, o8, o9, o10, o11, o12, o13, o14] #[true, true, true, false, false, false, false, false, false, false, false, false, false, false, false]).contains 3 = true)
    (f4 : Region.free .any #[o0, o1, o2, o3, o4, o5, o6, o7, o8, o9, o10, o11, o12, o13, o14] #[true, true, true, true, false, false, false, false, false, false, false, false, false, false, false] 4 = true) (r4 : (Region.ready .any #[o0, o1, o2, o3, o4, o5, o6, o7, o8, o9, o10, o11, o12, o13, o14] #[true, true, true, true, false, false, false, false, false, false, false, false, false, false, false]).contains 4 = true)
    (f5 : Region.free .any #[o0, o1, o2, o3, o4, o5, o6, o7, o8, o9, o10, o11, o12, o13, o14] #[true, true, true, true, true, false, false, false, false, false, false, false, false, false, false] 5 = true) (r5 : (Region.ready .any #[o0, o1, o2, o3, o4, o5, o6, o7, o8, o9, o10, o11, o12, o13, o14] #[true, true, true, true, true, false, false, false, false, false, false, false, false, false, false]).contains 5 = true)
    (f6 : Region.free .any #[o0, o1, o2, o3, o4, o5, o6, o7, o8, o9, o10, o11, o12, o13, o14] #[true, true, true, true, true, true, false, false, false, false, false, false, false, false, false] 6 = true) (r6 : (Region.ready .any #[o0, o1, o2, o3, o4, o5, o6, o7, o8, o9, o10, o11, o12, o13, o14] #[true, true, true, true, true, true, false, false, false, false, false, false, false, false, false]).contains 6 = true)
    (f7 : Region.free .any #[o0, o1, o2, o3, o4, o5, o6, o7, o8, o9, o10, o11, o12, o13, o14] #[true, true, true, true, true, true, true, false, false, false, false, false, false, false, false] 7 = true) (r7 : (Region.ready .any #[o0, o1, o2, o3, o4, o5, o6, o7, o8, o9, o10, o11, o12, o13, o14] #[true, true, true, true, true, true, true, false, false, false, false, false, false, false, false]).contains 7 = true)
    (f8 : Region.free .any #[o0, o1, o2, o3, o4, o5, o6, o7, o8, o9, o10, o11, o12, o13, o14] #[true, true, true, true, true, true, true, true, false, false, false, false, false, false, false] 8 = true) (r8 : (Region.ready .any #[o0, o1, o2, o3, o4, o5, o6, o7, o8, o9, o10, o11, o12, o13, o14] #[true, true, true, true, true, true, true, true, false, false, false, false, false, false, false]).contains 8 = true)
    (f9 : Region.free .any #[o0, o1, o2, o3, o4, o5, o6, o7, o8, o9, o10, o11, o12, o13, o14] #[true, true, true, true, true, true, true, true, true, false, false, false, false, false, false] 9 = true) (r9 : (Region.ready .any #[o0, o1, o2, o3, o4, o5, o6, o7, o8, o9, o10, o11, o12, o13, o14] #[true, true, true, true, true, true, true, true, true, false, false, false, false, false, false]).contains 9 = true)
    (f10 : Region.free .any #[o0, o1, o2, o3, o4, o5, o6, o7, o8, o9, o10, o11, o12, o13, o14] #[true, true, true, true, true, true, true, true, true, true, false, false, false, false, false] 10 = true) (r10 : (Region.ready .any #[o0, o1, o2, o3, o4, o5, o6, o7, o8, o9, o10, o11, o12, o13, o14] #[true, true, true, true, true, true, true, true, true, true, false, false, false, false, false]).contains 10 = true)
    (q_ : Region.ready .any #[o0, o1, o2, o3, o4, o5, o6, o7, o8, o9, o10, o11, o12, o13, o14] #[true, true, true, true, true, true, true, true, true, true, true, false, false, false, false] = [11])
    (q11_ : Region.ready .any #[o0, o1, o2, o3, o4, o5, o6, o7, o8, o9, o10, o11, o12, o13, o14] #[true, true, true, true, true, true, true, true, true, true, true, true, false, false, false] = [12])
    (q11_12_ : Region.ready .any #[o0, o1, o2, o3, o4, o5, o6, o7, o8, o9, o10, o11, o12, o13, o14] #[true, true, true, true, true, true, true, true, true, true, true, true, true, false, false] = [13])
    (f11_12_13_14 : Region.free .any #[o0, o1, o2, o3, o4, o5, o6, o7, o8, o9, o10, o11, o12, o13, o14] #[true, true, true, true, true, true, true, true, true, true, true, true, true, true, false] 14 = true) (r11_12_13_14 : (Region.ready .any #[o0, o1, o2, o3, o4, o5, o6, o7, o8, o9, o10, o11, o12, o13, o14] #[true, true, true, true, true, true, true, true, true, true, true, true, true, true, false]).contains 14 = true)
    (q11_12_13_ : Region.ready .any #[o0, o1, o2, o3, o4, o5, o6, o7, o8, o9, o10, o11, o12, o13, o14] #[true, true, true, true, true, true, true, true, true, true, true, true, true, true, true] = [])
    (g11 : o11.guard = none)    (g12 : o12.guard = none)    (g13 : o13.guard = none)
    (v0 v1 v2 v3 v4 v5 v6 v7 v8 v9 v10 : Value) (A0 A1 A2 A3 A4 A5 A6 A7 A8 A9 A10 : Act)
    (S : World → Prop)
    (I_ : World → Prop)
    (I11_ : Value → World → Prop)
    (I11_12_ : Value → Value → World → Prop)
    (I11_12_13_ : Value → Value → Value → World → Prop)
    (v14 : Value → Value)
    (p0 : a.put o0.dst v0 = A0) (hy0 : YieldsIf P #[o0, o1, o2, o3, o4, o5, o6, o7, o8, o9, o10, o11, o12, o13, o14] S o0 v0 a)
    (p1 : A0.put o1.dst v1 = A1) (hy1 : YieldsIf P #[o0, o1, o2, o3, o4, o5, o6, o7, o8, o9, o10, o11, o12, o13, o14] S o1 v1 A0)
    (p2 : A1.put o2.dst v2 = A2) (hy2 : YieldsIf P #[o0, o1, o2, o3, o4, o5, o6, o7, o8, o9, o10, o11, o12, o13, o14] S o2 v2 A1)
    (p3 : A2.put o3.dst v3 = A3) (hy3 : YieldsIf P #[o0, o1, o2, o3, o4, o5, o6, o7, o8, o9, o10, o11, o12, o13, o14] S o3 v3 A2)
    (p4 : A3.put o4.dst v4 = A4) (hy4 : YieldsIf P #[o0, o1, o2, o3, o4, o5, o6, o7, o8, o9, o10, o11, o12, o13, o14] S o4 v4 A3)
    (p5 : A4.put o5.dst v5 = A5) (hy5 : YieldsIf P #[o0, o1, o2, o3, o4, o5, o6, o7, o8, o9, o10, o11, o12, o13, o14] S o5 v5 A4)
    (p6 : A5.put o6.dst v6 = A6) (hy6 : YieldsIf P #[o0, o1, o2, o3, o4, o5, o6, o7, o8, o9, o10, o11, o12, o13, o14] S o6 v6 A5)
    (p7 : A6.put o7.dst v7 = A7) (hy7 : YieldsIf P #[o0, o1, o2, o3, o4, o5, o6, o7, o8, o9, o10, o11, o12, o13, o14] S o7 v7 A6)
    (p8 : A7.put o8.dst v8 = A8) (hy8 : YieldsIf P #[o0, o1, o2, o3, o4, o5, o6, o7, o8, o9, o10, o11, o12, o13, o14] S o8 v8 A7)
    (p9 : A8.put o9.dst v9 = A9) (hy9 : YieldsIf P #[o0, o1, o2, o3, o4, o5, o6, o7, o8, o9, o10, o11, o12, o13, o14] S o9 v9 A8)
    (p10 : A9.put o10.dst v10 = A10) (hy10 : YieldsIf P #[o0, o1, o2, o3, o4, o5, o6, o7, o8, o9, o10, o11, o12, o13, o14] S o10 v10 A9)
    (i0 : I_ w.drew)
    (hIS : (∀ w', I_  w' → S w') ∧ (∀ (u11 : Value) w', I11_ u11 w' → S w') ∧ (∀ (u11 u12 : Value) w', I11_12_ u11 u12 w' → S w') ∧ (∀ (u11 u12 u13 : Value) w', I11_12_13_ u11 u12 u13 w' → S w'))
    (s_11 : ∀ w', I_  w' → ∀ K : Act → World → Prop, (∀ (u11 : Value) w2, I11_ u11 w2 → K (A10.put o11.dst u11) w2) → o11.wp P A10 w' K (NoPanic Q))
    (s11_12 : ∀ (u11 : Value) w', I11_ u11 w' → ∀ K : Act → World → Prop, (∀ (u12 : Value) w2, I11_12_ u11 u12 w2 → K ((A10.put o11.dst u11).put o12.dst u12) w2) → o12.wp P (A10.put o11.dst u11) w' K (NoPanic Q))
    (s11_12_13 : ∀ (u11 u12 : Value) w', I11_12_ u11 u12 w' → ∀ K : Act → World → Prop, (∀ (u13 : Value) w2, I11_12_13_ u11 u12 u13 w2 → K (((A10.put o11.dst u11).put o12.dst u12).put o13.dst u13) w2) → o13.wp P ((A10.put o11.dst u11).put o12.dst u12) w' K (NoPanic Q))
    (y11_12_13_14 : ∀ (u11 u12 u13 : Value) w', I11_12_13_ u11 u12 u13 w' → YieldsIf P #[o0, o1, o2, o3, o4, o5, o6, o7, o8, o9, o10, o11, o12, o13, o14] S o14 (v14 u13) (((A10.put o11.dst u11).put o12.dst u12).put o13.dst u13))
    (h : ∀ (u11 u12 u13 : Value) w', I11_12_13_ u11 u12 u13 w' → Q .normal ((((A10.put o11.dst u11).put o12.dst u12).put o13.dst u13).put o14.dst (v14 u13)) w') :
    (Code.region id #[o0, o1, o2, o3, o4, o5, o6, o7, o8, o9, o10, o11, o12, o13, o14] true).wp P Q a w := by
  subst p0 p1 p2 p3 p4 p5 p6 p7 p8 p9 p10
  obtain ⟨z_, z11_, z11_12_, z11_12_13_⟩ := hIS
  refine wp_region_noPanic ?_
  refine wp_region_held_drew (S := S) hm (z_ _ i0) (fun hH => ?_)
  show wpAnyH P .any #[o0, o1, o2, o3, o4, o5, o6, o7, o8, o9, o10, o11, o12, o13, o14] (NoPanic Q) S 15 #[false, false, false, false, false, false, false, false, false, false, false, false, false, false, false] a w.drew
  refine wpAnyH_take (i := 0) (oi := o0) rfl hs f0 r0 (fun _ _ _ h => h) hy0 hH ?_
  refine wpAnyH_take (i := 1) (oi := o1) rfl hs f1 r1 (fun _ _ _ h => h) hy1 hH ?_
  refine wpAnyH_take (i := 2) (oi := o2) rfl hs f2 r2 (fun _ _ _ h => h) hy2 hH ?_
  refine wpAnyH_take (i := 3) (oi := o3) rfl hs f3 r3 (fun _ _ _ h => h) hy3 hH ?_
  refine wpAnyH_take (i := 4) (oi := o4) rfl hs f4 r4 (fun _ _ _ h => h) hy4 hH ?_
  refine wpAnyH_take (i := 5) (oi := o5) rfl hs f5 r5 (fun _ _ _ h => h) hy5 hH ?_
  refine wpAnyH_take (i := 6) (oi := o6) rfl hs f6 r6 (fun _ _ _ h => h) hy6 hH ?_
  refine wpAnyH_take (i := 7) (oi := o7) rfl hs f7 r7 (fun _ _ _ h => h) hy7 hH ?_
  refine wpAnyH_take (i := 8) (oi := o8) rfl hs f8 r8 (fun _ _ _ h => h) hy8 hH ?_
  refine wpAnyH_take (i := 9) (oi := o9) rfl hs f9 r9 (fun _ _ _ h => h) hy9 hH ?_
  refine wpAnyH_take (i := 10) (oi := o10) rfl hs f10 r10 (fun _ _ _ h => h) hy10 hH ?_
  generalize (((((((((((a.put o0.dst v0).put o1.dst v1).put o2.dst v2).put o3.dst v3).put o4.dst v4).put o5.dst v5).put o6.dst v6).put o7.dst v7).put o8.dst v8).put o9.dst v9).put o10.dst v10) = B at *
  have wa11 : ∀ y, Region.wanted o11 y = true := fun y => by unfold Region.wanted; rw [g11]
  have wa12 : ∀ y, Region.wanted o12 y = true := fun y => by unfold Region.wanted; rw [g12]
  have wa13 : ∀ y, Region.wanted o13 y = true := fun y => by unfold Region.wanted; rw [g13]
  have t11_12_13_ : ∀ (u11 u12 u13 : Value) w', I11_12_13_ u11 u12 u13 w' → wpAnyH P .any #[o0, o1, o2, o3, o4, o5, o6, o7, o8, o9, o10, o11, o12, o13, o14] (NoPanic Q) S 0 #[true, true, true, true, true, true, true, true, true, true, true, true, true, true, true] ((((B.put o11.dst u11).put o12.dst u12).put o13.dst u13).put o14.dst (v14 u13)) w' := by
    intro u11 u12 u13 w0 i0
    exact ⟨q11_12_13_, NoPanic.normal (h u11 u12 u13 w0 i0)⟩
  have t11_12_ : ∀ (u11 u12 : Value) w', I11_12_ u11 u12 w' → wpAnyH P .any #[o0, o1, o2, o3, o4, o5, o6, o7, o8, o9, o10, o11, o12, o13, o14] (NoPanic Q) S 2 #[true, true, true, true, true, true, true, true, true, true, true, true, true, false, false] ((B.put o11.dst u11).put o12.dst u12) w' := by
    intro u11 u12 w0 i0
    refine wpAnyH_ready (rs := [13]) q11_12_ (by simp) (AllReadyH.cons (o := o13) rfl (fun K hK => ?_) AllReadyH.nil)
    · rw [if_pos (wa13 _)]
      refine s11_12_13 u11 u12 w0 i0 K (fun u13 w1 i1 => hK.out _ _ (z11_12_13_ u11 u12 u13 w1 i1) (fun _ => ?_))
      clear hK
      refine wpAnyH_take (i := 14) (oi := o14) rfl hs f11_12_13_14 r11_12_13_14 (fun _ _ _ h => h) (y11_12_13_14 u11 u12 u13 w1 i1) (z11_12_13_ u11 u12 u13 w1 i1) ?_
      exact t11_12_13_ u11 u12 u13 w1 i1
  have t11_ : ∀ (u11 : Value) w', I11_ u11 w' → wpAnyH P .any #[o0, o1, o2, o3, o4, o5, o6, o7, o8, o9, o10, o11, o12, o13, o14] (NoPanic Q) S 3 #[true, true, true, true, true, true, true, true, true, true, true, true, false, false, false] (B.put o11.dst u11) w' := by
    intro u11 w0 i0
    refine wpAnyH_ready (rs := [12]) q11_ (by simp) (AllReadyH.cons (o := o12) rfl (fun K hK => ?_) AllReadyH.nil)
    · rw [if_pos (wa12 _)]
      refine s11_12 u11 w0 i0 K (fun u12 w1 i1 => hK.out _ _ (z11_12_ u11 u12 w1 i1) (fun _ => ?_))
      clear hK
      exact t11_12_ u11 u12 w1 i1
  have t_ : ∀ w', I_  w' → wpAnyH P .any #[o0, o1, o2, o3, o4, o5, o6, o7, o8, o9, o10, o11, o12, o13, o14] (NoPanic Q) S 4 #[true, true, true, true, true, true, true, true, true, true, true, false, false, false, false] B w' := by
    intro w0 i0
    refine wpAnyH_ready (rs := [11]) q_ (by simp) (AllReadyH.cons (o := o11) rfl (fun K hK => ?_) AllReadyH.nil)
    · rw [if_pos (wa11 _)]
      refine s_11  w0 i0 K (fun u11 w1 i1 => hK.out _ _ (z11_ u11 w1 i1) (fun _ => ?_))
      clear hK
      exact t11_ u11 w1 i1
  exact t_ w.drew i0

end
end Go.Proofs.YtecadmldnjlibaaDoor
namespace Go.Proofs.YtecadmldnjlibaaDoor
open Go.RowKit Go.BigFrame
set_option linter.unusedVariables false
set_option linter.unusedSimpArgs false

set_option maxRecDepth 100000 in
set_option maxHeartbeats 1000000 in
/-- Lists that read alike are alike. -/
theorem samep_any (va vb : Value) (ds : List (List Nat)) (w : World) (ha : RdD w va ds) (hb : RdD w vb ds) :
    Calls Tryd.prog 21 #[va, vb] w fun e w' => e = .returned (.bool true) ∧ Kept [] w w' := by
  have HA := hide ha
  have HB := hide hb
  obtain ⟨aa, an, ac, rfl, a1, a2, a3, a4, a5⟩ := ha
  obtain ⟨ba, bn, bc, rfl, b1, b2, b3, b4, b5⟩ := hb
  subst a1
  subst b1
  clear a4 a5 b4 b5
  go_enter Tryd.func21, Tryd.ntmps21
  go_wp2_with fail
  go_loopw [5] (fun t5 wr => ∃ (i : Nat), i ≤ ds.length ∧ t5 = .int .i64 (i : Int) ∧ Hid (Kept [] w wr)) (fun t _ => ds.length - (intOf t).toNat)
  case atStart => exact ⟨0, Nat.zero_le _, rfl, hide (Kept.refl _ _)⟩
  case round =>
    obtain ⟨i, hi, rfl, HK⟩ := hrel
    by_cases hlt : i < ds.length
    · have hlt' : (i : Int) < (ds.length : Int) := by omega
      obtain ⟨b, o, rfl, hc⟩ := ((unhide HA).old (unhide HK)).range (by omega)
      obtain ⟨b', o', rfl, hc'⟩ := ((unhide HB).old (unhide HK)).range (by omega)
      have r1 := hc i hlt
      have r2 := hc' i hlt
      have hdg := (unhide HA).dg (d := ds.getD i []) (by rw [List.getD_eq_getElem?_getD, List.getElem?_eq_getElem hlt]; exact List.getElem_mem hlt)
      generalize ds.getD i [] = d at r1 r2 hdg
      have hdl := hdg.1
      have hq := fun W => dig_eq W d d hdl hdl
      rw [decide_eq_true rfl] at hq
      have ia : ¬ (i : Int) < 0 := by omega
      have ib : ¬ (ds.length : Int) ≤ i := by omega
      clear hc hc' hdg
      have hne : ∀ p : Prop, (∀ w', Kept [] wr w' → p) = p := fun p => propext ⟨fun h => h wr (Kept.refl [] wr), fun h _ _ => h⟩
      go_wp2_with fail
      refine wp_region_keep (by kernel_rfl) (by kernel_rfl) ?_
      iterate 3 (go_big_quiet_step (fail))
      refine wpQuiet_mid rfl 41 _ rfl b (o + i * 32) rfl (d.map u8) _ (fun w' hw' => range_kept r1 hw' (by simp)) Tryd.underlying41 rfl (by rw [List.length_map, hdl]; exact Tryd.size_dig) ?_
      simp only [Act.put, List.setIfInBounds_toArray, List.set_cons_succ, List.set_cons_zero]
      iterate 3 (go_big_quiet_step (fail))
      refine wpQuiet_mid rfl 41 _ rfl b' (o' + i * 32) rfl (d.map u8) _ (fun w' hw' => range_kept r2 hw' (by simp)) Tryd.underlying41 rfl (by rw [List.length_map, hdl]; exact Tryd.size_dig) ?_
      simp only [Act.put, List.setIfInBounds_toArray, List.set_cons_succ, List.set_cons_zero]
      refine wpQuiet_val rfl (.bool false) (fun w' _ => run_neq 41 _ _ _ rfl (d.map u8).toArray (d.map u8).toArray rfl rfl w' true (by kernel_rfl) (hq w')) ?_
      simp only [Act.put, List.setIfInBounds_toArray, List.set_cons_succ, List.set_cons_zero]
      refine wpQuiet_nil ?_
      intro w6 hw6
      have HK6 := hide ((unhide HK).trans hw6 (by simp))
      clear hw6 hne hq r1 r2
      go_wp2_with fail
      refine ⟨⟨i + 1, by omega, by simp, HK6⟩, ?_⟩
      simp [intOf]
      omega
    · have hlt' : ¬ (i : Int) < (ds.length : Int) := by omega
      go_wp2_with fail
      go_ret
      exact ⟨rfl, unhide HK⟩

theorem run_mid {P : Program} {op : Oper} {a : Act} (ty : TypeId) (x : Operand) (ho : op.op = .load ty x) (b off : Nat) (hx : a.eval x = .pointer (some ⟨b, off, none⟩)) (cs : List Value) (d : TypeDesc) (w : World) (hg : w.rangeAt b off cs)
    (hu : P.underlying ty = some d) (hd : d.isRow = true) (hi : (P.info? ty).map (·.size) = some cs.length) : (execOp a.eval op).run P w = .ok (.value (.agg cs.toArray)) w := by
  unfold execOp
  simp only [ho]
  have := run_loadVar_mid (P := P) w b off ty cs d hg hu hd hi
  simp only [hx, Instr.loadAt, Instr.sureAddr, Sem.run_bind, Sem.run_pure, Result.andThen_ok, this]

theorem wp_appendP {P : Program} {o : Oper} {a : Act} {w : World} {K : Act → World → Prop} {Q : Exit → Act → World → Prop} {s x : Operand} {t : TypeId} (ho : o.op = .call { callee := .builtin .append, args := #[s, x], argTypes := #[t, t] }) (hty : o.type = t) {v u r : Value} {w1 : World} (hs : a.eval s = v) (hx : a.eval x = u)
    (hrun : (Builtin.append_ #[t, t] t #[v, u]).run P w = .ok r w1) (hK : K (a.put o.dst r) w1) : o.wp P a w K Q := by
  unfold Oper.wp execOp
  simp only [ho, hty, resolve, invoke, builtin, Sem.run_bind, Sem.run_pure, Result.andThen_ok, List.map_toArray, List.map_cons, List.map_nil, hs, hx, hrun]
  exact hK

theorem upL_dg (z : Int) : ∀ (ls : List (List Nat)), (∀ d ∈ ls, Dg d) → ∀ d ∈ upL z ls, Dg d
  | [], _, d, hd => by simp [upL] at hd
  | [a], h, d, hd => h d (by simpa [upL] using hd)
  | a :: b :: r, h, d, hd => by
    rw [upL, List.mem_cons] at hd
    rcases hd with rfl | hd
    · exact nodS_dg z _ _
    · exact upL_dg z r (fun x hx => h x (by simp [hx])) d hd

set_option maxRecDepth 100000 in
set_option maxHeartbeats 1000000 in
theorem up_any (k : Nat) (hk : 1 ≤ k ∧ k ≤ 32) (lv : Value) (ls : List (List Nat)) (w : World) (hl : RdD w lv ls) (hN : ls.length ≤ 1000000) :
    Calls Tryd.prog 61 #[.int .i64 (k : Int), lv] w fun e w' => ∃ u, e = .returned u ∧ OwD w w' u (upL (k : Int) ls) := by
  have HL := hide hl
  have HDG := hide (fun d hd => hl.dg (d := d) hd)
  have HUL := hide (upL_len (k : Int) ls)
  obtain ⟨la, ll, lc, rfl, l1, l2, l3, l4, l5⟩ := hl
  subst l1
  have HC5 := hide (fun h => l5 h)
  clear l4 l5
  go_enter Tryd.func61, Tryd.ntmps61
  go_wp2_with fail
  go_loopw [5, 6] (fun t5 t6 wr => ∃ (j : Nat), 2 * j ≤ ls.length + 1 ∧ t6 = .int .i64 ((2 * j : Nat) : Int) ∧ Hid (OwD w wr t5 ((upL (k : Int) ls).take j))) (fun _ t _ => ls.length + 1 - (intOf t).toNat)
  case atStart => exact ⟨0, by omega, rfl, hide (OwD.nil _)⟩
  case round =>
    obtain ⟨j, hj, rfl, HO⟩ := hrel
    by_cases hlt : 2 * j < ls.length
    · obtain ⟨b, o, hla, hc⟩ := unhide HC5 (by omega)
      subst hla
      have HAT := hide (upL_at (k : Int) ls j)
      have r0 := hc (2 * j) hlt
      have hbw : b < w.heap.size := by
        have hd0 := (unhide HDG (ls.getD (2 * j) []) (by rw [List.getD_eq_getElem?_getD, List.getElem?_eq_getElem hlt]; exact List.getElem_mem hlt)).1
        cases hx : ls.getD (2 * j) [] with
        | nil => rw [hx] at hd0; simp at hd0
        | cons y r => rw [hx] at r0; exact block_lt_of_cell (r0 0 _ rfl)
      have HLN := hide (by rw [List.length_take]; omega : ((upL (k : Int) ls).take j).length ≤ j)
      have hdg0 := unhide HDG (ls.getD (2 * j) []) (by rw [List.getD_eq_getElem?_getD, List.getElem?_eq_getElem hlt]; exact List.getElem_mem hlt)
      obtain ⟨i, hij⟩ : ∃ i, 2 * j = i := ⟨_, rfl⟩
      rw [hij] at hlt r0 hdg0 HAT
      have HIJ := hide hij
      have hlt' : (i : Int) < (ls.length : Int) := by omega
      have ia : ¬ (i : Int) < 0 := by omega
      have ib : ¬ (ls.length : Int) ≤ i := by omega
      have hi1 : IntKind.i64.wrap ((i : Int) + 1) = (i : Int) + 1 := by simp [IntKind.wrap, IntKind.signed, IntKind.bits]; omega
      have hi2 : IntKind.i64.wrap ((i : Int) + 2) = (i : Int) + 2 := by simp [IntKind.wrap, IntKind.signed, IntKind.bits]; omega
      rw [hij]
      clear hij
      have r0 := range_kept r0 (unhide HO).kept (by simp)
      by_cases hbr : i + 1 < ls.length
      · have hbr' : (i : Int) + 1 < (ls.length : Int) := by omega
        have hdg1 := unhide HDG (ls.getD (i + 1) []) (by rw [List.getD_eq_getElem?_getD, List.getElem?_eq_getElem hbr]; exact List.getElem_mem hbr)
        have r1 := range_kept (hc (i + 1) hbr) (unhide HO).kept (by simp)
        rw [if_pos hbr] at HAT
        generalize ls.getD i [] = d0 at r0 hdg0 HAT
        generalize ls.getD (i + 1) [] = d1 at r1 hdg1 HAT
        have HSN := hide (by rw [List.take_add_one, unhide HAT]; rfl : (upL (k : Int) ls).take (j + 1) = (upL (k : Int) ls).take j ++ [nodS (k : Int) d0 d1])
        have ic : ¬ (i : Int) + 1 < 0 := by omega
        have id' : ¬ (ls.length : Int) ≤ (i : Int) + 1 := by omega
        have HND := hide (fun W => refNode_any k d0 d1 W hk hdg0 hdg1)
        have HDX := hide (nodS_dg (k : Int) d0 d1)
        generalize nodS (k : Int) d0 d1 = X at HND HDX HSN
        generalize (upL (k : Int) ls).take j = ds at HO HSN HLN
        obtain ⟨ua, ucap, rfl⟩ := owns_form (unhide HO).own
        have hxl := (unhide HDX).1
        have h0l := hdg0.1
        have h1l := hdg1.1
        have HR0 := hide r0
        have HR1 := hide r1
        have hnb : b ∉ (Value.slice ua ds.length ucap).ownBlock.toList := by
          intro hm
          have := ((unhide HO).own.lt b (by simpa using hm)).1
          omega
        clear hc r0 r1 HAT
        go_wp2_with fail
        refine wp_mu15 (by kernel_rfl) (by kernel_rfl) (by kernel_rfl) (by kernel_rfl) (by kernel_rfl) (by kernel_rfl) (by kernel_rfl) (by kernel_rfl) (by kernel_rfl) (by kernel_rfl) (by kernel_rfl) (by kernel_rfl) (by kernel_rfl) (by kernel_rfl) (by kernel_rfl) (by kernel_rfl) (by kernel_rfl) (by kernel_rfl) (by kernel_rfl) (by kernel_rfl) (by kernel_rfl) (by kernel_rfl) (by kernel_rfl) (by kernel_rfl) (by kernel_rfl) (by kernel_rfl) (by kernel_rfl) (by kernel_rfl) (by kernel_rfl) (by kernel_rfl) rfl rfl rfl
          (.slice ua ds.length ucap) (.int .i64 (k : Int)) (.slice (some ⟨b, o, none⟩) ls.length lc) (.int .i64 (i : Int)) (.pointer (some ⟨b, o + i * 32, none⟩)) (.agg (d0.map Go.Proofs.YtecadmldnjlibaaDoor.u8).toArray) (.slice (some ⟨b, o, none⟩) ls.length lc) (.int .i64 (i : Int)) (.int .i64 ((i : Int) + 1)) (.pointer (some ⟨b, o + (i + 1) * 32, none⟩)) (.agg (d1.map Go.Proofs.YtecadmldnjlibaaDoor.u8).toArray) _ _ _ _ _ _ _ _ _ _ _
          (fun w' => Kept (Value.slice ua ds.length ucap).ownBlock.toList wr w')
          (fun w' => Kept [] wr w')
          (fun u11 w' => u11 = .agg (X.map Go.Proofs.YtecadmldnjlibaaDoor.u8).toArray ∧ Kept [] wr w')
          (fun u11 u12 w' => u11 = .agg (X.map Go.Proofs.YtecadmldnjlibaaDoor.u8).toArray ∧ (∃ H, u12 = .slice (some ⟨H, 0, none⟩) 1 1 ∧ w'.heap[H]? = some (.cells (brow X) 41 (0, 0))) ∧ Kept [] wr w')
          (fun u11 u12 u13 w' => (∃ aa cc, u13 = .slice aa (ds.length + 1) cc) ∧ OwD w w' u13 (ds ++ [X]) ∧ Kept (Value.slice ua ds.length ucap).ownBlock.toList wr w')
          (fun u13 => u13)
          (by simp only [Act.put, List.setIfInBounds_toArray, List.set_cons_zero, List.set_cons_succ]; rfl) (by exact Or.inl ⟨by rfl, fun W' hW' => by go_simp⟩)
          (by simp only [Act.put, List.setIfInBounds_toArray, List.set_cons_zero, List.set_cons_succ]; rfl) (by exact Or.inl ⟨by rfl, fun W' hW' => by go_simp⟩)
          (by simp only [Act.put, List.setIfInBounds_toArray, List.set_cons_zero, List.set_cons_succ]; rfl) (by exact Or.inl ⟨by rfl, fun W' hW' => by go_simp⟩)
          (by simp only [Act.put, List.setIfInBounds_toArray, List.set_cons_zero, List.set_cons_succ]; rfl) (by exact Or.inl ⟨by rfl, fun W' hW' => by go_simp⟩)
          (by simp only [Act.put, List.setIfInBounds_toArray, List.set_cons_zero, List.set_cons_succ]; rfl) (by exact Or.inl ⟨by rfl, fun W' hW' => by go_simp⟩)
          (by simp only [Act.put, List.setIfInBounds_toArray, List.set_cons_zero, List.set_cons_succ]; rfl) (by exact Or.inl ⟨by rfl, fun W' hW' => run_mid 41 (.tmp 22) rfl b (o + i * 32) rfl (d0.map Go.Proofs.YtecadmldnjlibaaDoor.u8) _ W' (range_kept (unhide HR0) hW' hnb) Tryd.underlying41 rfl (by rw [List.length_map, h0l]; exact Tryd.size_dig)⟩)
          (by simp only [Act.put, List.setIfInBounds_toArray, List.set_cons_zero, List.set_cons_succ]; rfl) (by exact Or.inl ⟨by rfl, fun W' hW' => by go_simp⟩)
          (by simp only [Act.put, List.setIfInBounds_toArray, List.set_cons_zero, List.set_cons_succ]; rfl) (by exact Or.inl ⟨by rfl, fun W' hW' => by go_simp⟩)
          (by simp only [Act.put, List.setIfInBounds_toArray, List.set_cons_zero, List.set_cons_succ]; rfl) (by exact Or.inl ⟨by rfl, fun W' hW' => by go_simp⟩)
          (by simp only [Act.put, List.setIfInBounds_toArray, List.set_cons_zero, List.set_cons_succ]; rfl) (by exact Or.inl ⟨by rfl, fun W' hW' => by go_simp⟩)
          (by simp only [Act.put, List.setIfInBounds_toArray, List.set_cons_zero, List.set_cons_succ]; rfl) (by exact Or.inl ⟨by rfl, fun W' hW' => run_mid 41 (.tmp 27) rfl b (o + (i + 1) * 32) rfl (d1.map Go.Proofs.YtecadmldnjlibaaDoor.u8) _ W' (range_kept (unhide HR1) hW' hnb) Tryd.underlying41 rfl (by rw [List.length_map, h1l]; exact Tryd.size_dig)⟩)
          (Kept.refl [] wr).drew
          ⟨fun w' h => h.mono (by simp), fun u w' h => h.2.mono (by simp), fun u y w' h => h.2.2.mono (by simp), fun u y x w' h => h.2.2⟩
          (by intro w' i9 K hK; exact wp_callN rfl Tryd.call30 [.int .i64 (k : Int), .agg (brow d0), .agg (brow d1)] rfl (unhide HND w') (fun e w2 h => ⟨_, h.1, hK _ _ ⟨rfl, i9.trans h.2 (by simp)⟩⟩))
          (by
            intro u11 w' hh K hK
            simp only [Act.put, List.setIfInBounds_toArray, List.set_cons_zero, List.set_cons_succ] at hK ⊢
            obtain ⟨rfl, i9⟩ := hh
            have hfs : ∀ A : Array Value, (List.foldl (fun cs x => cs.setIfInBounds x.snd x.fst) A (List.map Go.Proofs.YtecadmldnjlibaaDoor.u8 X).zipIdx).size = A.size := fun A => fold_size _ A 0
            unfold Oper.wp execOp
            go_simp
            rw [zb32, one_digP X hxl]
            exact hK _ _ ⟨rfl, ⟨_, rfl, heap_alloc_new _ _⟩, i9.alloc _⟩)
          (by
            intro u11 u12 w' hh K hK
            simp only [Act.put, List.setIfInBounds_toArray, List.set_cons_zero, List.set_cons_succ] at hK ⊢
            obtain ⟨rfl, ⟨H, rfl, hH⟩, i9⟩ := hh
            have hO := (unhide HO).pass i9
            obtain ⟨ao1, cap1, w1, hrun, h2, h3⟩ := appendD w' w.heap.size (.slice ua ds.length ucap) ds [X] (some ⟨H, 0, none⟩) 1 1 hO.own (RdD.oneP hH (unhide HDX)) (by have := unhide HLN; simp; omega) hO.kept.size
            exact wp_appendP rfl rfl rfl rfl hrun (hK _ _ ⟨⟨_, _, rfl⟩, hO.push (unhide HDX) h2 h3, (i9.mono (by simp)).grown h3 (by intro k hk; left; simp [hk])⟩))
          (by rintro u11 u12 u13 w' ⟨⟨aa, cc, rfl⟩, _⟩; exact Or.inl ⟨by rfl, fun W' hW' => by go_simp⟩)
          ?_
        rintro u11 u12 u13 X4 ⟨⟨aa, cc, rfl⟩, hO4, k4⟩
        simp only [Act.put, List.setIfInBounds_toArray, List.set_cons_zero, List.set_cons_succ]
        have HO4 := hide hO4
        clear hO4 k4
        go_wp2_with (first | simp only [hi2])
        refine ⟨⟨j + 1, by have := unhide HIJ; omega, by have := unhide HIJ; simp; omega, by rw [unhide HSN]; exact HO4⟩, ?_⟩
        simp [intOf]
        omega
      · have hbr' : ¬ (i : Int) + 1 < (ls.length : Int) := by omega
        rw [if_neg hbr, if_pos hlt] at HAT
        generalize ls.getD i [] = X at r0 hdg0 HAT
        have HSN := hide (by rw [List.take_add_one, unhide HAT]; rfl : (upL (k : Int) ls).take (j + 1) = (upL (k : Int) ls).take j ++ [X])
        generalize (upL (k : Int) ls).take j = ds at HO HSN HLN
        obtain ⟨ua, ucap, rfl⟩ := owns_form (unhide HO).own
        have HDX := hide hdg0
        have hxl := hdg0.1
        have HR0 := hide r0
        have HOC := hide ((unhide HO).pass ((Kept.refl [] wr).alloc (.cells (brow X) 41)))
        have HNC := hide (heap_alloc_new wr (.cells (brow X) 41))
        clear hc r0 HAT hdg0
        go_wp2_with (first
          | simp only [hi2]
          | (refine wpList_load_mid rfl 41 _ rfl b (o + i * 32) rfl (X.map Go.Proofs.YtecadmldnjlibaaDoor.u8) _ (unhide HR0) Tryd.underlying41 rfl (by rw [List.length_map, hxl]; exact Tryd.size_dig) ?_)
          | (at_builtin; rw [zb32, one_digP X hxl]; refine wpList_appendD rfl _ _ rfl rfl (wr.alloc (.cells (brow X) 41)) w.heap.size (.slice ua ds.length ucap) ds [X] (some ⟨wr.heap.size, 0, none⟩) 1 1 (unhide HOC).own (RdD.oneP (unhide HNC) (unhide HDX)) (by have := unhide HLN; simp; omega) (unhide HOC).kept.size rfl rfl ?_; intro ao3 cap3 w3 HO3 HG3; have HO4 := hide ((unhide HOC).push (unhide HDX) (unhide HO3) (unhide HG3)); clear HO3 HG3))
        refine ⟨⟨j + 1, by have := unhide HIJ; omega, by have := unhide HIJ; simp; omega, by rw [unhide HSN]; exact HO4⟩, ?_⟩
        simp [intOf]
        omega
    · have hlt' : ¬ ((2 * j : Nat) : Int) < (ls.length : Int) := by omega
      have HE := hide (by rw [List.take_of_length_le (by rw [unhide HUL]; omega)] : (upL (k : Int) ls).take j = upL (k : Int) ls)
      rw [unhide HE] at HO
      go_wp2_with fail
      go_ret
      exact ⟨_, rfl, unhide HO⟩
end Go.Proofs.YtecadmldnjlibaaDoor
namespace Go.Proofs.YtecadmldnjlibaaDoor
open Go.RowKit Go.BigFrame
set_option linter.unusedVariables false
set_option linter.unusedSimpArgs false

theorem own1 (w : World) (B e : Nat) (x : Value) (hb : B ≤ w.heap.size) : (w.alloc (.cells #[x] e)).ownsRow B e 1 (.slice (some ⟨w.heap.size, 0, none⟩) 1 1) [x].length [x] :=
  ⟨rfl, .inr ⟨w.heap.size, 1, #[x], rfl, hb, heap_alloc_new w _, Nat.le_refl _, by unfold maxLen; omega, rfl, rfl⟩⟩
theorem RdD.noneG (w : World) : RdD w (.slice none 0 0) [] := ⟨_, _, _, rfl, rfl, Nat.le_refl _, by omega, by simp, fun h => by simp at h⟩
theorem Tryd.size_gw : (Tryd.prog.info? 34).map (·.size) = some 2 := by kernel_rfl

theorem run_loadS {P : Program} {o : Oper} {a : Act} (ty : TypeId) (x : Operand) (ho : o.op = .load ty x) (ad : Addr) (hx : a.eval x = .pointer (some ad)) (w : World) (v : Value) (e : TypeId) (hu : P.underlying ty = some (.slice e)) (hc : w.cell? ad = some v) :
    (execOp a.eval o).run P w = .ok (.value v) w := by
  have h2 : (isAgg ty).run P w = .ok false w := by
    unfold isAgg
    rw [Sem.run_bind, run_underlying hu w]; simp
  unfold execOp
  simp only [ho, hx, Instr.loadAt, Instr.sureAddr, Sem.run_bind, Sem.run_pure, Result.andThen_ok, loadVar, h2]
  simp [go_sem, hc]
theorem run_loadP {P : Program} {o : Oper} {a : Act} (ty : TypeId) (x : Operand) (ho : o.op = .load ty x) (ad : Addr) (hx : a.eval x = .pointer (some ad)) (w : World) (v : Value) (e : TypeId) (hu : P.underlying ty = some (.pointer e)) (hc : w.cell? ad = some v) :
    (execOp a.eval o).run P w = .ok (.value v) w := by
  have h2 : (isAgg ty).run P w = .ok false w := by
    unfold isAgg
    rw [Sem.run_bind, run_underlying hu w]; simp
  unfold execOp
  simp only [ho, hx, Instr.loadAt, Instr.sureAddr, Sem.run_bind, Sem.run_pure, Result.andThen_ok, loadVar, h2]
  simp [go_sem, hc]

def tpA : Value → Nat → Value
  | .tuple xs, i => xs.toList.getD i undef
  | _, _ => undef
theorem appO_ret {z : Int} {ps : List Pk} {ls : List (List Nat)} {w w' : World} {e : Ending} (h : AppO z ps ls w e w') : ∃ p er, e = .returned (.tuple #[.pointer p, .int .i64 er]) := by
  cases ha : ls.all (formB z) with
  | true => obtain ⟨t', v', qs, rfl, _⟩ := h.1 ha; exact ⟨_, _, rfl⟩
  | false => exact ⟨_, _, h.2.1 ha⟩
theorem doA_ret {z : Int} {bs ls : List (List Nat)} {w w' : World} {e : Ending} (h : DoA z bs ls w e w') : ∃ a n c er, e = .returned (.tuple #[.slice a n c, .int .i64 er]) := by
  cases ha : ls.all (formB z) with
  | true => obtain ⟨u, rfl, ho⟩ := h.1 ha; obtain ⟨a, c, rfl⟩ := owns_form ho; exact ⟨_, _, _, _, rfl⟩
  | false => exact ⟨_, _, _, _, h.2.1 ha⟩

set_option maxRecDepth 100000 in
set_option maxHeartbeats 4000000 in
theorem mtreeGrows_go (z : Int) (sv : Value) (gs : List (Int × List (List Nat))) (w : World) (hz : -9223372036854775808 ≤ z ∧ z ≤ 9223372036854775807) (hs : RdG w sv gs) (hT : Tabs w) (h6 : Tab6 w) :
    Calls Tryd.prog 3 #[.int .i64 z, sv] w fun e w' => e = .returned (.bool true) ∧ Kept [] w w' := by
  have HTB := hide hT
  have H6 := hide h6
  obtain ⟨sa, sl, sc, V, rfl, s1, s2, s3, s4, s5⟩ := hs
  have HS4 := hide s4
  have HS5 := hide s5
  have HSL := hide s1
  clear hT h6 s4 s5 s1
  go_enter Tryd.func3, Tryd.ntmps3
  go_wp2_with fail
  refine (mtawake_any w (unhide HTB) (unhide H6)).mono ?_
  rintro e w1 ⟨rfl, k1⟩
  have HK1 := hide k1
  clear k1
  go_wp2_with fail
  cases hwb : widthB z with
  | false =>
    refine (newT_bad z w1 hwb).mono ?_
    rintro e w2 ⟨rfl, k2⟩
    have HK2 := hide ((unhide HK1).trans k2 (by simp))
    have HDN := hide (docNewT_bad z w2 hz hwb)
    clear k2 hwb
    go_wp2_with fail
    refine (unhide HDN).mono ?_
    rintro e w3 ⟨rfl, k3⟩
    have HK3 := hide ((unhide HK2).trans k3 (by simp))
    clear k3
    go_wp2_with fail
    all_goals go_ret
    all_goals exact ⟨rfl, unhide HK3⟩
  | true =>
    obtain ⟨hz1, hz2⟩ : 1 ≤ z ∧ z ≤ 32 := by simpa [widthB] using hwb
    obtain ⟨kk, rfl⟩ : ∃ kk : Nat, z = kk := ⟨z.toNat, by omega⟩
    have hkk : 1 ≤ kk ∧ kk ≤ 32 := by omega
    refine (newT_any (kk : Int) w1 hwb).mono ?_
    rintro e w2 ⟨t, rfl, ht, htr, k2⟩
    have HK2 := hide ((unhide HK1).trans k2 (by simp))
    have HDN := hide (docNewT_ok (kk : Int) w2 hz hwb)
    have HT2 := hide (⟨htr, fun _ => rfl, 0, World.ownsRow_nil _ _ _ _⟩ : TrO (kk : Int) w2 t (.slice none 0 0) [])
    clear k2 htr hwb
    go_wp2_with fail
    refine (unhide HDN).mono ?_
    rintro e w3 ⟨rfl, k3⟩
    have HK3 := hide ((unhide HK2).trans k3 (by simp))
    have HT3 := hide ((unhide HT2).old k3)
    clear k3 HT2 HDN
    go_wp2_with fail
    refine (reads_any kk hkk t (.slice none 0 0) (.slice none 0 0) [] w3 (unhide HT3).tree (RdD.noneG _) (by simp [leavesK]) ((unhide HTB).kept (unhide HK3) (by simp) (by simp)) ((unhide H6).kept (unhide HK3))).mono ?_
    rintro e w4 ⟨rfl, k4⟩
    have HK4 := hide ((unhide HK3).trans k4 (by simp))
    have HT4 := hide ((unhide HT3).old k4)
    clear k4 HT3
    have kA := (Kept.refl [] w4).alloc (.cells #[.pointer (some ⟨t, 0, none⟩)] 24)
    have kB := kA.alloc (.cells #[.slice none 0 0] 32)
    have HG0 := hide (⟨((Kept.refl [] (w4.alloc (.cells #[.pointer (some ⟨t, 0, none⟩)] 24))).alloc (.cells #[.slice none 0 0] 32)).owns (own1 w4 w4.heap.size 24 (.pointer (some ⟨t, 0, none⟩)) (Nat.le_refl _)) (by simp), own1 (w4.alloc (.cells #[.pointer (some ⟨t, 0, none⟩)] 24)) w4.heap.size 32 (.slice none 0 0) (by simp), by intro r hr; rw [List.mem_singleton] at hr; subst hr; exact (unhide HT4).old kB, by intro r hr; rw [List.mem_singleton] at hr; subst hr; exact World.ownsRow_nil _ _ _ _, by intro r hr; rw [List.mem_singleton] at hr; subst hr; exact Nat.zero_le _⟩ : GR (kk : Int) w4.heap.size ((w4.alloc (.cells #[.pointer (some ⟨t, 0, none⟩)] 24)).alloc (.cells #[.slice none 0 0] 32)) (.slice (some ⟨w4.heap.size, 0, none⟩) 1 1) (.slice (some ⟨(w4.alloc (.cells #[.pointer (some ⟨t, 0, none⟩)] 24)).heap.size, 0, none⟩) 1 1) [.pointer (some ⟨t, 0, none⟩)] [.slice none 0 0] [⟨t, .slice none 0 0, [], .slice none 0 0⟩])
    have HKB := hide kB
    clear kA kB
    go_wp2_with fail
    obtain ⟨w5, hw5⟩ : ∃ w5, (w4.alloc (.cells #[.pointer (some ⟨t, 0, none⟩)] 24)).alloc (.cells #[.slice none 0 0] 32) = w5 := ⟨_, rfl⟩
    rw [hw5] at HG0 HKB ⊢
    clear hw5
    rw [show (w4.alloc (.cells #[.pointer (some ⟨t, 0, none⟩)] 24)).heap.size = w4.heap.size + 1 by simp] at HG0
    have HK5 := hide ((unhide HK4).trans (unhide HKB) (by simp))
    have hb45 : w4.heap.size ≤ w5.heap.size := (unhide HKB).size
    have hwW4 : w.heap.size ≤ w4.heap.size := (unhide HK4).size
    clear HT4 HKB HK4 HK3 HK2 HK1
    go_loopw [8, 9, 48] (fun t8 t9 t48 wr => ∃ (j gt nt ct gb cb : Nat) (rs : List Rw), j ≤ sl ∧ 1 ≤ nt ∧ nt ≤ 31 ∧ t8 = .slice (some ⟨gt, 0, none⟩) nt ct ∧ t9 = .slice (some ⟨gb, 0, none⟩) nt cb ∧ t48 = .int .i64 (j : Int) ∧ Hid (rs.length = nt) ∧ Hid (GR (kk : Int) w4.heap.size wr (.slice (some ⟨gt, 0, none⟩) nt ct) (.slice (some ⟨gb, 0, none⟩) nt cb) (rs.map Rw.p) (rs.map (·.b)) rs) ∧ Hid (Kept [] w wr)) (fun _ _ t _ => sl - (intOf t).toNat)
    case atStart => exact ⟨0, _, 1, 1, _, 1, [⟨t, .slice none 0 0, [], .slice none 0 0⟩], by omega, by omega, by omega, rfl, rfl, rfl, hide rfl, HG0, HK5⟩
    case round =>
      obtain ⟨j, gt, nt, ct, gb, cb, rs, hj, hn1, hn2, rfl, rfl, rfl, HRN, HGR, HKr⟩ := hrel
      by_cases hjl : j < sl
      · have hjl' : (j : Int) < (sl : Int) := by omega
        obtain ⟨hfr, hlr, hll⟩ := unhide HS4 j hjl
        obtain ⟨b, o, rfl, hcell⟩ := unhide HS5 (by omega)
        have HRG := hide (range_kept (hcell j hjl) (unhide HKr) (by simp))
        have HLR := hide (hlr.old (unhide HKr))
        obtain ⟨la, ln, lc, hve, l1, l2, l3, -⟩ := hlr
        rw [hve] at HRG HLR
        have HLN := hide l1
        rw [l1] at hll
        generalize (gs.getD j (0, [])).1 = F at hfr HRG
        generalize (gs.getD j (0, [])).2 = ls at HLR HLN
        clear hcell hve l1
        have HN9 := hide (heap_alloc_new wr (.cells #[.int .i64 F, .slice la ln lc] 34))
        have HO9 := hide ((Kept.refl [] wr).alloc (.cells #[.int .i64 F, .slice la ln lc] 34))
        obtain ⟨w9, hw9⟩ : ∃ w9, wr.alloc (.cells #[.int .i64 F, .slice la ln lc] 34) = w9 := ⟨_, rfl⟩
        rw [hw9] at HN9 HO9
        have HW9 := hide hw9
        have HGR9 := hide ((unhide HGR).old (unhide HO9))
        have HLR9 := hide ((unhide HLR).old (unhide HO9))
        have HK9 := hide ((unhide HKr).trans (unhide HO9) (by simp))
        have HGR0 := hide (unhide HGR)
        clear hw9 HGR HLR HKr HO9
        have hcF : w9.cell? ⟨wr.heap.size, 0, none⟩ = some (.int .i64 F) := by have h9 := cell_of_row _ _ 0 _ _ _ (unhide HN9); simpa using h9
        have hcL : w9.cell? ⟨wr.heap.size, 1, none⟩ = some (.slice la ln lc) := by have h9 := cell_of_row _ _ 1 _ _ _ (unhide HN9); simpa using h9
        have hgtne : gt ≠ wr.heap.size := by have h9 := ((unhide HGR0).tow.lt gt rfl).2; omega
        have hgbne : gb ≠ wr.heap.size := by have h9 := ((unhide HGR0).bow.lt gb rfl).2; omega
        clear HGR0
        have hne : ∀ p : Prop, (∀ w', Kept [] w9 w' → p) = p := fun p => propext ⟨fun h => h w9 (Kept.refl [] w9), fun h _ _ => h⟩
        by_cases c1 : F < 0
        · go_wp2_with (first
            | (refine wpList_load_mid rfl 34 (.tmp 50) rfl b (o + j * 2) rfl [.int .i64 F, .slice la ln lc] _ (unhide HRG) Tryd.underlying34 rfl Tryd.size_gw ?_))
          rw [unhide HW9]
          refine wp_region_keep (by kernel_rfl) (by kernel_rfl) ?_
          go_big_quiet_step (fail)
          refine wpQuiet_val rfl (.int .i64 F) (fun w' hw' => run_load1 3 (.tmp 52) rfl ⟨wr.heap.size, 0, none⟩ rfl w' _ .i64 Tryd.underlying3 (hw'.cell hcF (by simp))) ?_
          simp only [Act.put, List.setIfInBounds_toArray, List.set_cons_succ, List.set_cons_zero]
          refine wpQuiet_val rfl (.bool true) (fun w' _ => by unfold execOp; go_simp) ?_
          simp only [Act.put, List.setIfInBounds_toArray, List.set_cons_succ, List.set_cons_zero]
          repeat (go_big_quiet_step (fail))
          refine wpQuiet_nil ?_
          intro w6 hw6
          have HGR6 := hide ((unhide HGR9).old hw6)
          have HK6 := hide ((unhide HK9).trans hw6 (by simp))
          clear hw6
          go_wp2_with fail
          refine ⟨⟨j + 1, gt, nt, ct, gb, cb, rs, by omega, hn1, hn2, rfl, rfl, by go_num, HRN, HGR6, HK6⟩, ?_⟩
          simp [intOf]; omega
        · by_cases c2 : (nt : Int) ≤ F
          · go_wp2_with (first
              | (refine wpList_load_mid rfl 34 (.tmp 50) rfl b (o + j * 2) rfl [.int .i64 F, .slice la ln lc] _ (unhide HRG) Tryd.underlying34 rfl Tryd.size_gw ?_))
            rw [unhide HW9]
            refine wp_region_keep (by kernel_rfl) (by kernel_rfl) ?_
            go_big_quiet_step (fail)
            refine wpQuiet_val rfl (.int .i64 F) (fun w' hw' => run_load1 3 (.tmp 52) rfl ⟨wr.heap.size, 0, none⟩ rfl w' _ .i64 Tryd.underlying3 (hw'.cell hcF (by simp))) ?_
            simp only [Act.put, List.setIfInBounds_toArray, List.set_cons_succ, List.set_cons_zero]
            refine wpQuiet_val rfl (.bool false) (fun w' _ => by unfold execOp; go_simp) ?_
            simp only [Act.put, List.setIfInBounds_toArray, List.set_cons_succ, List.set_cons_zero]
            iterate 2 (go_big_quiet_step (fail))
            refine wpQuiet_val rfl (.int .i64 F) (fun w' hw' => run_load1 3 (.tmp 56) rfl ⟨wr.heap.size, 0, none⟩ rfl w' _ .i64 Tryd.underlying3 (hw'.cell hcF (by simp))) ?_
            simp only [Act.put, List.setIfInBounds_toArray, List.set_cons_succ, List.set_cons_zero]
            iterate 2 (go_big_quiet_step (fail))
            refine wpQuiet_val rfl (.bool true) (fun w' _ => by unfold execOp; go_simp) ?_
            simp only [Act.put, List.setIfInBounds_toArray, List.set_cons_succ, List.set_cons_zero]
            repeat (go_big_quiet_step (fail))
            refine wpQuiet_nil ?_
            intro w6 hw6
            have HGR6 := hide ((unhide HGR9).old hw6)
            have HK6 := hide ((unhide HK9).trans hw6 (by simp))
            clear hw6
            go_wp2_with fail
            refine ⟨⟨j + 1, gt, nt, ct, gb, cb, rs, by omega, hn1, hn2, rfl, rfl, by go_num, HRN, HGR6, HK6⟩, ?_⟩
            simp [intOf]; omega
          · obtain ⟨f, rfl⟩ : ∃ f : Nat, F = (f : Int) := ⟨F.toNat, by omega⟩
            obtain ⟨rw, hrw⟩ : ∃ rw, rs[f]? = some rw := ⟨_, List.getElem?_eq_getElem (by rw [unhide HRN]; omega)⟩
            have hmem := List.mem_of_getElem? hrw
            have HRW := hide hrw
            have HMEM := hide hmem
            have hct : w9.cell? ⟨gt, f, none⟩ = some (.pointer (some ⟨rw.t, 0, none⟩)) := row1_cell (by have h9 := (unhide HGR9).tow; exact h9) (by rw [List.getElem?_map, hrw]; rfl)
            have hcb : w9.cell? ⟨gb, f, none⟩ = some rw.b := row1_cell (by have h9 := (unhide HGR9).bow; exact h9) (by rw [List.getElem?_map, hrw]; rfl)
            have hle := (unhide HGR9).le rw hmem
            have HRB := hide ((unhide HGR9).rd hmem)
            have HTR := hide ((unhide HGR9).tr rw hmem)
            clear hrw hmem
            obtain ⟨t2, v2, qs, bvw⟩ := rw
            simp only at hct hcb hle HRB HTR
            obtain ⟨ba, bn, bc, rfl, m1, m2, m3, -⟩ := id (unhide HRB)
            rw [m1] at hle
            have HBN := hide m1
            have fa : ¬ (nt : Int) ≤ (f : Int) := by omega
            have fb : ¬ (f : Int) < 0 := by omega
            have hsw : IntKind.i64.wrap ((bn : Int) + (ln : Int)) = (bn : Int) + (ln : Int) := by simp [IntKind.wrap, IntKind.signed, IntKind.bits]; omega
            clear m1
            by_cases c3 : 400 < bn + ln
            · have c3' : (400 : Int) < (bn : Int) + (ln : Int) := by omega
              go_wp2_with (first
                | (refine wpList_load_mid rfl 34 (.tmp 50) rfl b (o + j * 2) rfl [.int .i64 (f : Int), .slice la ln lc] _ (unhide HRG) Tryd.underlying34 rfl Tryd.size_gw ?_))
              rw [unhide HW9]
              refine wp_region_keep (by kernel_rfl) (by kernel_rfl) ?_
              go_big_quiet_step (fail)
              refine wpQuiet_val rfl (.int .i64 (f : Int)) (fun w' hw' => run_load1 3 (.tmp 52) rfl ⟨wr.heap.size, 0, none⟩ rfl w' _ .i64 Tryd.underlying3 (hw'.cell hcF (by simp))) ?_
              simp only [Act.put, List.setIfInBounds_toArray, List.set_cons_succ, List.set_cons_zero]
              refine wpQuiet_val rfl (.bool false) (fun w' _ => by unfold execOp; go_simp; try omega) ?_
              simp only [Act.put, List.setIfInBounds_toArray, List.set_cons_succ, List.set_cons_zero]
              iterate 2 (go_big_quiet_step (fail))
              refine wpQuiet_val rfl (.int .i64 (f : Int)) (fun w' hw' => run_load1 3 (.tmp 56) rfl ⟨wr.heap.size, 0, none⟩ rfl w' _ .i64 Tryd.underlying3 (hw'.cell hcF (by simp))) ?_
              simp only [Act.put, List.setIfInBounds_toArray, List.set_cons_succ, List.set_cons_zero]
              iterate 2 (go_big_quiet_step (fail))
              refine wpQuiet_val rfl (.bool false) (fun w' _ => by unfold execOp; go_simp; try omega) ?_
              simp only [Act.put, List.setIfInBounds_toArray, List.set_cons_succ, List.set_cons_zero]
              iterate 4 (go_big_quiet_step (fail))
              refine wpQuiet_val rfl (.int .i64 (f : Int)) (fun w' hw' => run_load1 3 (.tmp 64) rfl ⟨wr.heap.size, 0, none⟩ rfl w' _ .i64 Tryd.underlying3 (hw'.cell hcF (by simp))) ?_
              simp only [Act.put, List.setIfInBounds_toArray, List.set_cons_succ, List.set_cons_zero]
              go_big_quiet_step (fail)
              refine wpQuiet_val rfl (.slice ba bn bc) (fun w' hw' => run_loadS 32 (.tmp 66) rfl ⟨gb, f, none⟩ rfl w' _ _ Tryd.underlying32 (hw'.cell hcb (by simp))) ?_
              simp only [Act.put, List.setIfInBounds_toArray, List.set_cons_succ, List.set_cons_zero]
              iterate 2 (go_big_quiet_step (fail))
              refine wpQuiet_val rfl (.slice la ln lc) (fun w' hw' => run_loadS 32 (.tmp 69) rfl ⟨wr.heap.size, 1, none⟩ rfl w' _ _ Tryd.underlying32 (hw'.cell hcL (by simp))) ?_
              simp only [Act.put, List.setIfInBounds_toArray, List.set_cons_succ, List.set_cons_zero]
              go_big_quiet_step (fail)
              go_big_quiet_step (simp only [hsw])
              refine wpQuiet_val rfl (.bool true) (fun w' _ => by unfold execOp; go_simp; try omega) ?_
              simp only [Act.put, List.setIfInBounds_toArray, List.set_cons_succ, List.set_cons_zero]
              repeat (go_big_quiet_step (fail))
              refine wpQuiet_nil ?_
              intro w6 hw6
              have HGR6 := hide ((unhide HGR9).old hw6)
              have HK6 := hide ((unhide HK9).trans hw6 (by simp))
              clear hw6
              go_wp2_with fail
              refine ⟨⟨j + 1, gt, nt, ct, gb, cb, rs, by omega, hn1, hn2, rfl, rfl, by go_num, HRN, HGR6, HK6⟩, ?_⟩
              simp [intOf]; omega
            · have c3' : ¬ (400 : Int) < (bn : Int) + (ln : Int) := by omega
              by_cases c4 : 30 < nt
              · have c4' : (30 : Int) < (nt : Int) := by omega
                go_wp2_with (first
                  | (refine wpList_load_mid rfl 34 (.tmp 50) rfl b (o + j * 2) rfl [.int .i64 (f : Int), .slice la ln lc] _ (unhide HRG) Tryd.underlying34 rfl Tryd.size_gw ?_))
                rw [unhide HW9]
                refine wp_region_keep (by kernel_rfl) (by kernel_rfl) ?_
                go_big_quiet_step (fail)
                refine wpQuiet_val rfl (.int .i64 (f : Int)) (fun w' hw' => run_load1 3 (.tmp 52) rfl ⟨wr.heap.size, 0, none⟩ rfl w' _ .i64 Tryd.underlying3 (hw'.cell hcF (by simp))) ?_
                simp only [Act.put, List.setIfInBounds_toArray, List.set_cons_succ, List.set_cons_zero]
                refine wpQuiet_val rfl (.bool false) (fun w' _ => by unfold execOp; go_simp; try omega) ?_
                simp only [Act.put, List.setIfInBounds_toArray, List.set_cons_succ, List.set_cons_zero]
                iterate 2 (go_big_quiet_step (fail))
                refine wpQuiet_val rfl (.int .i64 (f : Int)) (fun w' hw' => run_load1 3 (.tmp 56) rfl ⟨wr.heap.size, 0, none⟩ rfl w' _ .i64 Tryd.underlying3 (hw'.cell hcF (by simp))) ?_
                simp only [Act.put, List.setIfInBounds_toArray, List.set_cons_succ, List.set_cons_zero]
                iterate 2 (go_big_quiet_step (fail))
                refine wpQuiet_val rfl (.bool false) (fun w' _ => by unfold execOp; go_simp; try omega) ?_
                simp only [Act.put, List.setIfInBounds_toArray, List.set_cons_succ, List.set_cons_zero]
                iterate 4 (go_big_quiet_step (fail))
                refine wpQuiet_val rfl (.int .i64 (f : Int)) (fun w' hw' => run_load1 3 (.tmp 64) rfl ⟨wr.heap.size, 0, none⟩ rfl w' _ .i64 Tryd.underlying3 (hw'.cell hcF (by simp))) ?_
                simp only [Act.put, List.setIfInBounds_toArray, List.set_cons_succ, List.set_cons_zero]
                go_big_quiet_step (fail)
                refine wpQuiet_val rfl (.slice ba bn bc) (fun w' hw' => run_loadS 32 (.tmp 66) rfl ⟨gb, f, none⟩ rfl w' _ _ Tryd.underlying32 (hw'.cell hcb (by simp))) ?_
                simp only [Act.put, List.setIfInBounds_toArray, List.set_cons_succ, List.set_cons_zero]
                iterate 2 (go_big_quiet_step (fail))
                refine wpQuiet_val rfl (.slice la ln lc) (fun w' hw' => run_loadS 32 (.tmp 69) rfl ⟨wr.heap.size, 1, none⟩ rfl w' _ _ Tryd.underlying32 (hw'.cell hcL (by simp))) ?_
                simp only [Act.put, List.setIfInBounds_toArray, List.set_cons_succ, List.set_cons_zero]
                go_big_quiet_step (fail)
                go_big_quiet_step (simp only [hsw])
                refine wpQuiet_val rfl (.bool false) (fun w' _ => by unfold execOp; go_simp; try omega) ?_
                simp only [Act.put, List.setIfInBounds_toArray, List.set_cons_succ, List.set_cons_zero]
                iterate 4 (go_big_quiet_step (fail))
                refine wpQuiet_val rfl (.bool true) (fun w' _ => by unfold execOp; go_simp; try omega) ?_
                simp only [Act.put, List.setIfInBounds_toArray, List.set_cons_succ, List.set_cons_zero]
                repeat (go_big_quiet_step (fail))
                refine wpQuiet_nil ?_
                intro w6 hw6
                have HGR6 := hide ((unhide HGR9).old hw6)
                have HK6 := hide ((unhide HK9).trans hw6 (by simp))
                clear hw6
                go_wp2_with fail
                refine ⟨⟨j + 1, gt, nt, ct, gb, cb, rs, by omega, hn1, hn2, rfl, rfl, by go_num, HRN, HGR6, HK6⟩, ?_⟩
                simp [intOf]; omega
              · have c4' : ¬ (30 : Int) < (nt : Int) := by omega
                go_wp2_with (first
                  | (refine wpList_load_mid rfl 34 (.tmp 50) rfl b (o + j * 2) rfl [.int .i64 (f : Int), .slice la ln lc] _ (unhide HRG) Tryd.underlying34 rfl Tryd.size_gw ?_))
                rw [unhide HW9]
                refine wp_region_keep (by kernel_rfl) (by kernel_rfl) ?_
                go_big_quiet_step (fail)
                refine wpQuiet_val rfl (.int .i64 (f : Int)) (fun w' hw' => run_load1 3 (.tmp 52) rfl ⟨wr.heap.size, 0, none⟩ rfl w' _ .i64 Tryd.underlying3 (hw'.cell hcF (by simp))) ?_
                simp only [Act.put, List.setIfInBounds_toArray, List.set_cons_succ, List.set_cons_zero]
                refine wpQuiet_val rfl (.bool false) (fun w' _ => by unfold execOp; go_simp; try omega) ?_
                simp only [Act.put, List.setIfInBounds_toArray, List.set_cons_succ, List.set_cons_zero]
                iterate 2 (go_big_quiet_step (fail))
                refine wpQuiet_val rfl (.int .i64 (f : Int)) (fun w' hw' => run_load1 3 (.tmp 56) rfl ⟨wr.heap.size, 0, none⟩ rfl w' _ .i64 Tryd.underlying3 (hw'.cell hcF (by simp))) ?_
                simp only [Act.put, List.setIfInBounds_toArray, List.set_cons_succ, List.set_cons_zero]
                iterate 2 (go_big_quiet_step (fail))
                refine wpQuiet_val rfl (.bool false) (fun w' _ => by unfold execOp; go_simp; try omega) ?_
                simp only [Act.put, List.setIfInBounds_toArray, List.set_cons_succ, List.set_cons_zero]
                iterate 4 (go_big_quiet_step (fail))
                refine wpQuiet_val rfl (.int .i64 (f : Int)) (fun w' hw' => run_load1 3 (.tmp 64) rfl ⟨wr.heap.size, 0, none⟩ rfl w' _ .i64 Tryd.underlying3 (hw'.cell hcF (by simp))) ?_
                simp only [Act.put, List.setIfInBounds_toArray, List.set_cons_succ, List.set_cons_zero]
                go_big_quiet_step (fail)
                refine wpQuiet_val rfl (.slice ba bn bc) (fun w' hw' => run_loadS 32 (.tmp 66) rfl ⟨gb, f, none⟩ rfl w' _ _ Tryd.underlying32 (hw'.cell hcb (by simp))) ?_
                simp only [Act.put, List.setIfInBounds_toArray, List.set_cons_succ, List.set_cons_zero]
                iterate 2 (go_big_quiet_step (fail))
                refine wpQuiet_val rfl (.slice la ln lc) (fun w' hw' => run_loadS 32 (.tmp 69) rfl ⟨wr.heap.size, 1, none⟩ rfl w' _ _ Tryd.underlying32 (hw'.cell hcL (by simp))) ?_
                simp only [Act.put, List.setIfInBounds_toArray, List.set_cons_succ, List.set_cons_zero]
                go_big_quiet_step (fail)
                go_big_quiet_step (simp only [hsw])
                refine wpQuiet_val rfl (.bool false) (fun w' _ => by unfold execOp; go_simp; try omega) ?_
                simp only [Act.put, List.setIfInBounds_toArray, List.set_cons_succ, List.set_cons_zero]
                iterate 4 (go_big_quiet_step (fail))
                refine wpQuiet_val rfl (.bool false) (fun w' _ => by unfold execOp; go_simp; try omega) ?_
                simp only [Act.put, List.setIfInBounds_toArray, List.set_cons_succ, List.set_cons_zero]
                go_big_quiet_step (fail)
                refine wpQuiet_nil ?_
                intro w10 hw10
                have HGR10 := hide ((unhide HGR9).old hw10)
                have HK10 := hide ((unhide HK9).trans hw10 (by simp))
                have HLR10 := hide ((unhide HLR9).old hw10)
                have HRB10 := hide ((unhide HRB).old hw10)
                have HTR10 := hide ((unhide HTR).old hw10)
                have dF := hw10.cell hcF (by simp)
                have dL := hw10.cell hcL (by simp)
                have dT := hw10.cell hct (by simp)
                have dB := hw10.cell hcb (by simp)
                clear hw10 hne HGR9 HK9 HLR9 HRB HTR hcF hcL hct hcb HRG
                go_wp2_with fail
                refine wp_gr13 (by kernel_rfl) (by kernel_rfl) (by kernel_rfl) (by kernel_rfl) (by kernel_rfl) (by kernel_rfl) (by kernel_rfl) (by kernel_rfl) (by kernel_rfl) (by kernel_rfl) (by kernel_rfl) (by kernel_rfl) (by kernel_rfl) (by kernel_rfl) (by kernel_rfl) (by kernel_rfl) (by kernel_rfl) (by kernel_rfl) (by kernel_rfl) (by kernel_rfl) (by kernel_rfl) (by kernel_rfl) (by kernel_rfl) (by kernel_rfl) (by kernel_rfl) (by kernel_rfl) (by kernel_rfl) (by kernel_rfl) rfl
                  (.slice (some ⟨gt, 0, none⟩) nt ct) (.pointer (some ⟨wr.heap.size, 0, none⟩)) (.int .i64 (f : Int)) (.pointer (some ⟨gt, f, none⟩)) (.pointer (some ⟨t2, 0, none⟩)) (.pointer (some ⟨wr.heap.size, 1, none⟩)) (.slice la ln lc) _ _ _ _ _ _ _
                  (fun w' => Kept [] w10 w')
                  (fun w' => Kept [] w10 w')
                  (fun u w' => ∃ wm, Kept [] w10 wm ∧ AppO (kk : Int) qs ls wm (.returned u) w' ∧ ∃ p er, u = .tuple #[.pointer p, .int .i64 er])
                  (fun u => u) (fun u => tpA u 0) (fun u => tpA u 1) (fun u => tpA u 0) (fun u => tpA u 1)
                  (by simp only [Act.put, List.setIfInBounds_toArray, List.set_cons_zero, List.set_cons_succ]; rfl) (by exact Or.inl ⟨by rfl, fun W' hW' => by go_simp⟩)
                  (by simp only [Act.put, List.setIfInBounds_toArray, List.set_cons_zero, List.set_cons_succ]; rfl) (by exact Or.inl ⟨by rfl, fun W' hW' => by go_simp⟩)
                  (by simp only [Act.put, List.setIfInBounds_toArray, List.set_cons_zero, List.set_cons_succ]; rfl) (by exact Or.inl ⟨by rfl, fun W' hW' => run_load1 3 (.tmp 82) rfl ⟨wr.heap.size, 0, none⟩ rfl W' _ .i64 Tryd.underlying3 (hW'.cell dF (by simp))⟩)
                  (by simp only [Act.put, List.setIfInBounds_toArray, List.set_cons_zero, List.set_cons_succ]; rfl) (by exact Or.inl ⟨by rfl, fun W' hW' => by go_simp; try omega⟩)
                  (by simp only [Act.put, List.setIfInBounds_toArray, List.set_cons_zero, List.set_cons_succ]; rfl) (by exact Or.inl ⟨by rfl, fun W' hW' => run_loadP 24 (.tmp 84) rfl ⟨gt, f, none⟩ rfl W' _ _ Tryd.underlying24 (hW'.cell dT (by simp))⟩)
                  (by simp only [Act.put, List.setIfInBounds_toArray, List.set_cons_zero, List.set_cons_succ]; rfl) (by exact Or.inl ⟨by rfl, fun W' hW' => by go_simp⟩)
                  (by simp only [Act.put, List.setIfInBounds_toArray, List.set_cons_zero, List.set_cons_succ]; rfl) (by exact Or.inl ⟨by rfl, fun W' hW' => run_loadS 32 (.tmp 86) rfl ⟨wr.heap.size, 1, none⟩ rfl W' _ _ Tryd.underlying32 (hW'.cell dL (by simp))⟩)
                  (Kept.refl [] w10).drew
                  ⟨fun w' h => h, fun u w' ⟨wm, k, hA, _⟩ => k.trans hA.2.2 (by simp)⟩
                  (by
                    intro w' i9 K hK
                    refine wp_callN rfl Tryd.call12 [.pointer (some ⟨t2, 0, none⟩), .slice la ln lc] rfl (appendT_own (kk : Int) t2 v2 (.slice la ln lc) qs ls w' ((unhide HTR10).old i9).tree (unhide HTR10).nil ((unhide HLR10).old i9) (by rw [unhide HBN, unhide HLN]; omega) ((unhide HTB).kept ((unhide HK10).trans i9 (by simp)) (by simp) (by simp)) ((unhide H6).kept ((unhide HK10).trans i9 (by simp)))) ?_
                    intro e w2 hA
                    obtain ⟨p, er, rfl⟩ := appO_ret hA
                    exact ⟨_, rfl, hK _ _ ⟨w', i9, hA, p, er, rfl⟩⟩)
                  (by rintro u w' ⟨w9a, k9a, hA, p9, er9, rfl⟩; exact Or.inl ⟨by rfl, fun W' hW' => by (try simp only [tpA]); go_simp⟩)
                  (by rintro u w' ⟨w9a, k9a, hA, p9, er9, rfl⟩; exact Or.inl ⟨by rfl, fun W' hW' => by (try simp only [tpA]); go_simp⟩)
                  (by rintro u w' ⟨w9a, k9a, hA, p9, er9, rfl⟩; exact Or.inl ⟨by rfl, fun W' hW' => by (try simp only [tpA]); go_simp⟩)
                  (by rintro u w' ⟨w9a, k9a, hA, p9, er9, rfl⟩; exact Or.inl ⟨by rfl, fun W' hW' => by (try simp only [tpA]); go_simp⟩)
                  (by rintro u w' ⟨w9a, k9a, hA, p9, er9, rfl⟩; exact Or.inl ⟨by rfl, fun W' hW' => by (try simp only [tpA]); go_simp⟩)
                  ?_
                rintro u w12 ⟨w11, k11, hA, p9, er9, rfl⟩
                simp only [Act.put, List.setIfInBounds_toArray, List.set_cons_zero, List.set_cons_succ, tpA, List.getD_cons_zero, List.getD_cons_succ]
                obtain ⟨ha, hb, k1112⟩ := hA
                have k12 := k11.trans k1112 (by simp)
                have HGR12 := hide ((unhide HGR10).old k12)
                have HK12 := hide ((unhide HK10).trans k12 (by simp))
                have HLR12 := hide ((unhide HLR10).old k12)
                have HRB12 := hide ((unhide HGR12).rd (unhide HMEM))
                simp only at HRB12
                have cF := k12.cell dF (by simp)
                have cL := k12.cell dL (by simp)
                have cB := k12.cell dB (by simp)
                clear k12 k11 k1112 HGR10 HK10 HLR10 HTR10 dF dL dT dB HRB10
                by_cases hall : ls.all (formB (kk : Int)) = true
                · obtain ⟨t3, v3, ps3, he3, ht3, htr3, hlv3, hnl3, hpo3⟩ := ha hall
                  obtain ⟨rfl, rfl⟩ : p9 = some ⟨t3, 0, none⟩ ∧ er9 = 0 := by simpa using he3
                  clear he3
                  have HT12 := hide (⟨htr3, hnl3, _, hpo3⟩ : TrO (kk : Int) w12 t3 v3 ps3)
                  have HLV3 := hide hlv3
                  have HALL := hide hall
                  clear ha hb htr3 hlv3 hnl3 hpo3 hall ht3
                  go_wp2_with fail
                  refine wp_gr14 (by kernel_rfl) (by kernel_rfl) (by kernel_rfl) (by kernel_rfl) (by kernel_rfl) (by kernel_rfl) (by kernel_rfl) (by kernel_rfl) (by kernel_rfl) (by kernel_rfl) (by kernel_rfl) (by kernel_rfl) (by kernel_rfl) (by kernel_rfl) (by kernel_rfl) (by kernel_rfl) (by kernel_rfl) (by kernel_rfl) (by kernel_rfl) (by kernel_rfl) (by kernel_rfl) (by kernel_rfl) (by kernel_rfl) (by kernel_rfl) (by kernel_rfl) (by kernel_rfl) (by kernel_rfl) (by kernel_rfl) (by kernel_rfl) (by kernel_rfl) rfl
                    (.int .i64 (kk : Int)) (.slice (some ⟨gb, 0, none⟩) nt cb) (.pointer (some ⟨wr.heap.size, 0, none⟩)) (.int .i64 (f : Int)) (.pointer (some ⟨gb, f, none⟩)) (.slice ba bn bc) (.pointer (some ⟨wr.heap.size, 1, none⟩)) (.slice la ln lc) _ _ _ _ _ _ _ _
                    (fun w' => Kept [] w12 w')
                    (fun w' => Kept [] w12 w')
                    (fun u w' => ∃ wm, Kept [] w12 wm ∧ DoA (kk : Int) (leavesK qs) ls wm (.returned u) w' ∧ ∃ a n c er, u = .tuple #[.slice a n c, .int .i64 er])
                    (fun u => u) (fun u => tpA u 0) (fun u => tpA u 1) (fun u => tpA u 0) (fun u => tpA u 1)
                    (by simp only [Act.put, List.setIfInBounds_toArray, List.set_cons_zero, List.set_cons_succ]; rfl) (by exact Or.inl ⟨by rfl, fun W' hW' => by go_simp⟩)
                    (by simp only [Act.put, List.setIfInBounds_toArray, List.set_cons_zero, List.set_cons_succ]; rfl) (by exact Or.inl ⟨by rfl, fun W' hW' => by go_simp⟩)
                    (by simp only [Act.put, List.setIfInBounds_toArray, List.set_cons_zero, List.set_cons_succ]; rfl) (by exact Or.inl ⟨by rfl, fun W' hW' => by go_simp⟩)
                    (by simp only [Act.put, List.setIfInBounds_toArray, List.set_cons_zero, List.set_cons_succ]; rfl) (by exact Or.inl ⟨by rfl, fun W' hW' => run_load1 3 (.tmp 94) rfl ⟨wr.heap.size, 0, none⟩ rfl W' _ .i64 Tryd.underlying3 (hW'.cell cF (by simp))⟩)
                    (by simp only [Act.put, List.setIfInBounds_toArray, List.set_cons_zero, List.set_cons_succ]; rfl) (by exact Or.inl ⟨by rfl, fun W' hW' => by go_simp; try omega⟩)
                    (by simp only [Act.put, List.setIfInBounds_toArray, List.set_cons_zero, List.set_cons_succ]; rfl) (by exact Or.inl ⟨by rfl, fun W' hW' => run_loadS 32 (.tmp 96) rfl ⟨gb, f, none⟩ rfl W' _ _ Tryd.underlying32 (hW'.cell cB (by simp))⟩)
                    (by simp only [Act.put, List.setIfInBounds_toArray, List.set_cons_zero, List.set_cons_succ]; rfl) (by exact Or.inl ⟨by rfl, fun W' hW' => by go_simp⟩)
                    (by simp only [Act.put, List.setIfInBounds_toArray, List.set_cons_zero, List.set_cons_succ]; rfl) (by exact Or.inl ⟨by rfl, fun W' hW' => run_loadS 32 (.tmp 98) rfl ⟨wr.heap.size, 1, none⟩ rfl W' _ _ Tryd.underlying32 (hW'.cell cL (by simp))⟩)
                    (Kept.refl [] w12).drew
                    ⟨fun w' h => h, fun u w' ⟨wm, k, hA, _⟩ => k.trans hA.2.2 (by simp)⟩
                    (by
                      intro w' i9 K hK
                      refine wp_callN rfl Tryd.call13 [.int .i64 (kk : Int), .slice ba bn bc, .slice la ln lc] rfl (docAppT_any (kk : Int) (.slice ba bn bc) (.slice la ln lc) (leavesK qs) ls w' hz ((unhide HRB12).old i9) ((unhide HLR12).old i9) (by rw [unhide HBN, unhide HLN]; omega)) ?_
                      intro e w2 hA
                      obtain ⟨a, n, c, er, rfl⟩ := doA_ret hA
                      exact ⟨_, rfl, hK _ _ ⟨w', i9, hA, a, n, c, er, rfl⟩⟩)
                    (by rintro u w' ⟨w9a, k9a, hA, a9, n9, c9, er9, rfl⟩; exact Or.inl ⟨by rfl, fun W' hW' => by (try simp only [tpA]); go_simp⟩)
                    (by rintro u w' ⟨w9a, k9a, hA, a9, n9, c9, er9, rfl⟩; exact Or.inl ⟨by rfl, fun W' hW' => by (try simp only [tpA]); go_simp⟩)
                    (by rintro u w' ⟨w9a, k9a, hA, a9, n9, c9, er9, rfl⟩; exact Or.inl ⟨by rfl, fun W' hW' => by (try simp only [tpA]); go_simp⟩)
                    (by rintro u w' ⟨w9a, k9a, hA, a9, n9, c9, er9, rfl⟩; exact Or.inl ⟨by rfl, fun W' hW' => by (try simp only [tpA]); go_simp⟩)
                    (by rintro u w' ⟨w9a, k9a, hA, a9, n9, c9, er9, rfl⟩; exact Or.inl ⟨by rfl, fun W' hW' => by (try simp only [tpA]); go_simp⟩)
                    ?_
                  rintro u w14 ⟨w13, k13, hA, a9, n9, c9, er9b, rfl⟩
                  simp only [Act.put, List.setIfInBounds_toArray, List.set_cons_zero, List.set_cons_succ, tpA, List.getD_cons_zero, List.getD_cons_succ]
                  obtain ⟨da, db, k1314⟩ := hA
                  have k14 := k13.trans k1314 (by simp)
                  have HGR14 := hide ((unhide HGR12).old k14)
                  have HK14 := hide ((unhide HK12).trans k14 (by simp))
                  have HT14 := hide ((unhide HT12).old k14)
                  have aF := k14.cell cF (by simp)
                  clear k14 k13 k1314 HGR12 HK12 HLR12 HRB12 cF cL cB
                  obtain ⟨u, heu, hou⟩ := da (unhide HALL)
                  obtain ⟨rfl, rfl⟩ : u = .slice a9 n9 c9 ∧ er9b = 0 := by simp at heu; exact ⟨heu.1.symm, heu.2⟩
                  clear heu
                  have hou2 : w14.ownsRow 0 41 32 (.slice a9 n9 c9) (leavesK ps3).length (flatD (leavesK ps3)) := by rw [unhide HLV3]; exact owns_baseK hou (Nat.zero_le _)
                  obtain ⟨oa9, oc9, he9⟩ := owns_form hou
                  simp only [Value.slice.injEq] at he9
                  obtain ⟨-, hn9, -⟩ := he9
                  subst hn9
                  have h400n : (leavesK ps3).length ≤ 400 := by rw [unhide HLV3, List.length_append, unhide HBN, unhide HLN]; omega
                  have HADD := hide ((unhide HGR14).add ⟨t3, v3, ps3, .slice a9 (leavesK qs ++ ls).length c9⟩ (unhide HT14) hou2 h400n)
                  generalize (leavesK qs ++ ls).length = un at HADD ⊢
                  have kL := (Kept.refl [] w14).alloc (.cells #[.pointer (some ⟨t3, 0, none⟩)] 24)
                  have HAL := hide (heap_alloc_new w14 (.cells #[.pointer (some ⟨t3, 0, none⟩)] 24))
                  have HADL := hide ((unhide HADD).old kL)
                  have HKL := hide ((unhide HK14).trans kL (by simp))
                  have fL := kL.cell aF (by simp)
                  have hwr4 : w4.heap.size ≤ w14.heap.size := by have h9 := ((unhide HGR14).tow.lt gt rfl); omega
                  have hml : (rs.map Rw.p).length = nt := by rw [List.length_map]; exact unhide HRN
                  have hmb : (rs.map (·.b)).length = nt := by rw [List.length_map]; exact unhide HRN
                  have HML := hide hml
                  have HMB := hide hmb
                  clear da db hou hou2 h400n kL hml hmb HT14 HT12 HGR14 HADD
                  go_wp2_with (first
                    | (at_builtin; refine wpList_pushPT rfl (.tmp 115) (.tmp 117) rfl rfl (w14.alloc (.cells #[.pointer (some ⟨t3, 0, none⟩)] 24)) w4.heap.size (.slice (some ⟨gt, 0, none⟩) nt ct) (rs.map Rw.p) (.pointer (some ⟨t3, 0, none⟩)) w14.heap.size (unhide HADL).tow (unhide HAL) rfl (by rw [unhide HML]; omega) (by simp; omega) rfl rfl ?_; clear HAL; intro Gt Ct w15 HOt HGt; rw [unhide HML] at HOt ⊢; have HAD15 := hide ((unhide HADL).pushT (tv' := .slice (some ⟨Gt, 0, none⟩) (nt + 1) Ct) (ts' := rs.map Rw.p ++ [.pointer (some ⟨t3, 0, none⟩)]) (by rw [List.length_append, unhide HML]; exact unhide HOt) (unhide HGt)); have hk15 := (grown_keeps (unhide HGt)); have HK15 := hide ((unhide HKL).grown (unhide HGt) (by intro b9 hb9; right; have h9 := ((unhide HADL).tow.lt b9 hb9).1; have h8 := hwW4; omega)); have gF := hk15.cell fL (by simp [Value.ownBlock]; intro h9; exact hgtne h9.symm); have HAL2 := hide (heap_alloc_new w15 (.cells #[.slice a9 un c9] 32)); have kM := (Kept.refl [] w15).alloc (.cells #[.slice a9 un c9] 32); have HADM := hide ((unhide HAD15).old kM); have HKM := hide ((unhide HK15).trans kM (by simp)); have hF2 := kM.cell gF (by simp); have hs15 := hk15.size; clear HOt HGt hk15 kM HAD15 gF)
                    | (at_builtin; refine wpList_pushPB rfl (.tmp 119) (.tmp 121) rfl rfl (w15.alloc (.cells #[.slice a9 un c9] 32)) w4.heap.size (.slice (some ⟨gb, 0, none⟩) nt cb) (rs.map (·.b)) (.slice a9 un c9) w15.heap.size (unhide HADM).bow (unhide HAL2) rfl (by rw [unhide HMB]; omega) (by simp at hs15 ⊢; omega) rfl rfl ?_; clear HAL2; intro Gb Cb w16 HOb HGb; rw [unhide HMB] at HOb ⊢; have HAD16 := hide ((unhide HADM).pushB (bv' := .slice (some ⟨Gb, 0, none⟩) (nt + 1) Cb) (bs' := rs.map (·.b) ++ [.slice a9 un c9]) (by rw [List.length_append, unhide HMB]; exact unhide HOb) (unhide HGb)); have hk16 := (grown_keeps (unhide HGb)); have HK16 := hide ((unhide HKM).grown (unhide HGb) (by intro b9 hb9; right; have h9 := ((unhide HADM).bow.lt b9 hb9).1; have h8 := hwW4; omega)); have kF := hk16.cell hF2 (by simp [Value.ownBlock]; intro h9; exact hgbne h9.symm); clear HOb HGb hk16 hF2))
                  have HRWn := hide (by rw [List.getElem?_append_left (by rw [unhide HRN]; omega)]; exact unhide HRW : (rs ++ [(⟨t3, v3, ps3, .slice a9 un c9⟩ : Rw)])[f]? = some ⟨t2, v2, qs, .slice ba bn bc⟩)
                  have HRN2 := hide (by rw [List.length_append, unhide HRN]; rfl : (rs ++ [(⟨t3, v3, ps3, .slice a9 un c9⟩ : Rw)]).length = nt + 1)
                  have HAD := hide (by have h9 := unhide HAD16; rw [show rs.map Rw.p ++ [.pointer (some ⟨t3, 0, none⟩)] = (rs ++ [(⟨t3, v3, ps3, .slice a9 un c9⟩ : Rw)]).map Rw.p by rw [List.map_append]; rfl, show rs.map (·.b) ++ [.slice a9 un c9] = (rs ++ [(⟨t3, v3, ps3, .slice a9 un c9⟩ : Rw)]).map (·.b) by rw [List.map_append]; rfl] at h9; exact h9 : GR (kk : Int) w4.heap.size w16 (.slice (some ⟨Gt, 0, none⟩) (nt + 1) Ct) (.slice (some ⟨Gb, 0, none⟩) (nt + 1) Cb) ((rs ++ [(⟨t3, v3, ps3, .slice a9 un c9⟩ : Rw)]).map Rw.p) ((rs ++ [(⟨t3, v3, ps3, .slice a9 un c9⟩ : Rw)]).map (·.b)) (rs ++ [(⟨t3, v3, ps3, .slice a9 un c9⟩ : Rw)]))
                  have fa2 : ¬ ((nt : Int) + 1) ≤ (f : Int) := by omega
                  have fa3 : ¬ (((nt + 1 : Nat)) : Int) ≤ (f : Int) := by omega
                  clear HAD16 HADM HADL HML HMB
                  have gT : w16.cell? ⟨Gt, f, none⟩ = some (.pointer (some ⟨t2, 0, none⟩)) := row1_cell (by have h9 := (unhide HAD).tow; exact h9) (by rw [List.getElem?_map, unhide HRWn]; rfl)
                  have gB : w16.cell? ⟨Gb, f, none⟩ = some (.slice ba bn bc) := row1_cell (by have h9 := (unhide HAD).bow; exact h9) (by rw [List.getElem?_map, unhide HRWn]; rfl)
                  have HTRn := hide ((unhide HAD).tr _ (List.mem_of_getElem? (unhide HRWn)))
                  have HRBn := hide ((unhide HAD).rd (List.mem_of_getElem? (unhide HRWn)))
                  simp only at HTRn HRBn
                  have HRDS := hide (fun W' (k9 : Kept [] w16 W') => (reads_any kk hkk t2 v2 (.slice ba bn bc) qs W' ((unhide HTRn).old k9).tree ((unhide HRBn).old k9) (by rw [unhide HBN]; omega) ((unhide HTB).kept ((unhide HK16).trans k9 (by simp)) (by simp) (by simp)) ((unhide H6).kept ((unhide HK16).trans k9 (by simp)))).mono (fun e w2 (h2 : _ ∧ _) => (⟨h2.1, k9.trans h2.2 (by simp)⟩ : _ ∧ Kept [] w16 w2)))
                  have hne : ∀ p : Prop, (∀ w', Kept [] w16 w' → p) = p := fun p => propext ⟨fun h => h w16 (Kept.refl [] w16), fun h _ _ => h⟩
                  refine wp_region_keep (by kernel_rfl) (by kernel_rfl) ?_
                  iterate 2 (go_big_quiet_step (fail))
                  refine wpQuiet_val rfl (.int .i64 (f : Int)) (fun w' hw' => run_load1 3 (.tmp 124) rfl ⟨wr.heap.size, 0, none⟩ rfl w' _ .i64 Tryd.underlying3 (hw'.cell kF (by simp))) ?_
                  simp only [Act.put, List.setIfInBounds_toArray, List.set_cons_succ, List.set_cons_zero]
                  go_big_quiet_step (fail)
                  refine wpQuiet_val rfl (.pointer (some ⟨t2, 0, none⟩)) (fun w' hw' => run_loadP 24 (.tmp 126) rfl ⟨Gt, f, none⟩ rfl w' _ _ Tryd.underlying24 (hw'.cell gT (by simp))) ?_
                  simp only [Act.put, List.setIfInBounds_toArray, List.set_cons_succ, List.set_cons_zero]
                  iterate 3 (go_big_quiet_step (fail))
                  refine wpQuiet_val rfl (.int .i64 (f : Int)) (fun w' hw' => run_load1 3 (.tmp 130) rfl ⟨wr.heap.size, 0, none⟩ rfl w' _ .i64 Tryd.underlying3 (hw'.cell kF (by simp))) ?_
                  simp only [Act.put, List.setIfInBounds_toArray, List.set_cons_succ, List.set_cons_zero]
                  go_big_quiet_step (fail)
                  refine wpQuiet_val rfl (.slice ba bn bc) (fun w' hw' => run_loadS 32 (.tmp 132) rfl ⟨Gb, f, none⟩ rfl w' _ _ Tryd.underlying32 (hw'.cell gB (by simp))) ?_
                  simp only [Act.put, List.setIfInBounds_toArray, List.set_cons_succ, List.set_cons_zero]
                  go_big_quiet_want
                  go_big_quiet_op
                  apply Exists.intro
                  refine ⟨fun w' hw' => ?_, ?_⟩
                  · exact unhide HRDS w' hw'
                  go_big_quiet_on
                  go_big_quiet_step (fail)
                  refine wpQuiet_nil ?_
                  intro w20 hw20
                  have HGR20 := hide ((unhide HAD).old hw20)
                  have HK20 := hide ((unhide HK16).trans hw20 (by simp))
                  clear hw20 hne
                  go_wp2_with fail
                  refine ⟨⟨j + 1, Gt, nt + 1, Ct, Gb, Cb, _, by omega, by omega, by omega, rfl, rfl, by go_num, HRN2, HGR20, HK20⟩, ?_⟩
                  simp [intOf]; omega
                · have hall' : ls.all (formB (kk : Int)) = false := by simpa using hall
                  obtain ⟨rfl, rfl⟩ : p9 = none ∧ er9 = 3 := by simpa using hb hall'
                  have HALL := hide hall'
                  clear ha hb hall hall'
                  go_wp2_with fail
                  refine wp_gr14 (by kernel_rfl) (by kernel_rfl) (by kernel_rfl) (by kernel_rfl) (by kernel_rfl) (by kernel_rfl) (by kernel_rfl) (by kernel_rfl) (by kernel_rfl) (by kernel_rfl) (by kernel_rfl) (by kernel_rfl) (by kernel_rfl) (by kernel_rfl) (by kernel_rfl) (by kernel_rfl) (by kernel_rfl) (by kernel_rfl) (by kernel_rfl) (by kernel_rfl) (by kernel_rfl) (by kernel_rfl) (by kernel_rfl) (by kernel_rfl) (by kernel_rfl) (by kernel_rfl) (by kernel_rfl) (by kernel_rfl) (by kernel_rfl) (by kernel_rfl) rfl
                    (.int .i64 (kk : Int)) (.slice (some ⟨gb, 0, none⟩) nt cb) (.pointer (some ⟨wr.heap.size, 0, none⟩)) (.int .i64 (f : Int)) (.pointer (some ⟨gb, f, none⟩)) (.slice ba bn bc) (.pointer (some ⟨wr.heap.size, 1, none⟩)) (.slice la ln lc) _ _ _ _ _ _ _ _
                    (fun w' => Kept [] w12 w')
                    (fun w' => Kept [] w12 w')
                    (fun u w' => ∃ wm, Kept [] w12 wm ∧ DoA (kk : Int) (leavesK qs) ls wm (.returned u) w' ∧ ∃ a n c er, u = .tuple #[.slice a n c, .int .i64 er])
                    (fun u => u) (fun u => tpA u 0) (fun u => tpA u 1) (fun u => tpA u 0) (fun u => tpA u 1)
                    (by simp only [Act.put, List.setIfInBounds_toArray, List.set_cons_zero, List.set_cons_succ]; rfl) (by exact Or.inl ⟨by rfl, fun W' hW' => by go_simp⟩)
                    (by simp only [Act.put, List.setIfInBounds_toArray, List.set_cons_zero, List.set_cons_succ]; rfl) (by exact Or.inl ⟨by rfl, fun W' hW' => by go_simp⟩)
                    (by simp only [Act.put, List.setIfInBounds_toArray, List.set_cons_zero, List.set_cons_succ]; rfl) (by exact Or.inl ⟨by rfl, fun W' hW' => by go_simp⟩)
                    (by simp only [Act.put, List.setIfInBounds_toArray, List.set_cons_zero, List.set_cons_succ]; rfl) (by exact Or.inl ⟨by rfl, fun W' hW' => run_load1 3 (.tmp 94) rfl ⟨wr.heap.size, 0, none⟩ rfl W' _ .i64 Tryd.underlying3 (hW'.cell cF (by simp))⟩)
                    (by simp only [Act.put, List.setIfInBounds_toArray, List.set_cons_zero, List.set_cons_succ]; rfl) (by exact Or.inl ⟨by rfl, fun W' hW' => by go_simp; try omega⟩)
                    (by simp only [Act.put, List.setIfInBounds_toArray, List.set_cons_zero, List.set_cons_succ]; rfl) (by exact Or.inl ⟨by rfl, fun W' hW' => run_loadS 32 (.tmp 96) rfl ⟨gb, f, none⟩ rfl W' _ _ Tryd.underlying32 (hW'.cell cB (by simp))⟩)
                    (by simp only [Act.put, List.setIfInBounds_toArray, List.set_cons_zero, List.set_cons_succ]; rfl) (by exact Or.inl ⟨by rfl, fun W' hW' => by go_simp⟩)
                    (by simp only [Act.put, List.setIfInBounds_toArray, List.set_cons_zero, List.set_cons_succ]; rfl) (by exact Or.inl ⟨by rfl, fun W' hW' => run_loadS 32 (.tmp 98) rfl ⟨wr.heap.size, 1, none⟩ rfl W' _ _ Tryd.underlying32 (hW'.cell cL (by simp))⟩)
                    (Kept.refl [] w12).drew
                    ⟨fun w' h => h, fun u w' ⟨wm, k, hA, _⟩ => k.trans hA.2.2 (by simp)⟩
                    (by
                      intro w' i9 K hK
                      refine wp_callN rfl Tryd.call13 [.int .i64 (kk : Int), .slice ba bn bc, .slice la ln lc] rfl (docAppT_any (kk : Int) (.slice ba bn bc) (.slice la ln lc) (leavesK qs) ls w' hz ((unhide HRB12).old i9) ((unhide HLR12).old i9) (by rw [unhide HBN, unhide HLN]; omega)) ?_
                      intro e w2 hA
                      obtain ⟨a, n, c, er, rfl⟩ := doA_ret hA
                      exact ⟨_, rfl, hK _ _ ⟨w', i9, hA, a, n, c, er, rfl⟩⟩)
                    (by rintro u w' ⟨w9a, k9a, hA, a9, n9, c9, er9, rfl⟩; exact Or.inl ⟨by rfl, fun W' hW' => by (try simp only [tpA]); go_simp⟩)
                    (by rintro u w' ⟨w9a, k9a, hA, a9, n9, c9, er9, rfl⟩; exact Or.inl ⟨by rfl, fun W' hW' => by (try simp only [tpA]); go_simp⟩)
                    (by rintro u w' ⟨w9a, k9a, hA, a9, n9, c9, er9, rfl⟩; exact Or.inl ⟨by rfl, fun W' hW' => by (try simp only [tpA]); go_simp⟩)
                    (by rintro u w' ⟨w9a, k9a, hA, a9, n9, c9, er9, rfl⟩; exact Or.inl ⟨by rfl, fun W' hW' => by (try simp only [tpA]); go_simp⟩)
                    (by rintro u w' ⟨w9a, k9a, hA, a9, n9, c9, er9, rfl⟩; exact Or.inl ⟨by rfl, fun W' hW' => by (try simp only [tpA]); go_simp⟩)
                    ?_
                  rintro u w14 ⟨w13, k13, hA, a9, n9, c9, er9b, rfl⟩
                  simp only [Act.put, List.setIfInBounds_toArray, List.set_cons_zero, List.set_cons_succ, tpA, List.getD_cons_zero, List.getD_cons_succ]
                  obtain ⟨da, db, k1314⟩ := hA
                  have k14 := k13.trans k1314 (by simp)
                  have HGR14 := hide ((unhide HGR12).old k14)
                  have HK14 := hide ((unhide HK12).trans k14 (by simp))
                  have _ := trivial
                  have aF := k14.cell cF (by simp)
                  clear k14 k13 k1314 HGR12 HK12 HLR12 HRB12 cF cL cB
                  obtain ⟨⟨rfl, rfl, rfl⟩, rfl⟩ : (a9 = none ∧ n9 = 0 ∧ c9 = 0) ∧ er9b = 3 := by simpa using db (unhide HALL)
                  have HRWn := hide (unhide HRW)
                  clear da db
                  go_wp2_with fail
                  have gT : w14.cell? ⟨gt, f, none⟩ = some (.pointer (some ⟨t2, 0, none⟩)) := row1_cell (by have h9 := (unhide HGR14).tow; exact h9) (by rw [List.getElem?_map, unhide HRWn]; rfl)
                  have gB : w14.cell? ⟨gb, f, none⟩ = some (.slice ba bn bc) := row1_cell (by have h9 := (unhide HGR14).bow; exact h9) (by rw [List.getElem?_map, unhide HRWn]; rfl)
                  have HTRn := hide ((unhide HGR14).tr _ (List.mem_of_getElem? (unhide HRWn)))
                  have HRBn := hide ((unhide HGR14).rd (List.mem_of_getElem? (unhide HRWn)))
                  simp only at HTRn HRBn
                  have HRDS := hide (fun W' (k9 : Kept [] w14 W') => (reads_any kk hkk t2 v2 (.slice ba bn bc) qs W' ((unhide HTRn).old k9).tree ((unhide HRBn).old k9) (by rw [unhide HBN]; omega) ((unhide HTB).kept ((unhide HK14).trans k9 (by simp)) (by simp) (by simp)) ((unhide H6).kept ((unhide HK14).trans k9 (by simp)))).mono (fun e w2 (h2 : _ ∧ _) => (⟨h2.1, k9.trans h2.2 (by simp)⟩ : _ ∧ Kept [] w14 w2)))
                  have hne : ∀ p : Prop, (∀ w', Kept [] w14 w' → p) = p := fun p => propext ⟨fun h => h w14 (Kept.refl [] w14), fun h _ _ => h⟩
                  refine wp_region_keep (by kernel_rfl) (by kernel_rfl) ?_
                  iterate 2 (go_big_quiet_step (fail))
                  refine wpQuiet_val rfl (.int .i64 (f : Int)) (fun w' hw' => run_load1 3 (.tmp 124) rfl ⟨wr.heap.size, 0, none⟩ rfl w' _ .i64 Tryd.underlying3 (hw'.cell aF (by simp))) ?_
                  simp only [Act.put, List.setIfInBounds_toArray, List.set_cons_succ, List.set_cons_zero]
                  go_big_quiet_step (fail)
                  refine wpQuiet_val rfl (.pointer (some ⟨t2, 0, none⟩)) (fun w' hw' => run_loadP 24 (.tmp 126) rfl ⟨gt, f, none⟩ rfl w' _ _ Tryd.underlying24 (hw'.cell gT (by simp))) ?_
                  simp only [Act.put, List.setIfInBounds_toArray, List.set_cons_succ, List.set_cons_zero]
                  iterate 3 (go_big_quiet_step (fail))
                  refine wpQuiet_val rfl (.int .i64 (f : Int)) (fun w' hw' => run_load1 3 (.tmp 130) rfl ⟨wr.heap.size, 0, none⟩ rfl w' _ .i64 Tryd.underlying3 (hw'.cell aF (by simp))) ?_
                  simp only [Act.put, List.setIfInBounds_toArray, List.set_cons_succ, List.set_cons_zero]
                  go_big_quiet_step (fail)
                  refine wpQuiet_val rfl (.slice ba bn bc) (fun w' hw' => run_loadS 32 (.tmp 132) rfl ⟨gb, f, none⟩ rfl w' _ _ Tryd.underlying32 (hw'.cell gB (by simp))) ?_
                  simp only [Act.put, List.setIfInBounds_toArray, List.set_cons_succ, List.set_cons_zero]
                  go_big_quiet_want
                  go_big_quiet_op
                  apply Exists.intro
                  refine ⟨fun w' hw' => ?_, ?_⟩
                  · exact unhide HRDS w' hw'
                  go_big_quiet_on
                  go_big_quiet_step (fail)
                  refine wpQuiet_nil ?_
                  intro w20 hw20
                  have HGR20 := hide ((unhide HGR14).old hw20)
                  have HK20 := hide ((unhide HK14).trans hw20 (by simp))
                  clear hw20 hne
                  go_wp2_with fail
                  refine ⟨⟨j + 1, gt, nt, ct, gb, cb, rs, by omega, by omega, by omega, rfl, rfl, by go_num, HRN, HGR20, HK20⟩, ?_⟩
                  simp [intOf]; omega
      · have hjl' : ¬ (j : Int) < (sl : Int) := by omega
        go_wp2_with fail
        obtain ⟨W1, hW1⟩ : ∃ W1, W1 = wr := ⟨_, rfl⟩
        subst hW1
        go_loopw [139] (fun t139 wr => ∃ (x : Nat), x ≤ nt ∧ t139 = .int .i64 (x : Int) ∧ Hid (GR (kk : Int) w4.heap.size wr (.slice (some ⟨gt, 0, none⟩) nt ct) (.slice (some ⟨gb, 0, none⟩) nt cb) (rs.map Rw.p) (rs.map (·.b)) rs) ∧ Hid (Kept [] w wr)) (fun t _ => nt - (intOf t).toNat)
        case atStart => exact ⟨0, by omega, rfl, HGR, HKr⟩
        case round =>
          obtain ⟨f, hf, rfl, HGx, HKx⟩ := hrel
          by_cases hfl : f < nt
          · have hfl' : (f : Int) < (nt : Int) := by omega
            obtain ⟨rw, hrw⟩ : ∃ rw, rs[f]? = some rw := ⟨_, List.getElem?_eq_getElem (by rw [unhide HRN]; omega)⟩
            have HRWn := hide hrw
            have hle := (unhide HGx).le rw (List.mem_of_getElem? hrw)
            have HRB := hide ((unhide HGx).rd (List.mem_of_getElem? hrw))
            clear hrw
            obtain ⟨t2, v2, qs, bvw⟩ := rw
            simp only at hle HRB
            obtain ⟨ba, bn, bc, rfl, m1, m2, m3, -⟩ := id (unhide HRB)
            rw [m1] at hle
            have HBN := hide m1
            clear m1 HRB
            have fa : ¬ (nt : Int) ≤ (f : Int) := by omega
            have gT : wr.cell? ⟨gt, f, none⟩ = some (.pointer (some ⟨t2, 0, none⟩)) := row1_cell (by have h9 := (unhide HGx).tow; exact h9) (by rw [List.getElem?_map, unhide HRWn]; rfl)
            have gB : wr.cell? ⟨gb, f, none⟩ = some (.slice ba bn bc) := row1_cell (by have h9 := (unhide HGx).bow; exact h9) (by rw [List.getElem?_map, unhide HRWn]; rfl)
            have HTRn := hide ((unhide HGx).tr _ (List.mem_of_getElem? (unhide HRWn)))
            have HRBn := hide ((unhide HGx).rd (List.mem_of_getElem? (unhide HRWn)))
            simp only at HTRn HRBn
            have HRDS := hide (fun W' (k9 : Kept [] wr W') => (reads_any kk hkk t2 v2 (.slice ba bn bc) qs W' ((unhide HTRn).old k9).tree ((unhide HRBn).old k9) (by rw [unhide HBN]; omega) ((unhide HTB).kept ((unhide HKx).trans k9 (by simp)) (by simp) (by simp)) ((unhide H6).kept ((unhide HKx).trans k9 (by simp)))).mono (fun e w2 (h2 : _ ∧ _) => (⟨h2.1, k9.trans h2.2 (by simp)⟩ : _ ∧ Kept [] wr w2)))
            have hne : ∀ p : Prop, (∀ w', Kept [] wr w' → p) = p := fun p => propext ⟨fun h => h wr (Kept.refl [] wr), fun h _ _ => h⟩
            go_wp2_with fail
            refine wp_region_keep (by kernel_rfl) (by kernel_rfl) ?_
            iterate 3 (go_big_quiet_step (fail))
            refine wpQuiet_val rfl (.pointer (some ⟨t2, 0, none⟩)) (fun w' hw' => run_loadP 24 (.tmp 144) rfl ⟨gt, f, none⟩ rfl w' _ _ Tryd.underlying24 (hw'.cell gT (by simp))) ?_
            simp only [Act.put, List.setIfInBounds_toArray, List.set_cons_succ, List.set_cons_zero]
            iterate 4 (go_big_quiet_step (fail))
            refine wpQuiet_val rfl (.slice ba bn bc) (fun w' hw' => run_loadS 32 (.tmp 149) rfl ⟨gb, f, none⟩ rfl w' _ _ Tryd.underlying32 (hw'.cell gB (by simp))) ?_
            simp only [Act.put, List.setIfInBounds_toArray, List.set_cons_succ, List.set_cons_zero]
            go_big_quiet_want
            go_big_quiet_op
            apply Exists.intro
            refine ⟨fun w' hw' => ?_, ?_⟩
            · exact unhide HRDS w' hw'
            go_big_quiet_on
            go_big_quiet_step (fail)
            refine wpQuiet_nil ?_
            intro w20 hw20
            have HGR20 := hide ((unhide HGx).old hw20)
            have HK20 := hide ((unhide HKx).trans hw20 (by simp))
            clear hw20 hne
            go_wp2_with fail
            refine ⟨⟨f + 1, by omega, by go_num, HGR20, HK20⟩, ?_⟩
            simp [intOf]; omega
          · have hfl' : ¬ (f : Int) < (nt : Int) := by omega
            go_wp2_with fail
            go_ret
            exact ⟨rfl, unhide HKx⟩

theorem mtreeGrows_walk (z : Int) (sv : Value) (gs : List (Int × List (List Nat))) (w : World) (hz : -9223372036854775808 ≤ z ∧ z ≤ 9223372036854775807) (hs : RdG w sv gs) (h : Tabs w ∧ Tab6 w) :
    Calls Tryd.prog 3 #[.int .i64 z, sv] w fun e w' => e = .returned (.bool true) ∧ Below w.heap.size w w' :=
  (mtreeGrows_go z sv gs w hz hs h.1 h.2).mono fun e w' h9 => ⟨h9.1, h9.2.below (Nat.le_refl _) (by simp)⟩
end Go.Proofs.YtecadmldnjlibaaDoor
namespace Go.Proofs.YtecadmldnjlibaaDoor
open Go.ChangeShapes Go.WideShapes Go.ChangeAt Go.RowKit Go.Deep
set_option linter.unusedVariables false
set_option linter.unusedSimpArgs false

theorem own : ownKnob Tryd.prog.godebug = none := by kernel_rfl
theorem laidOut : laidOutB Tryd.prog = true := by kernel_rfl
theorem byte_of_wf {x : Int} (h : (Lit.int .u8 x).wf = true) : 0 ≤ x ∧ x < 256 := by
  simp [Lit.wf, IntKind.min, IntKind.max, IntKind.signed, IntKind.bits] at h
  exact ⟨by omega, by omega⟩
theorem int_of_wf {x : Int} (h : (Lit.int .i64 x).wf = true) : -9223372036854775808 ≤ x ∧ x ≤ 9223372036854775807 := by
  simp [Lit.wf, IntKind.min, IntKind.max, IntKind.signed, IntKind.bits] at h
  exact ⟨by omega, by omega⟩

theorem bulk_one {H : Type} (d : DataW H) : 1 ≤ Rows.uptoBulk d := by
  cases d with
  | lit l => cases l <;> simp [Rows.uptoBulk]
  | nil => simp [Rows.uptoBulk]
  | ptr d => simp [Rows.uptoBulk]
  | slice elems spare => simp [Rows.uptoBulk]
  | agg parts => simp [Rows.uptoBulk]
  | iface t d => simp [Rows.uptoBulk]
  | map entries => simp [Rows.uptoBulk]
  | held h => simp [Rows.uptoBulk]
theorem bulk_len {H : Type} (l : List (DataW H)) : l.length ≤ Rows.uptoBulkAll l := by
  induction l with
  | nil => simp [Rows.uptoBulkAll]
  | cons x r ih => have := bulk_one x; simp only [Rows.uptoBulkAll, List.length_cons]; omega
theorem Tryd.bytes5 : Tryd.prog.bytesOf 5 = 1 := by kernel_rfl

section
variable {H : Type} {enc : TypeId × Value → H} {W : World}

/-- Bytes that came in, as the walks want them, of whatever length. -/
theorem open_bytes {fuel : Nat} {cs : List Value} {x : DataW H × List MemPlace} (h : DataW.trod enc Tryd.prog W 0 (fun _ => true) true fuel 86 cs = some x) :
    ∃ v bs, cs = [v] ∧ (bs.length ≤ 140737488355328 → Rd W v bs) ∧ ((bs = [] ∧ x.1 = .nil) ∨ ∃ elems spare, x.1 = .slice elems spare ∧ elems.length = bs.length) := by
  rcases open_ints Tryd.underlying86 Tryd.underlying5 (by kernel_rfl) h with ⟨rfl, rfl⟩ | ⟨a, len, cap, zs, rfl, _, hl, hm, hz, rfl, hcell, hwz⟩
  · exact ⟨_, [], rfl, fun _ => Rd.nil W, .inl ⟨rfl, rfl⟩⟩
  · have h2 : (lits (H := H) .u8 (zs.take len)).length = len := by simp only [lits, List.length_map, List.length_take]; simp at hz; omega
    have hbl : ((zs.take len).map Int.toNat).length = len := by simp at hz; simp; omega
    refine ⟨_, (zs.take len).map Int.toNat, rfl, fun hB => ⟨_, _, _, rfl, hbl, hl, ⟨by unfold maxLen at hm; omega, by omega⟩, by simp, ?_, ?_⟩, .inr ⟨_, _, rfl, by rw [h2, hbl]⟩⟩
    · intro y hy
      obtain ⟨z, hz1, rfl⟩ := List.mem_map.1 hy
      have := byte_of_wf (hwz z (List.mem_of_mem_take hz1)); omega
    · intro hp
      simp at hz
      have hc0 := hcell 0 (by omega)
      obtain ⟨b, off, spot⟩ := a
      have hspot : spot = none := by simpa [Addr.add] using World.cell?_spot hc0
      subst hspot
      refine ⟨b, off, rfl, fun i hi => ?_⟩
      have hc := hcell i (by omega)
      have hzi : i < zs.length := by omega
      rw [Addr.add_mid] at hc
      rw [hc]
      have hw := byte_of_wf (hwz (zs[i]) (List.getElem_mem hzi))
      simp only [List.getD_eq_getElem?_getD, List.getElem?_eq_getElem hzi, Option.getD_some, List.getElem?_map, List.getElem?_take, hi, if_true, Option.map_some]
      simp [u8]; omega
/-- Their length, by the reach. -/
theorem reach_bytes {ts : List TypeId} {ds : List (DataW H)} (h : (DataW.weightsEach Tryd.prog ts ds).all (· ≤ reachBytes) = true) {j : Nat} (ht : ts[j]? = some 86) {d : DataW H} (hd : ds[j]? = some d) {bs : List Nat}
    (hx : (bs = [] ∧ d = .nil) ∨ ∃ elems spare, d = .slice elems spare ∧ elems.length = bs.length) : bs.length ≤ 140737488351232 := by
  rcases hx with ⟨rfl, _⟩ | ⟨elems, spare, rfl, he⟩
  · simp
  · have := sized_slice h ht hd Tryd.underlying86
    rw [Tryd.bytes5, Nat.mul_one] at this
    unfold reachBytes at this
    omega
/-- Their length, by the bulk. -/
theorem bulk_bytes {d : DataW H} {bs : List Nat} (hx : (bs = [] ∧ d = .nil) ∨ ∃ elems spare, d = .slice elems spare ∧ elems.length = bs.length) : bs.length + 1 ≤ Rows.uptoBulk d := by
  rcases hx with ⟨rfl, rfl⟩ | ⟨elems, spare, rfl, he⟩
  · simp [Rows.uptoBulk]
  · have := bulk_len elems
    simp only [Rows.uptoBulk]; omega
end
end Go.Proofs.YtecadmldnjlibaaDoor
namespace Go.Proofs.YtecadmldnjlibaaDoor
open Go Go.RowKit
set_option linter.unusedVariables false
set_option linter.unusedSimpArgs false
section
variable {H : Type} {enc : TypeId × Value → H} {W : World}

def natOf : Value → Nat
  | .int _ n => n.toNat
  | _ => 0
/-- A digest that came in. -/
theorem open_dig {fuel : Nat} {cs : List Value} {x : DataW H × List MemPlace} (h : DataW.trod enc Tryd.prog W 0 (fun _ => true) true fuel 41 cs = some x) :
    ∃ l : List Nat, cs = l.map u8 ∧ l.length = 32 ∧ ∀ y ∈ l, y < 256 := by
  obtain ⟨xs, m, _, rfl, hl, hn, hc⟩ := DataW.trod_array Tryd.underlying41 h
  rw [show Tryd.prog.cellsOf 41 = 32 from by kernel_rfl] at hl
  rw [show Tryd.prog.cellsOf 5 = 1 from by kernel_rfl] at hc
  have key : ∀ i (hi : i < cs.length), cs[i] = u8 (natOf cs[i]) ∧ natOf cs[i] < 256 := by
    intro i hi
    have h1 := hc i (by omega)
    rw [Nat.mul_one, List.getElem?_eq_getElem (by omega)] at h1
    obtain ⟨n, e, _, hw⟩ := DataW.trod_int Tryd.underlying5 h1
    rw [List.drop_eq_getElem_cons hi, List.take_succ_cons, List.take_zero] at e
    simp only [List.cons.injEq, and_true] at e
    have := byte_of_wf hw
    rw [e]
    refine ⟨?_, ?_⟩
    · simp [u8, natOf]; omega
    · simp [natOf]; omega
  refine ⟨cs.map natOf, ?_, by simp [hl], ?_⟩
  · rw [List.map_map]
    refine List.ext_getElem (by simp) fun i h1 h2 => ?_
    rw [List.getElem_map]
    exact (key i h1).1
  · intro y hy
    obtain ⟨v, hv, rfl⟩ := List.mem_map.1 hy
    obtain ⟨i, hi, rfl⟩ := List.getElem_of_mem hv
    exact (key i hi).2
set_option maxRecDepth 100000 in
theorem open_digv {b0 : Nat} {v : Value} {d : DataW H} {ps : List MemPlace} (hv : Value.okWide Tryd.prog W .any b0 41 v) (h : DataW.Trod enc Tryd.prog W 0 (fun _ => true) true 41 v d ps) :
    ∃ l : List Nat, v = .agg (brow l) ∧ l.length = 32 ∧ ∀ y ∈ l, y < 256 := by
  unfold Value.okWide at hv
  rw [Tryd.underlying41] at hv
  obtain ⟨cs, rfl, _, _⟩ := hv
  obtain ⟨fuel, hf⟩ := h
  obtain ⟨l, e, h1, h2⟩ := open_dig hf
  refine ⟨l, ?_, h1, h2⟩
  simp only [Value.cells] at e
  unfold brow
  rw [← e]
end
end Go.Proofs.YtecadmldnjlibaaDoor
namespace Go.Proofs.YtecadmldnjlibaaDoor
open Go.RowKit
set_option linter.unusedVariables false
set_option linter.unusedSimpArgs false

/-- The slice value v reads as these numbers of 64 bits. -/
def RdQ (w : World) (v : Value) (xs : List Nat) : Prop :=
  ∃ (ao : Option Addr) (len cap : Nat), v = .slice ao len cap ∧ xs.length = len ∧ len ≤ cap ∧ cap ≤ 9223372036854775807 ∧ (∀ x ∈ xs, x < 18446744073709551616) ∧
    (0 < len → ∃ b off, ao = some ⟨b, off, none⟩ ∧ ∀ i, i < len → w.cell? ⟨b, off + i, none⟩ = some (.int .u64 ((xs.getD i 0 : Nat) : Int)))
theorem RdQ.old {w0 w : World} {v : Value} {ws : List Nat} (h : RdQ w0 v ws) (k : Kept [] w0 w) : RdQ w v ws := by
  obtain ⟨ao, len, cap, rfl, h1, h2, h3, h5, h6⟩ := h
  refine ⟨ao, len, cap, rfl, h1, h2, h3, h5, fun hp => ?_⟩
  obtain ⟨b, off, rfl, hc⟩ := h6 hp
  exact ⟨b, off, rfl, fun i hi => k.cell (hc i hi) (by simp)⟩
end Go.Proofs.YtecadmldnjlibaaDoor
namespace Go.Proofs.YtecadmldnjlibaaDoor
open Go.ChangeShapes Go.WideShapes Go.ChangeAt Go.RowKit Go.Deep
set_option linter.unusedVariables false
set_option linter.unusedSimpArgs false
section
variable {H : Type} {enc : TypeId × Value → H} {W : World}

/-- Digests that came in. -/
theorem open_digs2 {fuel : Nat} {cs : List Value} {x : DataW H × List MemPlace} (h : DataW.trod enc Tryd.prog W 0 (fun _ => true) true fuel 32 cs = some x) (hB : Rows.uptoBulk x.1 ≤ 1048576) :
    ∃ v ds, cs = [v] ∧ RdD W v ds ∧ ds.length ≤ 1048576 := by
  rcases open_slice Tryd.underlying32 h with ⟨rfl, rfl⟩ | ⟨a, len, cap, m, n, D, Pl, rfl, _, hl, hm, hmm, rfl, hx⟩
  · exact ⟨_, [], rfl, ⟨none, 0, 0, rfl, rfl, Nat.le_refl _, by omega, fun d hd => by simp at hd, fun h => by omega⟩, by simp⟩
  · have hC : Tryd.prog.cellsOf 41 = 32 := by kernel_rfl
    rw [hC] at hx
    simp only [if_true] at hmm
    simp only [Rows.uptoBulk] at hB
    have hcap : cap ≤ 1048576 := by
      have h1 := bulk_len ((List.range len).map D)
      have h2 := bulk_len ((List.range (m - len)).map fun j => D (len + j))
      simp at h1 h2
      omega
    obtain ⟨f, hf⟩ := choose_lt (α := List Nat) (n := len) (p := fun i o => (∀ j v, (o.map u8)[j]? = some v → W.cell? ((a.add (i * 32)).add j) = some v) ∧ o.length = 32 ∧ ∀ y ∈ o, y < 256) (by
      intro i hi
      obtain ⟨cs', h1, h2⟩ := hx i (by omega)
      obtain ⟨l, rfl, hl1, hl2⟩ := open_dig h2
      obtain ⟨_, hlen, hc⟩ := World.cells?_some h1
      refine ⟨l, fun j v hv => ?_, hl1, hl2⟩
      have hj := (List.getElem?_eq_some_iff.1 hv).1
      have := hc j (by rw [List.length_map] at hj; omega)
      rw [this, ← hv, List.getElem?_eq_getElem hj])
    refine ⟨_, (List.range len).map f, rfl, ⟨some a, len, cap, rfl, by simp, hl, by omega, ?_, ?_⟩, by simp; omega⟩
    · intro d hd
      obtain ⟨i, hi, rfl⟩ := List.mem_map.1 hd
      exact (hf i (List.mem_range.1 hi)).2
    · intro hp
      obtain ⟨b, off, spot⟩ := a
      have h0 := hf 0 hp
      have hc0 := h0.1 0 (u8 ((f 0).getD 0 0)) (by rw [List.getElem?_map, List.getD_eq_getElem?_getD, List.getElem?_eq_getElem (by omega)]; rfl)
      have hspot : spot = none := by simpa [Addr.add] using World.cell?_spot hc0
      subst hspot
      refine ⟨b, off, rfl, fun i hi j v hv => ?_⟩
      have e9 : ((List.range len).map f).getD i [] = f i := by simp [List.getD_eq_getElem?_getD, hi]
      rw [e9] at hv
      have := (hf i hi).1 j v hv
      rw [Addr.add_mid, Addr.add_mid] at this
      exact this

/-- Numbers of 64 bits that came in. -/
theorem open_u64s {fuel : Nat} {cs : List Value} {x : DataW H × List MemPlace} (h : DataW.trod enc Tryd.prog W 0 (fun _ => true) true fuel 69 cs = some x) :
    ∃ v ws, cs = [v] ∧ RdQ W v ws := by
  rcases open_ints Tryd.underlying69 Tryd.underlying49 (by kernel_rfl) h with ⟨rfl, rfl⟩ | ⟨a, len, cap, zs, rfl, _, hl, hm, hz, rfl, hcell, hwz⟩
  · exact ⟨_, [], rfl, ⟨none, 0, 0, rfl, rfl, Nat.le_refl _, by omega, by simp, fun h => by omega⟩⟩
  · have hbl : ((zs.take len).map Int.toNat).length = len := by simp at hz; simp; omega
    have hwf : ∀ y ∈ zs, 0 ≤ y ∧ y < 18446744073709551616 := by
      intro y hy
      have h9 := hwz y hy
      simp [Lit.wf, IntKind.min, IntKind.max, IntKind.signed, IntKind.bits] at h9
      omega
    refine ⟨_, (zs.take len).map Int.toNat, rfl, ⟨_, _, _, rfl, hbl, hl, by unfold maxLen at hm; omega, ?_, ?_⟩⟩
    · intro y hy
      obtain ⟨u, hu, rfl⟩ := List.mem_map.1 hy
      have := hwf u (List.mem_of_mem_take hu)
      omega
    · intro hp
      simp at hz
      have hc0 := hcell 0 (by omega)
      obtain ⟨b, off, spot⟩ := a
      have hspot : spot = none := by simpa [Addr.add] using World.cell?_spot hc0
      subst hspot
      refine ⟨b, off, rfl, fun i hi => ?_⟩
      have hc := hcell i (by omega)
      have hzi : i < zs.length := by omega
      have hzm := hwf (zs[i]) (List.getElem_mem hzi)
      rw [Addr.add_mid] at hc
      rw [hc]
      simp [List.getD_eq_getElem?_getD, List.getElem?_take, hi, hzi]
      omega

end
end Go.Proofs.YtecadmldnjlibaaDoor
namespace Go.Proofs.YtecadmldnjlibaaDoor
open Go.ChangeShapes Go.WideShapes Go.ChangeAt Go.RowKit Go.Deep
set_option linter.unusedVariables false
set_option linter.unusedSimpArgs false
section
variable {H : Type} {enc : TypeId × Value → H} {W : World}

theorem gw_bulk_part {d : DataW H} {l : List (DataW H)} (h : d ∈ l) : Rows.uptoBulk d ≤ Rows.uptoBulkAll l := by
  induction l with
  | nil => cases h
  | cons x r ih =>
    simp only [Rows.uptoBulkAll]
    cases List.mem_cons.1 h with
    | inl e => subst e; omega
    | inr e => have := ih e; omega
/-- Growths that came in. -/
theorem open_growths {fuel : Nat} {cs : List Value} {x : DataW H × List MemPlace} (h : DataW.trod enc Tryd.prog W 0 (fun _ => true) true fuel 22 cs = some x) (hB : Rows.uptoBulk x.1 ≤ 1048576) :
    ∃ v gs, cs = [v] ∧ RdG W v gs ∧ gs.length ≤ 1048576 := by
  rcases open_slice_pairs Tryd.underlying22 Tryd.underlying34 (by kernel_rfl) rfl rfl (by kernel_rfl) (by kernel_rfl) h with ⟨rfl, rfl⟩ | ⟨a, len, cap, m, n, V0, V1, D0, D1, P0, P1, rfl, _, hl, hm, hmm, rfl, hx⟩
  · exact ⟨_, [], rfl, ⟨none, 0, 0, fun _ => undef, rfl, rfl, Nat.le_refl _, by omega, fun i h => by omega, fun h => by omega⟩, by simp⟩
  · simp only [if_true] at hmm
    simp only [Rows.uptoBulk] at hB
    have hlen : len ≤ 1048576 := by
      have h1 := bulk_len ((List.range len).map fun i => DataW.agg [D0 i, D1 i])
      simp at h1
      omega
    obtain ⟨f, hf⟩ := choose_lt (α := Int × List (List Nat)) (n := len) (p := fun i o => V0 i = .int .i64 o.1 ∧ (-9223372036854775808 ≤ o.1 ∧ o.1 ≤ 9223372036854775807) ∧ RdD W (V1 i) o.2 ∧ o.2.length ≤ 1048576) (by
      intro i hi
      obtain ⟨_, _, h0, h1⟩ := hx i (by omega)
      have hDi : Rows.uptoBulk (.agg [D0 i, D1 i]) ≤ Rows.uptoBulkAll ((List.range len).map fun i => .agg [D0 i, D1 i]) := gw_bulk_part (List.mem_map.2 ⟨i, List.mem_range.2 hi, rfl⟩)
      simp only [Rows.uptoBulk, Rows.uptoBulkAll] at hDi
      obtain ⟨k, e0, _, w0⟩ := DataW.trod_int Tryd.underlying3 h0
      obtain ⟨v, ds, e1, hr1, hb1⟩ := open_digs2 h1 (by simp only; omega)
      simp only [List.cons.injEq, and_true] at e0 e1
      subst e1
      exact ⟨(k, ds), e0, int_of_wf w0, hr1, hb1⟩)
    refine ⟨_, (List.range len).map f, rfl, ⟨some a, len, cap, V1, rfl, by simp, hl, by unfold maxLen at hm; omega, ?_, ?_⟩, by simp; omega⟩
    · intro i hi
      have e9 : ((List.range len).map f).getD i (0, []) = f i := by simp [List.getD_eq_getElem?_getD, hi]
      rw [e9]
      exact (hf i hi).2
    · intro hp
      obtain ⟨b, off, spot⟩ := a
      have hc0 := (hx 0 (by omega)).1
      have hspot : spot = none := by simpa [Addr.add] using World.cell?_spot hc0
      subst hspot
      refine ⟨b, off, rfl, fun i hi => ?_⟩
      have e9 : ((List.range len).map f).getD i (0, []) = f i := by simp [List.getD_eq_getElem?_getD, hi]
      have hc := hx i (by omega)
      rw [Addr.add_mid, Addr.add_mid] at hc
      rw [e9]
      intro j u hu
      rcases (by omega : j = 0 ∨ j = 1 ∨ 2 ≤ j) with rfl | rfl | h9
      · simp at hu; subst hu; rw [Nat.add_zero, hc.1, (hf i hi).1]
      · simp at hu; subst hu; exact hc.2.1
      · rw [List.getElem?_eq_none (by simp; omega)] at hu; simp at hu
end
end Go.Proofs.YtecadmldnjlibaaDoor
