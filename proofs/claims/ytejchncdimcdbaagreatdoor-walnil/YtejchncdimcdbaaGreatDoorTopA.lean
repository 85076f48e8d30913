import Derived.Test.YtejchncdimcdbaaGreatDoorCJn
import Derived.Test.YtejchncdimcdbaaGreatDoorCrcRef
import Derived.Test.YtejchncdimcdbaaGreatDoorReMore
import Derived.Test.YtejchncdimcdbaaGreatDoorCrc
import Derived.Test.YtejchncdimcdbaaGreatDoorWNew
import Derived.Test.YtejchncdimcdbaaGreatDoorRNum
import Derived.Laws.Cover3
import Derived.Test.YtejchncdimcdbaaGreatDoorQLate
import Derived.Deep.RegionHeld3
import Derived.Test.YtejchncdimcdbaaGreatDoorDk18
import Derived.Test.YtejchncdimcdbaaGreatDoorDk22
import Derived.Test.YtejchncdimcdbaaGreatDoorDkP
import Derived.Shelf.Small.Bits
import Derived.Shelf.Strconv.Itoa1
import Derived.Shelf.LaysM
import Derived.Shelf.Strconv.Itoa2
import Derived.Shelf.Pu.ParseUintPublic10
import Derived.Shelf.Pu.ErrVarParseUint
import Derived.Shelf.Sort.Plain
import Derived.Test.YtejchncdimcdbaaGreatDoorProg
import Derived.Maps.AppendAt
import Derived.Sort.OwnSorted
import Derived.Sort.KeysCollected
import Derived.Test.YtejchncdimcdbaaGreatDoorJoin
import Derived.BigFrame
import Derived.Lib.ConvBytes
import Derived.Laws.AppendOwn
import Derived.Lib.ItoaNum
import Derived.Test.YtejchncdimcdbaaGreatDoorSame
import Derived.Lib.AppendIntMem
import Derived.Lib.ParseIntBCases
import Derived.Deep.DeepAppendRoom
import Derived.ArgAppend
import Derived.Test.YtejchncdimcdbaaGreatDoorCat
import Derived.Test.YtejchncdimcdbaaGreatDoorWAll
namespace Go.Proofs.YtejchncdimcdbaaGreatDoor
open Go.RowKit
set_option linter.unusedVariables false
set_option linter.unusedSimpArgs false

end Go.Proofs.YtejchncdimcdbaaGreatDoor
namespace Go.Proofs.YtejchncdimcdbaaGreatDoor
open Go.RowKit
set_option linter.unusedVariables false
set_option linter.unusedSimpArgs false

end Go.Proofs.YtejchncdimcdbaaGreatDoor
/-
  Plain reckoning: the bytes of a frame. No program.
-/
namespace Go.Proofs.YtejchncdimcdbaaGreatDoor
set_option linter.unusedVariables false
set_option linter.unusedSimpArgs false

theorem f_fold_form (r : List Nat) : ∀ a, (∀ y ∈ r, y < 256) → ∃ s, s < 256 ^ r.length ∧ r.foldl (fun a c => a * 256 + c) a = a * 256 ^ r.length + s := by
  induction r with
  | nil => intro a _; exact ⟨0, by simp, by simp⟩
  | cons c r ih =>
    intro a hb
    obtain ⟨s, hs, e⟩ := ih (a * 256 + c) (fun y hy => hb y (by simp [hy]))
    have hc := hb c (by simp)
    refine ⟨c * 256 ^ r.length + s, ?_, ?_⟩
    · simp only [List.length_cons]
      rw [Nat.pow_succ]
      have : c * 256 ^ r.length ≤ 255 * 256 ^ r.length := Nat.mul_le_mul (by omega) (Nat.le_refl _)
      omega
    · simp only [List.foldl_cons, List.length_cons]
      rw [e, Nat.pow_succ, Nat.add_mul, Nat.mul_comm (256 ^ r.length) 256, ← Nat.mul_assoc]; omega
theorem f_wide_fold (r : List Nat) : ∀ a, (∀ y ∈ r, y < 256) → wide (r.foldl (fun a c => a * 256 + c) a) r.length = r := by
  induction r with
  | nil => intro a _; rfl
  | cons c r ih =>
    intro a hb
    have hb' : ∀ y ∈ r, y < 256 := fun y hy => hb y (by simp [hy])
    have hc := hb c (by simp)
    obtain ⟨s, hs, e⟩ := f_fold_form r (a * 256 + c) hb'
    have h2 := ih (a * 256 + c) hb'
    simp only [List.foldl_cons, List.length_cons, wide]
    rw [h2, e]
    have hp : 0 < 256 ^ r.length := Nat.pow_pos (by omega)
    have : ((a * 256 + c) * 256 ^ r.length + s) / 256 ^ r.length = a * 256 + c := by
      rw [Nat.add_comm, Nat.add_mul_div_right _ _ hp, Nat.div_eq_of_lt hs, Nat.zero_add]
    rw [this]
    congr 1; omega
theorem f_fold_mod (r : List Nat) : ∀ a, (∀ y ∈ r, y < 256) → (a + 1) * 256 ^ r.length ≤ 18446744073709551616 → r.foldl (fun a c => (a * 256 + c) % 18446744073709551616) a = r.foldl (fun a c => a * 256 + c) a := by
  induction r with
  | nil => intro a _ _; rfl
  | cons c r ih =>
    intro a hb h
    have hc := hb c (by simp)
    simp only [List.foldl_cons]
    have hp : 0 < 256 ^ r.length := Nat.pow_pos (by omega)
    simp only [List.length_cons, Nat.pow_succ] at h
    have h2 : (a * 256 + c + 1) * 256 ^ r.length ≤ (a + 1) * (256 ^ r.length * 256) := by
      rw [Nat.mul_comm (256 ^ r.length) 256, ← Nat.mul_assoc]
      exact Nat.mul_le_mul (by omega) (Nat.le_refl _)
    have h3 : a * 256 + c + 1 ≤ (a * 256 + c + 1) * 256 ^ r.length := Nat.le_mul_of_pos_right _ hp
    rw [Nat.mod_eq_of_lt (by omega)]
    exact ih _ (fun y hy => hb y (by simp [hy])) (by omega)
theorem f_wide_beL {r : List Nat} (hb : ∀ y ∈ r, y < 256) (hl : r.length ≤ 8) : wide (beL r) r.length = r ∧ beL r < 256 ^ r.length := by
  have hpow : 256 ^ r.length ≤ 256 ^ 8 := Nat.pow_le_pow_right (by omega) hl
  have h8 : (256 : Nat) ^ 8 = 18446744073709551616 := (by decide)
  have e : beL r = r.foldl (fun a c => a * 256 + c) 0 := f_fold_mod r 0 hb (by omega)
  obtain ⟨s, hs, e2⟩ := f_fold_form r 0 hb
  rw [e]
  exact ⟨f_wide_fold r 0 hb, by rw [e2]; omega⟩
/-- The check sum's text, and the sum. -/
def txF (pl : Nat) (pay : List Nat) : List Nat := wide pay.length 4 ++ (wide pl 8 ++ pay)
def sumF (pl : Nat) (pay : List Nat) : Nat := upd 0 (txF pl pay)
/-- The bytes of a frame. -/
def frB (pl : Nat) (pay : List Nat) : List Nat := 245 :: (wide pay.length 4 ++ (wide pl 8 ++ (wide (sumF pl pay) 4 ++ (pay ++ [95]))))
theorem frB_len (pl : Nat) (pay : List Nat) : (frB pl pay).length = pay.length + 18 := by simp [frB, wide_len]; omega
theorem txF_byte {pl : Nat} {pay : List Nat} (hb : ∀ x ∈ pay, x < 256) : ∀ x ∈ txF pl pay, x < 256 := by
  intro x hx
  simp only [txF, List.mem_append] at hx
  rcases hx with h | h | h
  · exact wide_byte _ _ _ h
  · exact wide_byte _ _ _ h
  · exact hb x h
theorem sumF_lt {pl : Nat} {pay : List Nat} (hb : ∀ x ∈ pay, x < 256) : sumF pl pay < 4294967296 := upd_lt (by decide) (txF_byte hb)
/-- The frame with which p begins. -/
def firstF (p : List Nat) : Option (Nat × List Nat) :=
  if p.getD 0 0 = 245 ∧ 1 ≤ beL ((p.drop 1).take 4) ∧ beL ((p.drop 1).take 4) ≤ 65535 ∧ 17 + beL ((p.drop 1).take 4) < p.length ∧ p.getD (17 + beL ((p.drop 1).take 4)) 0 = 95 ∧
      sumF (beL ((p.drop 5).take 8)) ((p.drop 17).take (beL ((p.drop 1).take 4))) = beL ((p.drop 13).take 4)
  then some (beL ((p.drop 5).take 8), (p.drop 17).take (beL ((p.drop 1).take 4))) else none
theorem firstF_form {p : List Nat} {pl : Nat} {pay : List Nat} (h : firstF p = some (pl, pay)) (hb : ∀ x ∈ p, x < 256) :
    pl < 18446744073709551616 ∧ 1 ≤ pay.length ∧ pay.length ≤ 65535 ∧ (∀ x ∈ pay, x < 256) ∧ p = frB pl pay ++ p.drop (pay.length + 18) := by
  unfold firstF at h
  split at h
  case isFalse => simp at h
  rename_i hc
  obtain ⟨c1, c2, c3, c4, c5, c6⟩ := hc
  simp only [Option.some.injEq, Prod.mk.injEq] at h
  obtain ⟨h1, h2⟩ := h
  have hd : ∀ a n x, x ∈ (p.drop a).take n → x < 256 := fun a n x hx => hb x (List.mem_of_mem_drop (List.mem_of_mem_take hx))
  have l4 : ((p.drop 1).take 4).length = 4 := by simp; omega
  have l8 : ((p.drop 5).take 8).length = 8 := by simp; omega
  have ls : ((p.drop 13).take 4).length = 4 := by simp; omega
  have w4 := f_wide_beL (hd 1 4) (by omega)
  have w8 := f_wide_beL (hd 5 8) (by omega)
  have ws := f_wide_beL (hd 13 4) (by omega)
  rw [l4] at w4
  rw [l8] at w8
  rw [ls] at ws
  have hpn : pay.length = beL ((p.drop 1).take 4) := by rw [← h2, List.length_take, List.length_drop]; omega
  have hpb : ∀ x ∈ pay, x < 256 := fun x hx => hd 17 _ x (by rw [← h2] at hx; exact hx)
  refine ⟨by rw [← h1]; have := w8.2; simpa using this, by omega, by omega, hpb, ?_⟩
  rw [h2, h1] at c6
  rw [h1] at w8
  unfold frB
  rw [c6, hpn, w4.1, w8.1, ws.1]
  have e0 : p = p.getD 0 0 :: p.drop 1 := by
    cases p with
    | nil => simp at c4
    | cons a r => rfl
  have e1 : p.drop 1 = (p.drop 1).take 4 ++ p.drop 5 := by rw [show 5 = 1 + 4 by rfl, ← List.drop_drop, List.take_append_drop]
  have e5 : p.drop 5 = (p.drop 5).take 8 ++ p.drop 13 := by rw [show 13 = 5 + 8 by rfl, ← List.drop_drop, List.take_append_drop]
  have e13 : p.drop 13 = (p.drop 13).take 4 ++ p.drop 17 := by rw [show 17 = 13 + 4 by rfl, ← List.drop_drop, List.take_append_drop]
  have e17 : p.drop 17 = pay ++ p.drop (17 + pay.length) := by rw [hpn, ← List.drop_drop, ← h2, List.take_append_drop]
  have e18 : p.drop (17 + pay.length) = [95] ++ p.drop (pay.length + 18) := by
    rw [hpn]
    rw [show beL ((p.drop 1).take 4) + 18 = 17 + beL ((p.drop 1).take 4) + 1 by omega]
    rw [List.drop_eq_getElem_cons c4]
    rw [List.getD_eq_getElem?_getD, List.getElem?_eq_getElem c4] at c5
    simp only [Option.getD_some] at c5
    rw [c5]; rfl
  rw [← hpn]
  conv => lhs; rw [e0, c1, e1, e5, e13, e17, e18]
  simp
end Go.Proofs.YtejchncdimcdbaaGreatDoor
namespace Go.Proofs.YtejchncdimcdbaaGreatDoor
open Go.RowKit
set_option linter.unusedVariables false
set_option linter.unusedSimpArgs false

set_option maxRecDepth 100000 in
set_option maxHeartbeats 1000000 in
theorem sumOf_any (pl : Nat) (v : Value) (p : List Nat) (w : World) (h : Rd w v p) (hpl : pl < 18446744073709551616) (hl : p.length ≤ 65535) :
    Calls Tryz.prog 151 #[.int .u64 pl, v] w fun e w' => e = .returned (.int .u32 (sumF pl p)) ∧ Kept [] w w' := by
  have H := hide h
  obtain ⟨a1, n1, c1, rfl, hn1, _⟩ := id h
  subst hn1
  clear h
  go_enter Tryz.func151, Tryz.ntmps151
  have HW0 := hide (Wn.start (Kept.refl [] w))
  go_wp2_with fail
  refine Calls.mono (wn_u32 p.length (unhide HW0) (by omega) (by simp)) ?_
  rintro e w1 ⟨rfl, v1, h1⟩
  have HW1 := hide h1
  clear h1 HW0
  go_wp2_with fail
  refine Calls.mono (wn_u64 pl (unhide HW1) (by simp [wide_len])) ?_
  rintro e w2 ⟨rfl, v2, h2⟩
  have HW2 := hide h2
  clear h2 HW1
  go_wp2_with fail
  refine Calls.mono (wn_bytes (unhide HW2) (by simp [wide_len])) ?_
  rintro e w3 ⟨v3, rfl, n3, k3⟩
  have HR3 := hide n3.1
  have HK3 := hide k3
  have HP3 := hide ((unhide H).old k3 (by simp))
  clear n3 k3 HW2
  go_wp2_with fail
  refine Calls.mono (sum_any v3 _ w3 (unhide HR3)) ?_
  rintro e w4 ⟨rfl, rfl⟩
  go_wp2_with fail
  refine Calls.mono (update_any _ _ p w4 (upd_lt (by decide) (unhide HR3).byte) (unhide HP3)) ?_
  rintro e w5 ⟨rfl, rfl⟩
  rw [← upd_append]
  go_wp2
  go_ret
  refine ⟨?_, unhide HK3⟩
  simp [sumF, txF, List.append_assoc]
theorem Wn.pass {w0 w w' : World} {b : Nat} {v : Value} {bs : List Nat} (h : Wn w0 w b v bs) (k : Kept [] w w') : Wn w0 w' b v bs :=
  ⟨h.at_.kept k (by simp) (by simp), h.new, h.hb, h.kept.trans k (by simp)⟩
/-- What Encode answers. -/
def encE (p : List Nat) : Nat := if 65535 < p.length then 2 else if p.length = 0 then 3 else 0
def encB (pl : Nat) (p : List Nat) : List Nat := if encE p = 0 then frB pl p else []
set_option maxRecDepth 100000 in
set_option maxHeartbeats 1000000 in
theorem encode_any (pl : Nat) (v : Value) (p : List Nat) (w : World) (h : Rd w v p) (hpl : pl < 18446744073709551616) :
    Calls Tryz.prog 105 #[.agg #[.int .u64 pl, v]] w fun e w' => ∃ v', e = .returned (.tuple #[v', .int .i64 (encE p)]) ∧ NewB w w' v' (encB pl p) ∧ Kept [] w w' := by
  have H := hide h
  obtain ⟨a1, n1, c1, rfl, hn1, _⟩ := id h
  subst hn1
  clear h
  by_cases h1 : 65535 < p.length
  · have h1' : (65535 : Int) < p.length := by omega
    have HE := hide (by simp [encE, h1] : encE p = 2)
    have HB := hide (by simp [encB, unhide HE] : encB pl p = [])
    rw [unhide HE, unhide HB]
    clear h1
    go_enter Tryz.func105, Tryz.ntmps105
    go_wp2
    go_ret2
    exact ⟨_, rfl, NewB.nil _ _, (Kept.refl [] w).alloc _⟩
  by_cases h0 : p.length = 0
  · have h1' : ¬ (65535 : Int) < p.length := by omega
    have h0' : (p.length : Int) = 0 := by omega
    have HE := hide (by simp [encE, h0] : encE p = 3)
    have HB := hide (by simp [encB, unhide HE] : encB pl p = [])
    rw [unhide HE, unhide HB]
    clear h1
    go_enter Tryz.func105, Tryz.ntmps105
    go_wp2
    go_ret2
    exact ⟨_, rfl, NewB.nil _ _, (Kept.refl [] w).alloc _⟩
  have h1' : ¬ (65535 : Int) < p.length := by omega
  have h0' : ¬ (p.length : Int) = 0 := by omega
  have HE := hide (by simp [encE, h0, h1] : encE p = 0)
  have HB := hide (by simp [encB, unhide HE] : encB pl p = frB pl p)
  rw [unhide HE, unhide HB]
  have hl : p.length ≤ 65535 := by omega
  clear h1 h0
  go_enter Tryz.func105, Tryz.ntmps105
  have HK0 := hide ((Kept.refl [] w).alloc (.cells #[.int .u64 (pl : Int), .slice a1 p.length c1] 187))
  have HC0 := hide (heap_alloc_new w (.cells #[.int .u64 (pl : Int), .slice a1 p.length c1] 187))
  go_wp2_with fail
  obtain ⟨W, hW⟩ : ∃ W, w.alloc (.cells #[.int .u64 (pl : Int), .slice a1 p.length c1] 187) = W := ⟨_, rfl⟩
  have hWs : W.heap.size = w.heap.size + 1 := by rw [← hW]; simp
  rw [hW] at HK0 HC0 ⊢
  clear hW
  have HW0 := hide (Wn.start (Kept.refl [] W))
  rw [hWs] at HW0
  refine Calls.mono (wn_u8 245 (unhide HW0) (by decide) (by simp)) ?_
  rintro e w1 ⟨rfl, v1, h1⟩
  have HW1 := hide h1
  have c1a : w1.cell? ⟨w.heap.size, 1, none⟩ = some (.slice a1 p.length c1) := h1.kept.cell (by rw [cell_of_row _ _ _ _ _ _ (unhide HC0)]; rfl) (by simp)
  clear h1 HW0
  go_wp2_with fail
  refine Calls.mono (wn_u32 p.length (unhide HW1) (by omega) (by simp [wide_len])) ?_
  rintro e w2 ⟨rfl, v2, h2⟩
  have HW2 := hide h2
  have c2 : w2.cell? ⟨w.heap.size, 0, none⟩ = some (.int .u64 pl) := h2.kept.cell (by rw [cell_of_row _ _ _ _ _ _ (unhide HC0)]; rfl) (by simp)
  clear h2 HW1 c1a
  go_wp2_with fail
  refine Calls.mono (wn_u64 pl (unhide HW2) (by simp [wide_len])) ?_
  rintro e w3 ⟨rfl, v3, h3⟩
  have HW3 := hide h3
  have c3 : w3.cell? ⟨w.heap.size, 0, none⟩ = some (.int .u64 pl) := h3.kept.cell (by rw [cell_of_row _ _ _ _ _ _ (unhide HC0)]; rfl) (by simp)
  have c3' : w3.cell? ⟨w.heap.size, 1, none⟩ = some (.slice a1 p.length c1) := h3.kept.cell (by rw [cell_of_row _ _ _ _ _ _ (unhide HC0)]; rfl) (by simp)
  clear h3 HW2 c2
  go_wp2_with fail
  refine Calls.mono (sumOf_any pl _ p w3 ((unhide H).old ((unhide HK0).trans (unhide HW3).kept (by simp)) (by simp)) hpl hl) ?_
  rintro e w4 ⟨rfl, k4⟩
  have HW4 := hide ((unhide HW3).pass k4)
  clear k4 HW3 c3 c3'
  go_wp2_with fail
  refine Calls.mono (wn_u32 (sumF pl p) (unhide HW4) (sumF_lt (unhide H).byte) (by simp [wide_len])) ?_
  rintro e w5 ⟨rfl, v5, h5⟩
  have HW5 := hide h5
  have c5' : w5.cell? ⟨w.heap.size, 1, none⟩ = some (.slice a1 p.length c1) := h5.kept.cell (by rw [cell_of_row _ _ _ _ _ _ (unhide HC0)]; rfl) (by simp)
  clear h5 HW4
  go_wp2_with fail
  refine Calls.mono (wn_raw (unhide HW5) ((unhide H).old ((unhide HK0).trans (unhide HW5).kept (by simp)) (by simp)) (by simp [wide_len]; omega)) ?_
  rintro e w6 ⟨rfl, v6, h6⟩
  have HW6 := hide h6
  clear h6 HW5 c5'
  go_wp2_with fail
  refine Calls.mono (wn_u8 95 (unhide HW6) (by decide) (by simp [wide_len]; omega)) ?_
  rintro e w7 ⟨rfl, v7, h7⟩
  have HW7 := hide h7
  clear h7 HW6
  go_wp2_with fail
  refine Calls.mono (wn_bytes (unhide HW7) (by simp [wide_len]; omega)) ?_
  rintro e w8 ⟨v8, rfl, n8, k8⟩
  have HN8 := hide n8
  have HK8 := hide ((unhide HK0).trans k8 (by simp))
  clear n8 k8
  go_wp2
  go_ret2
  refine ⟨_, rfl, ?_, unhide HK8⟩
  have e9 : [] ++ wide 245 1 ++ wide p.length 4 ++ wide pl 8 ++ wide (sumF pl p) 4 ++ p ++ wide 95 1 = frB pl p := by
    simp [frB, wide, List.append_assoc]
  rw [e9] at HN8
  exact (unhide HN8).weak (unhide HK0).size
end Go.Proofs.YtejchncdimcdbaaGreatDoor
namespace Go.Proofs.YtejchncdimcdbaaGreatDoor
open Go.RowKit
set_option linter.unusedVariables false
set_option linter.unusedSimpArgs false

theorem Kept.setRow {L : List Nat} {a w : World} (h : Kept L a w) {g : Nat} (hg : g ∈ L ∨ a.heap.size ≤ g) (cs : Array Value) : Kept L a (w.setRow g cs) :=
  h.trans (M := [g]) ⟨rfl, rfl, rfl, by simp [World.setRow], fun k _ hn => setRow_other w g k _ (by simpa using hn)⟩ (by simpa using hg)
theorem f_results_cell_tmp {P : Program} {fn : Func} {p q : Tmp} {ty : TypeId} (h : fn.results = #[.cell p ty, .tmp q]) (tmps : Array Value) (w : World) (g : Nat) (t : TypeId) (cs : Array Value) (fr : Nat × Nat) (d : TypeDesc)
    (hp : tmps.getD p undef = .pointer (some ⟨g, 0, none⟩)) (hg : w.heap[g]? = some (.cells cs t fr))
    (hu : P.underlying ty = some d) (hd : (match d with | .struct _ | .array _ _ => true | _ => false) = true) (hi : (P.info? ty).map (·.size) = some cs.size) (v : Value) (hq : tmps.getD q undef = v) :
    (results fn tmps).run P w = .ok (.tuple #[.agg cs, v]) w := by
  have hp' : tmps[p]?.getD undef = .pointer (some ⟨g, 0, none⟩) := by simpa using hp
  have hq' : tmps[q]?.getD undef = v := by simpa using hq
  simp [results, h, hp', hq', asAddr, run_loadVar_row w g t ty cs fr d hg hu hd hi]
theorem put2_heap {w : World} {g : Nat} {a b : Value} {t : TypeId} (h : w.heap[g]? = some (.cells #[a, b] t (0, 0))) (x y : Value) : ((w.setCell ⟨g, 0, none⟩ x).setCell ⟨g, 1, none⟩ y).heap[g]? = some (.cells #[x, y] t (0, 0)) := by
  rw [heap_setCell_same _ g 1 _ t _ (heap_setCell_same w g 0 _ t _ h)]; rfl
theorem put2_kept {w0 w : World} (k : Kept [] w0 w) (g : Nat) (hg : w0.heap.size ≤ g) (x y : Value) : Kept [] w0 ((w.setCell ⟨g, 0, none⟩ x).setCell ⟨g, 1, none⟩ y) := (k.setCell (Or.inr hg) x).setCell (Or.inr hg) y
theorem put2_kept' (w : World) (g : Nat) (x y : Value) : Kept [g] w ((w.setCell ⟨g, 0, none⟩ x).setCell ⟨g, 1, none⟩ y) := ((Kept.refl [g] w).setCell (Or.inl (by simp)) x).setCell (Or.inl (by simp)) y
theorem Tryz.size_frame : (Tryz.prog.info? 187).map (·.size) = some 2 := by kernel_rfl
set_option maxRecDepth 100000 in
set_option maxHeartbeats 1000000 in
theorem ru32_any (b : Nat) (gv : Value) (p : List Nat) (i e : Nat) (w : World) (h : ReAt w b gv p i e) :
    Calls Tryz.prog 210 #[.pointer (some ⟨b, 0, none⟩)] w fun r w' => r = .returned (.int .u32 ((rNum p i e 4).1 % 4294967296 : Nat)) ∧ ReAt w' b gv p (rNum p i e 4).2.1 (rNum p i e 4).2.2 ∧ Kept [b] w w' := by
  have HR := hide h
  have hlt := ru_lt p i e 4
  obtain ⟨x, hx⟩ : ∃ x, (rNum p i e 4).1 = x := ⟨_, rfl⟩
  rw [hx] at hlt ⊢
  have Hx := hide hx
  clear h hx
  go_enter Tryz.func210, Tryz.ntmps210
  go_wp2_with (go_at_call 242; go_must (refine (rnum_any b gv p i e 4 _ (unhide HR) (by omega)).mono ?_; rintro r w1 ⟨rfl, h1, h2⟩; rw [unhide Hx]; have H1 := hide h1; have H2 := hide h2; clear h1 h2))
  go_ret
  exact ⟨by simp, unhide H1, unhide H2⟩
set_option maxRecDepth 100000 in
set_option maxHeartbeats 1000000 in
theorem ru64_any (b : Nat) (gv : Value) (p : List Nat) (i e : Nat) (w : World) (h : ReAt w b gv p i e) :
    Calls Tryz.prog 211 #[.pointer (some ⟨b, 0, none⟩)] w fun r w' => r = .returned (.int .u64 ((rNum p i e 8).1 : Nat)) ∧ ReAt w' b gv p (rNum p i e 8).2.1 (rNum p i e 8).2.2 ∧ Kept [b] w w' := by
  have HR := hide h
  have hlt := ru_lt p i e 8
  obtain ⟨x, hx⟩ : ∃ x, (rNum p i e 8).1 = x := ⟨_, rfl⟩
  rw [hx] at hlt ⊢
  have Hx := hide hx
  clear h hx
  go_enter Tryz.func211, Tryz.ntmps211
  go_wp2_with (go_at_call 242; go_must (refine (rnum_any b gv p i e 8 _ (unhide HR) (by omega)).mono ?_; rintro r w1 ⟨rfl, h1, h2⟩; rw [unhide Hx]; have H1 := hide h1; have H2 := hide h2; clear h1 h2))
  go_ret
  exact ⟨by simp, unhide H1, unhide H2⟩
theorem rNum_at {p : List Nat} {i n m : Nat} (hm : i + n ≤ m) (hl : m ≤ p.length) : rNum (p.take m) i 0 n = (beL ((p.drop i).take n), i + n, 0) := by
  have e : ((p.take m).drop i).take n = (p.drop i).take n := by rw [List.drop_take, List.take_take, Nat.min_eq_left (by omega)]
  unfold rNum
  rw [if_neg (by simp), if_neg (by rw [List.length_take]; omega), e]
theorem Rd.take0 {w : World} {ao : Option Addr} {cap n : Nat} {p : List Nat} (h : Rd w (.slice ao p.length cap) p) (hn : n ≤ p.length) : Rd w (.slice ao n cap) (p.take n) := by
  obtain ⟨ao', len', cap', he, _, h2, ⟨h3, h3'⟩, h4, h5, h6⟩ := h
  cases he
  refine ⟨_, _, _, rfl, by rw [List.length_take]; omega, by omega, ⟨by omega, by omega⟩, h4, fun x hx => h5 x (List.mem_of_mem_take hx), fun hp => ?_⟩
  obtain ⟨b, off, rfl, hc⟩ := h6 (by omega)
  refine ⟨b, off, rfl, fun i hi => ?_⟩
  rw [hc i (by omega), List.getD_eq_getElem?_getD, List.getD_eq_getElem?_getD, List.getElem?_take, if_pos hi]
theorem Rd.drop17 {w : World} {b off cap : Nat} {p : List Nat} (h : Rd w (.slice (some ⟨b, off, none⟩) p.length cap) p) (n : Nat) (hn : 17 + n ≤ p.length) : Rd w (.slice (some ⟨b, off + 17, none⟩) n (cap - 17)) ((p.drop 17).take n) := by
  obtain ⟨ao', len', cap', he, _, h2, ⟨h3, h3'⟩, h4, h5, h6⟩ := h
  cases he
  refine ⟨_, _, _, rfl, by rw [List.length_take, List.length_drop]; omega, by omega, ⟨by omega, by omega⟩, fun h => by simp at h, fun x hx => h5 x (List.mem_of_mem_drop (List.mem_of_mem_take hx)), fun hp => ?_⟩
  obtain ⟨b', off', e, hc⟩ := h6 (by omega)
  cases e
  refine ⟨b, off + 17, rfl, fun i hi => ?_⟩
  have := hc (17 + i) (by omega)
  rw [Nat.add_assoc, this, List.getD_eq_getElem?_getD, List.getD_eq_getElem?_getD, List.getElem?_take, if_pos hi, List.getElem?_drop]
/-- What first tells. -/
def fstPl (p : List Nat) : Nat := (firstF p).elim 0 (·.1)
def fstPay (p : List Nat) : List Nat := (firstF p).elim [] (·.2)
theorem Tryz.lt_of_beL {p : List Nat} (h : ∀ x ∈ p, x < 256) (i n : Nat) (hn : n ≤ 8) : beL ((p.drop i).take n) < 256 ^ n := by
  have := (f_wide_beL (r := (p.drop i).take n) (fun y hy => h y (List.mem_of_mem_drop (List.mem_of_mem_take hy))) (by rw [List.length_take]; omega)).2
  exact Nat.lt_of_lt_of_le this (Nat.pow_le_pow_right (by omega) (by rw [List.length_take]; omega))
theorem firstF_short {p : List Nat} (h : p.length < 18) : firstF p = none := by
  unfold firstF
  rw [if_neg]
  rintro ⟨_, h1, _, h2, _⟩
  omega
theorem getD_drop0 (p : List Nat) (h : ∀ x ∈ p, x < 256) (hp : 0 < p.length) : beL ((p.drop 0).take 1) = p.getD 0 0 := by
  cases p with
  | nil => simp at hp
  | cons a r =>
    have := h a (by simp)
    simp [beL]
    omega
set_option maxRecDepth 100000 in
set_option maxHeartbeats 1000000 in
theorem clone_any (v : Value) (p : List Nat) (w : World) (h : Rd w v p) (hp : 0 < p.length) :
    Calls Tryz.prog 212 #[v] w fun e w' => ∃ v', e = .returned v' ∧ Rd w' v' p ∧ (∀ x ∈ blk v', w.heap.size ≤ x) ∧ Kept [] w w' := by
  have H := hide h
  obtain ⟨a1, n1, c1, rfl, hn1, hc1, ⟨hc2, hc3⟩, hc4, hc5, hc6⟩ := id h
  subst hn1
  obtain ⟨b, off, rfl, _⟩ := hc6 hp
  clear h hc6 hc5 hc4
  have HO := hide (World.ownsRow_made (base := w.heap.size) (e := 5) (size := 1) w #[] 0 (Nat.le_refl _) (by unfold maxLen; omega) (by simp))
  go_enter Tryz.func212, Tryz.ntmps212
  have hq : ∀ W : World, (binOp .eql 72 (.slice (some ⟨b, off, none⟩) p.length c1) (.slice none 0 0)).run Tryz.prog W = .ok (.bool false) W := by
    intro W
    simp only [binOp]
    simp [run_equal_slice_nil W 72 5 (some ⟨b, off, none⟩) p.length c1 Tryz.underlying72]
  go_wp2_with (at_builtin; refine wpList_appendAll rfl (.tmp 5) (.tmp 6) rfl rfl _ w.heap.size (.slice (some ⟨w.heap.size, 0, none⟩) 0 0) [] p (some ⟨b, off, none⟩) p.length c1 (unhide HO) ((unhide H).old ((Kept.refl [] w).alloc _) (by simp)) (by simp; omega) (by simp) rfl rfl ?_; intro ao1 cap1 w1 HO1 HG1 HA1; simp only [List.nil_append, List.length_nil, Nat.zero_add] at HO1 HA1; have HK1 := hide (((Kept.refl [] w).alloc _).grown (unhide HG1) (by intro k hk; right; simp [Value.ownBlock] at hk; omega)); clear HG1)
  go_ret
  refine ⟨_, rfl, rd_owns (unhide HO1) (unhide H).byte hc3, ?_, unhide HK1⟩
  intro x hx
  cases ao1 with
  | none => simp [blk] at hx
  | some a => simp [blk] at hx; subst hx; exact ((unhide HO1).lt a.block rfl).1
/-- What first's payload is: new memory. -/
def NewP (w w' : World) (v : Value) (bs : List Nat) : Prop := Rd w' v bs ∧ ∀ x ∈ blk v, w.heap.size ≤ x
theorem NewP.nil (w w' : World) : NewP w w' (.slice none 0 0) [] := ⟨Rd.nil _, by simp [blk]⟩
set_option maxRecDepth 100000 in
set_option maxHeartbeats 2000000 in
theorem first_any (v : Value) (p : List Nat) (w : World) (h : Rd w v p) :
    Calls Tryz.prog 160 #[v] w fun e w' => ∃ v', e = .returned (.tuple #[.agg #[.int .u64 (fstPl p), v'], .bool (firstF p).isSome]) ∧ NewP w w' v' (fstPay p) ∧ Kept [] w w' := by
  have H := hide h
  obtain ⟨a1, n1, c1, rfl, hn1, hc1, ⟨hc2, hc3⟩, _, _, hcell⟩ := id h
  subst hn1
  clear h
  by_cases h18 : p.length < 18
  · have h18' : (p.length : Int) < 18 := by omega
    have HF := hide (firstF_short h18)
    have e1 : fstPl p = 0 := by simp [fstPl, unhide HF]
    have e2 : fstPay p = [] := by simp [fstPay, unhide HF]
    rw [e1, e2, unhide HF]
    clear e1 e2 hcell
    go_enter Tryz.func160, Tryz.ntmps160
    go_wp2
    refine bodyPost_ret (v := .tuple #[.agg #[.int .u64 0, .slice none 0 0], .bool false]) ?_ rfl ⟨_, rfl, NewP.nil _ _, (Kept.refl [] w).alloc _⟩
    exact f_results_cell_tmp rfl _ _ w.heap.size _ #[.int .u64 0, .slice none 0 0] (0, 0) _ rfl (heap_alloc_new _ _) Tryz.underlying187 rfl Tryz.size_frame _ rfl
  have h18' : ¬ (p.length : Int) < 18 := by omega
  obtain ⟨bb, off, rfl, hcl⟩ := hcell (by omega)
  have HCL := hide hcl
  clear hcell hcl
  have hb := (unhide H).byte
  have t17 := (unhide H).take0 (n := 17) (by omega)
  have HT := hide t17
  have Hn1 := hide (rNum_at (p := p) (i := 0) (n := 1) (m := 17) (by omega) (by omega))
  have Hn4 := hide (rNum_at (p := p) (i := 1) (n := 4) (m := 17) (by omega) (by omega))
  have Hn8 := hide (rNum_at (p := p) (i := 5) (n := 8) (m := 17) (by omega) (by omega))
  have Hns := hide (rNum_at (p := p) (i := 13) (n := 4) (m := 17) (by omega) (by omega))
  have ln := Tryz.lt_of_beL hb 1 4 (by omega)
  have lpl := Tryz.lt_of_beL hb 5 8 (by omega)
  have ls := Tryz.lt_of_beL hb 13 4 (by omega)
  rw [getD_drop0 p hb (by omega)] at Hn1
  have HFF := hide (rfl : firstF p = firstF p)
  unfold Hid at HFF
  conv at HFF => rhs; unfold firstF
  have lb : p.getD 0 0 < 256 := hb _ (by rw [List.getD_eq_getElem?_getD, List.getElem?_eq_getElem (show 0 < p.length by omega)]; exact List.getElem_mem _)
  obtain ⟨b0, hb0⟩ : ∃ x, p.getD 0 0 = x := ⟨_, rfl⟩
  obtain ⟨n, hn⟩ : ∃ x, beL ((p.drop 1).take 4) = x := ⟨_, rfl⟩
  obtain ⟨pl, hpl⟩ : ∃ x, beL ((p.drop 5).take 8) = x := ⟨_, rfl⟩
  obtain ⟨s, hs⟩ : ∃ x, beL ((p.drop 13).take 4) = x := ⟨_, rfl⟩
  rw [hn] at Hn4 HFF ln
  rw [hpl] at Hn8 HFF lpl
  rw [hs] at Hns HFF ls
  rw [hb0] at Hn1 HFF lb
  have HF := hide HFF
  clear HFF t17 hb0 hn hpl hs hb
  obtain ⟨X, hX⟩ : ∃ x, fstPl p = x := ⟨_, rfl⟩
  obtain ⟨Y, hY⟩ : ∃ x, fstPay p = x := ⟨_, rfl⟩
  obtain ⟨Z, hZ⟩ : ∃ x, (firstF p).isSome = x := ⟨_, rfl⟩
  rw [hX, hY, hZ]
  have HX := hide hX
  have HY := hide hY
  have HZ := hide hZ
  clear hX hY hZ
  go_enter Tryz.func160, Tryz.ntmps160
  have HZ0 := hide (heap_alloc_new w (.cells #[.int .u64 0, .slice none 0 0] 187))
  have HK0 := hide ((Kept.refl [] w).alloc (.cells #[.int .u64 0, .slice none 0 0] 187))
  go_wp2_with fail
  obtain ⟨W, hW⟩ : ∃ W, w.alloc (.cells #[.int .u64 0, .slice none 0 0] 187) = W := ⟨_, rfl⟩
  rw [hW] at HK0 HZ0 ⊢
  clear hW
  refine Calls.mono (newReader_any _ (p.take 17) W ((unhide HT).old (unhide HK0) (by simp))) ?_
  rintro e w1 ⟨b, gv, rfl, hb1, r1, hg1, k1⟩
  have HR1 := hide r1
  have HK1 := hide k1
  have Hb := hide hb1
  clear r1 k1 hg1 hb1
  go_wp2_with fail
  refine Calls.mono (ru8_any b gv (p.take 17) 0 0 w1 (unhide HR1)) ?_
  rintro e w2 ⟨rfl, r2, k2⟩
  rw [unhide Hn1] at r2 ⊢
  rw [show (b0, 0 + 1, 0).1 % 256 = b0 from Nat.mod_eq_of_lt lb]
  have HR2 := hide r2
  have HK2 := hide (((unhide HK1).trans k2 (by have := unhide Hb; simp; omega)))
  clear r2 k2 HR1 HK1
  go_wp2_with fail
  refine Calls.mono (ru32_any b gv (p.take 17) 1 0 w2 (unhide HR2)) ?_
  rintro e w3 ⟨rfl, r3, k3⟩
  rw [unhide Hn4] at r3 ⊢
  rw [show (n, 1 + 4, 0).1 % 4294967296 = n from Nat.mod_eq_of_lt ln]
  have HR3 := hide r3
  have HK3 := hide (((unhide HK2).trans k3 (by have := unhide Hb; simp; omega)))
  clear r3 k3 HR2 HK2
  go_wp2_with fail
  refine Calls.mono (ru64_any b gv (p.take 17) 5 0 w3 (unhide HR3)) ?_
  rintro e w4 ⟨rfl, r4, k4⟩
  rw [unhide Hn8] at r4 ⊢
  have HR4 := hide r4
  have HK4 := hide (((unhide HK3).trans k4 (by have := unhide Hb; simp; omega)))
  clear r4 k4 HR3 HK3
  go_wp2_with fail
  refine Calls.mono (ru32_any b gv (p.take 17) 13 0 w4 (unhide HR4)) ?_
  rintro e w5 ⟨rfl, r5, k5⟩
  rw [unhide Hns]
  rw [show (s, 13 + 4, 0).1 % 4294967296 = s from Nat.mod_eq_of_lt ls]
  have HK5 := hide (((unhide HK4).trans k5 (by have := unhide Hb; simp; omega)))
  clear r5 k5 HR4 HK4
  simp only
  have HZ5 := hide ((unhide HK5).heap (unhide HZ0) (by simp))
  have HKW := hide ((unhide HK0).trans (unhide HK5) (by simp))
  have HNO := hide (fun (h : firstF p = none) => by
    rw [← unhide HX, ← unhide HY, ← unhide HZ]
    exact ⟨by simp [fstPl, h], by simp [fstPay, h], by rw [h]; rfl⟩ : firstF p = none → X = 0 ∧ Y = [] ∧ Z = false)
  have HQ0 := hide (put2_heap (unhide HZ5) (.int .u64 0) (.slice none 0 0))
  have HKQ := hide (put2_kept (unhide HKW) w.heap.size (Nat.le_refl _) (.int .u64 0) (.slice none 0 0))
  have d0 : w5.cell? ⟨w.heap.size, 0, none⟩ = some (.int .u64 0) := by rw [cell_of_row _ _ _ _ _ _ (unhide HZ5)]; rfl
  have d1 : w5.cell? ⟨w.heap.size, 1, none⟩ = some (.slice none 0 0) := by rw [cell_of_row _ _ _ _ _ _ (unhide HZ5)]; rfl
  have f0 : w5.frozen? ⟨w.heap.size, 0, none⟩ = false := frozen_of_row _ _ _ _ _ (unhide HZ5)
  have f1 : w5.frozen? ⟨w.heap.size, 1, none⟩ = false := frozen_of_row _ _ _ _ _ (unhide HZ5)
  by_cases hA0 : b0 = 245
  · subst hA0
    by_cases hA1 : n = 0
    · have HFn := hide (unhide HNO (by rw [unhide HF, if_neg]; rintro ⟨_, h, _⟩; omega))
      subst hA1
      go_wp2
      refine bodyPost_ret (v := .tuple #[.agg #[.int .u64 0, .slice none 0 0], .bool false]) ?_ rfl ⟨_, by rw [(unhide HFn).1, (unhide HFn).2.2]; rfl, by rw [(unhide HFn).2.1]; exact NewP.nil _ _, unhide HKQ⟩
      exact f_results_cell_tmp rfl _ _ w.heap.size _ #[.int .u64 0, .slice none 0 0] (0, 0) _ rfl (unhide HQ0) Tryz.underlying187 rfl Tryz.size_frame _ rfl
    have hA1' : ((n : Int) == 0) = false := by rw [beq_eq_false_iff_ne]; omega
    by_cases hA2 : 65535 < n
    · have HFn := hide (unhide HNO (by rw [unhide HF, if_neg]; rintro ⟨_, _, h, _⟩; omega))
      have hA2' : (65535 : Int) < n := by omega
      go_wp2
      refine bodyPost_ret (v := .tuple #[.agg #[.int .u64 0, .slice none 0 0], .bool false]) ?_ rfl ⟨_, by rw [(unhide HFn).1, (unhide HFn).2.2]; rfl, by rw [(unhide HFn).2.1]; exact NewP.nil _ _, unhide HKQ⟩
      exact f_results_cell_tmp rfl _ _ w.heap.size _ #[.int .u64 0, .slice none 0 0] (0, 0) _ rfl (unhide HQ0) Tryz.underlying187 rfl Tryz.size_frame _ rfl
    have hA2' : ¬ (65535 : Int) < n := by omega
    by_cases hB : 17 + n < p.length
    · have hB' : (17 : Int) + n < p.length := by omega
      have hB2 : ¬ (p.length : Int) ≤ 17 + n := by omega
      have cE := (unhide HKW).cell (unhide HCL (17 + n) hB) (by simp)
      obtain ⟨pe, hpe⟩ : ∃ x, p.getD (17 + n) 0 = x := ⟨_, rfl⟩
      rw [hpe] at cE HF
      clear hpe
      by_cases hE : pe = 95
      · subst hE
        have HPD := hide (((unhide H).drop17 n (by omega)).old (unhide HKW) (by simp))
        go_wp2_with fail
        refine Calls.mono (sumOf_any pl _ ((p.drop 17).take n) w5 (unhide HPD) lpl (by rw [List.length_take]; omega)) ?_
        rintro e w6 ⟨rfl, k6⟩
        have HZ6 := hide (k6.heap (unhide HZ5) (by simp))
        have HKW6 := hide ((unhide HKW).trans k6 (by simp))
        have HPD6 := hide ((unhide HPD).old k6 (by simp))
        have HQ6 := hide (put2_heap (unhide HZ6) (.int .u64 0) (.slice none 0 0))
        have HKQ6 := hide (put2_kept (unhide HKW6) w.heap.size (Nat.le_refl _) (.int .u64 0) (.slice none 0 0))
        clear k6 d0 d1 f0 f1
        have d0 : w6.cell? ⟨w.heap.size, 0, none⟩ = some (.int .u64 0) := by rw [cell_of_row _ _ _ _ _ _ (unhide HZ6)]; rfl
        have d1 : w6.cell? ⟨w.heap.size, 1, none⟩ = some (.slice none 0 0) := by rw [cell_of_row _ _ _ _ _ _ (unhide HZ6)]; rfl
        have f0 : w6.frozen? ⟨w.heap.size, 0, none⟩ = false := frozen_of_row _ _ _ _ _ (unhide HZ6)
        have f1 : w6.frozen? ⟨w.heap.size, 1, none⟩ = false := frozen_of_row _ _ _ _ _ (unhide HZ6)
        obtain ⟨q, hq⟩ : ∃ q, (p.drop 17).take n = q := ⟨_, rfl⟩
        have hql : q.length = n := by rw [← hq, List.length_take, List.length_drop]; omega
        rw [hq] at HPD6 HF ⊢
        clear hq
        obtain ⟨t, ht⟩ : ∃ t, sumF pl q = t := ⟨_, rfl⟩
        rw [ht] at HF ⊢
        clear ht
        by_cases hS : t = s
        · subst hS
          have HFs := hide (by rw [unhide HF, if_pos (by simp; omega)] : firstF p = some (pl, q))
          have HV := hide (by
            rw [← unhide HX, ← unhide HY, ← unhide HZ]
            exact ⟨by simp [fstPl, unhide HFs], by simp [fstPay, unhide HFs], by rw [unhide HFs]; rfl⟩ : X = pl ∧ Y = q ∧ Z = true)
          go_wp2_with fail
          refine Calls.mono (clone_any _ q w6 (unhide HPD6) (by omega)) ?_
          rintro e w7 ⟨v7, rfl, r7, b7, k7⟩
          obtain ⟨a7, n7, c7, hv7, _⟩ := id r7
          have HZ7 := hide (k7.heap (unhide HZ6) (by simp))
          have HQ7 := hide (put2_heap (unhide HZ7) (.int .u64 pl) v7)
          have HK7 := hide ((unhide HKW6).trans k7 (by simp))
          have hlt6 : w.heap.size < w6.heap.size := lt_of_block (unhide HZ6)
          have HN7 := hide (⟨r7.kept (put2_kept' w7 w.heap.size (.int .u64 pl) v7) (by intro x hx; have := b7 x hx; simp; omega), fun x hx => by have := b7 x hx; omega⟩ : NewP w _ v7 q)
          have HKQ7 := hide (put2_kept (unhide HK7) w.heap.size (Nat.le_refl _) (.int .u64 pl) v7)
          clear k7 d0 d1 f0 f1 r7 b7
          subst hv7
          have d0 : w7.cell? ⟨w.heap.size, 0, none⟩ = some (.int .u64 0) := by rw [cell_of_row _ _ _ _ _ _ (unhide HZ7)]; rfl
          have d1 : w7.cell? ⟨w.heap.size, 1, none⟩ = some (.slice none 0 0) := by rw [cell_of_row _ _ _ _ _ _ (unhide HZ7)]; rfl
          have f0 : w7.frozen? ⟨w.heap.size, 0, none⟩ = false := frozen_of_row _ _ _ _ _ (unhide HZ7)
          have f1 : w7.frozen? ⟨w.heap.size, 1, none⟩ = false := frozen_of_row _ _ _ _ _ (unhide HZ7)
          go_wp2
          refine bodyPost_ret (v := .tuple #[.agg #[.int .u64 pl, .slice a7 n7 c7], .bool true]) ?_ rfl ⟨.slice a7 n7 c7, by rw [(unhide HV).1, (unhide HV).2.2], by rw [(unhide HV).2.1]; exact unhide HN7, unhide HKQ7⟩
          exact f_results_cell_tmp rfl _ _ w.heap.size _ #[.int .u64 pl, .slice a7 n7 c7] (0, 0) _ rfl (unhide HQ7) Tryz.underlying187 rfl Tryz.size_frame _ rfl
        · have hS' : ((t : Int) != s) = true := by rw [bne_iff_ne]; omega
          have HFn := hide (unhide HNO (by rw [unhide HF, if_neg]; rintro ⟨_, _, _, _, _, h⟩; exact hS h))
          go_wp2
          refine bodyPost_ret (v := .tuple #[.agg #[.int .u64 0, .slice none 0 0], .bool false]) ?_ rfl ⟨_, by rw [(unhide HFn).1, (unhide HFn).2.2]; rfl, by rw [(unhide HFn).2.1]; exact NewP.nil _ _, unhide HKQ6⟩
          exact f_results_cell_tmp rfl _ _ w.heap.size _ #[.int .u64 0, .slice none 0 0] (0, 0) _ rfl (unhide HQ6) Tryz.underlying187 rfl Tryz.size_frame _ rfl
      · have hE' : ((pe : Int) != 95) = true := by rw [bne_iff_ne]; omega
        have HFn := hide (unhide HNO (by rw [unhide HF, if_neg]; rintro ⟨_, _, _, _, h, _⟩; exact hE h))
        go_wp2
        refine bodyPost_ret (v := .tuple #[.agg #[.int .u64 0, .slice none 0 0], .bool false]) ?_ rfl ⟨_, by rw [(unhide HFn).1, (unhide HFn).2.2]; rfl, by rw [(unhide HFn).2.1]; exact NewP.nil _ _, unhide HKQ⟩
        exact f_results_cell_tmp rfl _ _ w.heap.size _ #[.int .u64 0, .slice none 0 0] (0, 0) _ rfl (unhide HQ0) Tryz.underlying187 rfl Tryz.size_frame _ rfl
    · have hB' : (p.length : Int) ≤ 17 + n := by omega
      have HFn := hide (unhide HNO (by rw [unhide HF, if_neg]; rintro ⟨_, _, _, h, _⟩; exact hB h))
      go_wp2
      refine bodyPost_ret (v := .tuple #[.agg #[.int .u64 0, .slice none 0 0], .bool false]) ?_ rfl ⟨_, by rw [(unhide HFn).1, (unhide HFn).2.2]; rfl, by rw [(unhide HFn).2.1]; exact NewP.nil _ _, unhide HKQ⟩
      exact f_results_cell_tmp rfl _ _ w.heap.size _ #[.int .u64 0, .slice none 0 0] (0, 0) _ rfl (unhide HQ0) Tryz.underlying187 rfl Tryz.size_frame _ rfl
  · have hA0' : ((b0 : Int) != 245) = true := by rw [bne_iff_ne]; omega
    have HFn := hide (unhide HNO (by rw [unhide HF, if_neg]; rintro ⟨h, _⟩; exact hA0 h))
    go_wp2
    refine bodyPost_ret (v := .tuple #[.agg #[.int .u64 0, .slice none 0 0], .bool false]) ?_ rfl ⟨_, by rw [(unhide HFn).1, (unhide HFn).2.2]; rfl, by rw [(unhide HFn).2.1]; exact NewP.nil _ _, unhide HKQ⟩
    exact f_results_cell_tmp rfl _ _ w.heap.size _ #[.int .u64 0, .slice none 0 0] (0, 0) _ rfl (unhide HQ0) Tryz.underlying187 rfl Tryz.size_frame _ rfl
end Go.Proofs.YtejchncdimcdbaaGreatDoor

/-
  Laws for drawn regions with a late store, by genchain.py. No program.
-/
namespace Go.Proofs.YtejchncdimcdbaaGreatDoor
open Go Go.RowKit Go.BigFrame
set_option linter.unusedVariables false
set_option linter.unusedSimpArgs false
section
variable {P : Program} {Q : Exit → Act → World → Prop}
end
end Go.Proofs.YtejchncdimcdbaaGreatDoor
/-
  One operation: a call, by its contract.
-/
namespace Go.Proofs.YtejchncdimcdbaaGreatDoor
open Go Go.RowKit Go.BigFrame
set_option linter.unusedVariables false
set_option linter.unusedSimpArgs false

theorem wp_callN {o : Oper} {a : Act} {w : World} {K : Act → World → Prop} {Q : Exit → Act → World → Prop} {f : FuncId} {xs : Array Operand} {ts : Array TypeId} (ho : o.op = .call { callee := .value (.func f), args := xs, argTypes := ts })
    (hcl : ∀ args W, (callFunc f args).run Tryz.prog W = .ok (.enter f args) W) (us : List Value) (he : xs.toList.map a.eval = us) {R : Ending → World → Prop}
    (hc : Calls Tryz.prog f us.toArray w R) (h : ∀ e w', R e w' → ∃ v, e = .returned v ∧ K (a.put o.dst v) w') : o.wp Tryz.prog a w K Q := by
  have he2 : xs.map a.eval = us.toArray := by rw [← he]; cases xs; simp only [List.map_toArray]
  unfold Oper.wp execOp
  simp only [ho]
  have hf : a.eval (.func f) = .func (.func f) #[] #[] := rfl
  simp only [resolve, invoke, hf, he2, Sem.run_bind, Sem.run_pure, Result.andThen_ok, hcl]
  simp [Deferred.ofValue, hcl, go_sem]
  refine hc.mono ?_
  intro e w2 h2
  obtain ⟨v, rfl, h3⟩ := h e w2 h2
  exact h3
end Go.Proofs.YtejchncdimcdbaaGreatDoor
namespace Go.Proofs.YtejchncdimcdbaaGreatDoor
open Go.RowKit Go.BigFrame
set_option linter.unusedVariables false
set_option linter.unusedSimpArgs false

end Go.Proofs.YtejchncdimcdbaaGreatDoor
namespace Go.Proofs.YtejchncdimcdbaaGreatDoor
open Go.RowKit Go.BigFrame
set_option linter.unusedVariables false
set_option linter.unusedSimpArgs false

theorem ranges_heap {H : Type} {P : Program} {k : TypeId} {R : Value → Option (DataW H × List MemPlace)} {w w' : World} {b r n : Nat} {D : DataW H} {left : Lit → Bool} {cnt : Nat} (h : w.ranges P k R b r n D left cnt) (e1 : w'.heap[b]? = w.heap[b]?) (e2 : w'.heap[r]? = w.heap[r]?) : w'.ranges P k R b r n D left cnt := by
  obtain ⟨es, clock, since, seen, c0, hb, F, hs, hD, hr, rest⟩ := h
  exact ⟨es, clock, since, seen, c0, e1.trans hb, F, hs, hD, e2.trans hr, rest⟩
end Go.Proofs.YtejchncdimcdbaaGreatDoor
namespace Go.Proofs.YtejchncdimcdbaaGreatDoor
open Go.RowKit Go.BigFrame
set_option linter.unusedVariables false
set_option linter.unusedSimpArgs false

theorem keyStr_inv {key : Value} {kl : Lit} (h : keyOf Tryz.prog 9 key = some kl) : ∃ s : ByteArray, key = .string s ∧ kl = .string s.data.toList := by
  cases key <;> simp [keyOf, Tryz.underlying9, mapKey] at h
  obtain ⟨_, rfl⟩ := h
  exact ⟨_, rfl, rfl⟩
end Go.Proofs.YtejchncdimcdbaaGreatDoor
namespace Go.Proofs.YtejchncdimcdbaaGreatDoor
open Go.RowKit Go.BigFrame
set_option linter.unusedVariables false
set_option linter.unusedSimpArgs false

theorem findA_none {A : List DF} {s : List UInt8} (h : findA A s = none) : ∀ f ∈ A, f.nm.data.toList ≠ s := by
  intro f hf e
  unfold findA at h
  rw [List.find?_eq_none] at h
  exact h f hf (by simp [e])
theorem ownA_zero {A : List DF} {s : ByteArray} (h : ownA A s = 0) : isNm s = true ∧ findA A s.data.toList = none := by
  unfold ownA at h
  split at h
  · rename_i h1
    split at h
    · cases h
    · rename_i h2
      exact ⟨h1, by simpa using h2⟩
  · cases h
theorem opE_le (ft : Int → Option Int) (cr op : Int) (own : Nat) (h : own < 100) : opE ft cr op own < 100 := by
  unfold opE
  (repeat' split) <;> omega
theorem upA_mem {A : List DF} {s : ByteArray} {F : DF → DF} {y : DF} (h : y ∈ upA A s F) : ∃ x ∈ A, y = x ∨ (x.nm = s ∧ y = F x) := by
  unfold upA at h
  obtain ⟨x, hx, rfl⟩ := List.mem_map.1 h
  refine ⟨x, hx, ?_⟩
  split
  · rename_i h1; exact .inr ⟨h1, rfl⟩
  · exact .inl rfl
theorem upF_blk {fs : List DFile} {g : Nat} {v : Value} {bs : List Nat} {sy : Nat} {d m : Nat} {u fv : Value} {x : Nat} (h : x ∈ dkB d m u fv (upF fs g v bs sy)) : x ∈ dkB d m u fv fs ∨ x ∈ blk v := by
  simp only [dkB, List.mem_cons, List.mem_append, List.mem_flatMap] at h ⊢
  rcases h with h | h | h | ⟨f, hf, h⟩
  · exact .inl (.inl h)
  · exact .inl (.inr (.inl h))
  · exact .inl (.inr (.inr (.inl h)))
  · obtain ⟨a, ha, rfl⟩ := List.mem_map.1 hf
    rw [upOne_g] at h
    unfold upOne at h
    split at h
    · rcases h with h | h
      · exact .inl (.inr (.inr (.inr ⟨a, ha, .inl h⟩)))
      · exact .inr h
    · exact .inl (.inr (.inr (.inr ⟨a, ha, h⟩)))
theorem dkB_v {d m : Nat} {u fv : Value} {fs : List DFile} {a : DFile} (h : a ∈ fs) {x : Nat} (hx : x ∈ blk a.v) : x ∈ dkB d m u fv fs := by
  simp only [dkB, List.mem_cons, List.mem_append, List.mem_flatMap]
  exact .inr (.inr (.inr ⟨a, h, .inr hx⟩))
theorem nd_nm (A : List DF) : (ndA A).map DF.nm = A.map DF.nm := by unfold ndA; rw [List.map_map]; rfl
theorem dist_nd {A : List DF} (h : Dist A) : Dist (ndA A) := by rw [dist_iff, nd_nm]; exact (dist_iff A).1 h
theorem nd_abs (fs : List DFile) : (fs.map fun f => { f with nd := true }).map absF = ndA (fs.map absF) := by unfold ndA; rw [List.map_map, List.map_map]; rfl
theorem dkB_nd (d m : Nat) (u fv : Value) (fs : List DFile) : ∀ x ∈ dkB d m u fv (fs.map fun f => { f with nd := true }), x ∈ dkB d m u fv fs := by
  intro x hx
  simp only [dkB, List.mem_cons, List.mem_append, List.mem_flatMap] at hx ⊢
  rcases hx with h | h | h | ⟨f, hf, h⟩
  · exact .inl h
  · exact .inr (.inl h)
  · exact .inr (.inr (.inl h))
  · obtain ⟨a, ha, rfl⟩ := List.mem_map.1 hf
    exact .inr (.inr (.inr ⟨a, ha, h⟩))
end Go.Proofs.YtejchncdimcdbaaGreatDoor
namespace Go.Proofs.YtejchncdimcdbaaGreatDoor
open Go.RowKit Go.BigFrame
set_option linter.unusedVariables false
set_option linter.unusedSimpArgs false

theorem owns_fresh {w : World} {base g : Nat} {bs : List Nat} (h : w.heap[g]? = some (.cells (bs.map u8).toArray 5 (0, 0))) (hl : bs.length ≤ 140737488355328) (hb : base ≤ g) : w.ownsRow base 5 1 (.slice (some ⟨g, 0, none⟩) bs.length bs.length) bs.length (bs.map u8) := by
  refine ⟨by simp, .inr ⟨g, bs.length, _, rfl, hb, h, Nat.le_refl _, by unfold maxLen; omega, by simp, ?_⟩⟩
  rw [Nat.mul_one, List.toList_toArray, List.take_of_length_le (by simp)]
/-- A list of bytes that was made behind w. -/
structure NwB (w w' : World) (v : Value) (bs : List Nat) : Prop where
  own : w'.ownsRow w.heap.size 5 1 v bs.length (bs.map u8)
  byte : ∀ x ∈ bs, x < 256
  len : bs.length ≤ 140737488355328
theorem NwB.rd {w w' : World} {v : Value} {bs : List Nat} (h : NwB w w' v bs) : Rd w' v bs := rd_owns h.own h.byte h.len
theorem NwB.new {w w' : World} {v : Value} {bs : List Nat} (h : NwB w w' v bs) : ∀ x ∈ blk v, w.heap.size ≤ x := fun x hx => (h.own.lt x (blk_own h.own hx)).1
theorem read_D (d nb bb : Nat) (B : List Nat) (σ : DSt) (s : ByteArray) (w : World) (h : DK w d B nb bb σ) (hs : s.size ≤ 140737488355328) (hb : bb ≤ 140737488350000) :
    Calls Tryz.prog 33 #[.pointer (some ⟨d, 0, none⟩), .string s] w fun e w' => ∃ v, e = .returned (.tuple #[v, .int .i64 ((stRead σ s).2 : Nat)]) ∧ NwB w w' v (stRead σ s).1 ∧ Kept [] w w' := by
  obtain ⟨sec, cr, op, off, ft, A⟩ := σ
  obtain ⟨⟨m, u, fv, fs, h1, rfl, hA⟩, h2, h3, h4, h5, h6, h7⟩ := h
  dsimp only at *
  subst hA
  cases off
  · cases hf : findA (fs.map absF) s.data.toList with
    | none =>
      refine Calls.mono (read_none d sec m nb s w u fv cr op ft fs h1 hs (look_no hf)) ?_
      rintro e w' ⟨rfl, rfl⟩
      exact ⟨_, by simp only [stRead, hf]; rfl, by simp only [stRead, hf]; exact ⟨World.ownsRow_nil _ _ _ _, by simp, by simp⟩, Kept.refl _ _⟩
    | some x =>
      obtain ⟨f, hfm, hl, rfl, hnm⟩ := look_file hf
      have hfl : f.bs.length ≤ bb := h5 (absF f) (List.mem_map.2 ⟨f, hfm, rfl⟩)
      refine Calls.mono (read_some d sec m nb s w u fv cr op ft fs h1 hs f hfm hl (by omega)) ?_
      rintro e w' ⟨rfl, hk, hh⟩
      exact ⟨_, by simp only [stRead, hf]; rfl, by simp only [stRead, hf]; exact ⟨owns_fresh hh (by omega) (Nat.le_refl _), (h1.files f hfm).2.2.1, by show f.bs.length ≤ _; omega⟩, hk⟩
  · refine Calls.mono (read_off d sec m nb s w u fv cr op ft fs h1) ?_
    rintro e w' ⟨rfl, rfl⟩
    exact ⟨_, rfl, ⟨World.ownsRow_nil _ _ _ _, by simp [stRead], by simp [stRead]⟩, Kept.refl _ _⟩
end Go.Proofs.YtejchncdimcdbaaGreatDoor
namespace Go.Proofs.YtejchncdimcdbaaGreatDoor
open Go.RowKit Go.BigFrame
set_option linter.unusedVariables false
set_option linter.unusedSimpArgs false

end Go.Proofs.YtejchncdimcdbaaGreatDoor
namespace Go.Proofs
open Go.Shelf
def Tryz.lays125_ren : Go.Shelf.Ren := ⟨fun | 125 => 159 | 128 => 207 | 129 => 208 | n => n, fun | 46 => 200 | 3 => 3 | 51 => 242 | 53 => 59 | 4 => 4 | 5 => 5 | 9 => 9 | n => n, fun | n => n⟩
theorem Tryz.lays125 : Go.Proofs.Lays.n125 Tryz.prog Tryz.lays125_ren := {
  mixed := by kernel_rfl
  f125 := Tryz.func159.trans (congrArg some (by kernel_rfl))
  f128 := Tryz.func207.trans (congrArg some (by kernel_rfl))
  f129 := Tryz.func208.trans (congrArg some (by kernel_rfl))
  t3 := Tryz.underlying3
  a3 := Tryz.isAgg3
  z3 := Tryz.sizeOf3
  v3 := Tryz.zeroValue3
  t4 := Tryz.underlying4
  a4 := Tryz.isAgg4
  z4 := Tryz.sizeOf4
  v4 := Tryz.zeroValue4
  t5 := Tryz.underlying5
  a5 := Tryz.isAgg5
  z5 := Tryz.sizeOf5
  v5 := Tryz.zeroValue5
  t9 := Tryz.underlying9
  a9 := Tryz.isAgg9
  z9 := Tryz.sizeOf9
  v9 := Tryz.zeroValue9
  t46 := Tryz.underlying200
  a46 := Tryz.isAgg200
  z46 := Tryz.sizeOf200
  v46 := Tryz.zeroValue200
  t51 := Tryz.underlying242
  a51 := Tryz.isAgg242
  z51 := Tryz.sizeOf242
  v51 := Tryz.zeroValue242
  t53 := Tryz.underlying59
  a53 := Tryz.isAgg59
  z53 := Tryz.sizeOf59
  v53 := Tryz.zeroValue59 }
theorem Tryz.bits_Len (x : Int) (w : World) (h0 : 0 ≤ x) (h1 : x ≤ 18446744073709551615) :
    Calls Tryz.prog 159 #[.int .u64 x] w fun e w' => e = .returned (.int .i64 (Lib.bitLen x.toNat)) ∧ w' = w := Any.bits_Len Tryz.lays125 x w h0 h1
def Tryz.lays283_ren : Go.Shelf.Ren := ⟨fun | 283 => 168 | n => n, fun | 3 => 3 | 9 => 9 | 4 => 4 | n => n, fun | n => n⟩
theorem Tryz.lays283 : Go.Proofs.Lays.n283 Tryz.prog Tryz.lays283_ren := {
  mixed := by kernel_rfl
  f283 := Tryz.func168.trans (congrArg some (by kernel_rfl))
  t3 := Tryz.underlying3
  a3 := Tryz.isAgg3
  z3 := Tryz.sizeOf3
  v3 := Tryz.zeroValue3
  t4 := Tryz.underlying4
  a4 := Tryz.isAgg4
  z4 := Tryz.sizeOf4
  v4 := Tryz.zeroValue4
  t9 := Tryz.underlying9
  a9 := Tryz.isAgg9
  z9 := Tryz.sizeOf9
  v9 := Tryz.zeroValue9 }
open Go.Lib in
theorem Tryz.internal_strconv_small (i : Nat) (h : i < 100) (w : World) :
    Calls Tryz.prog 168 #[.int .i64 i] w fun e w' => e = .returned (.string ⟨(Lib.decDigits i).toArray⟩) ∧ w' = w := Any.internal_strconv_small Tryz.lays283 i h w
def Tryz.laysM284_ren : Go.Shelf.Ren := ⟨fun | 284 => 169 | 129 => 208 | 317 => 218 | 318 => 219 | n => n, fun | 53 => 59 | 3 => 3 | 212 => 307 | 0 => 0 | 4 => 4 | 46 => 200 | 5 => 5 | 9 => 9 | n => n, fun | 17 => 0 | n => n⟩
theorem Tryz.laysM284 : Go.Proofs.LaysM.n284 Tryz.prog Tryz.laysM284_ren := {
  mixed := by kernel_rfl
  f129 := Tryz.func208.trans (congrArg some (by kernel_rfl))
  f284 := Tryz.func169.trans (congrArg some (by kernel_rfl))
  f317 := Tryz.func218.trans (congrArg some (by kernel_rfl))
  f318 := Tryz.func219.trans (congrArg some (by kernel_rfl))
  t0 := Tryz.underlying0
  a0 := Tryz.isAgg0
  z0 := Tryz.sizeOf0
  v0 := Tryz.zeroValue0
  t3 := Tryz.underlying3
  a3 := Tryz.isAgg3
  z3 := Tryz.sizeOf3
  v3 := Tryz.zeroValue3
  t4 := Tryz.underlying4
  a4 := Tryz.isAgg4
  z4 := Tryz.sizeOf4
  v4 := Tryz.zeroValue4
  t5 := Tryz.underlying5
  a5 := Tryz.isAgg5
  z5 := Tryz.sizeOf5
  v5 := Tryz.zeroValue5
  t9 := Tryz.underlying9
  a9 := Tryz.isAgg9
  z9 := Tryz.sizeOf9
  v9 := Tryz.zeroValue9
  t46 := Tryz.underlying200
  a46 := Tryz.isAgg200
  z46 := Tryz.sizeOf200
  v46 := Tryz.zeroValue200
  t53 := Tryz.underlying59
  a53 := Tryz.isAgg59
  z53 := Tryz.sizeOf59
  v53 := Tryz.zeroValue59
  t212 := Tryz.underlying307
  a212 := Tryz.isAgg307
  z212 := Tryz.sizeOf307
  v212 := Tryz.zeroValue307
  g17 := by kernel_rfl
  i0 := by kernel_rfl
  i3 := by kernel_rfl
  i4 := by kernel_rfl
  i5 := by kernel_rfl
  i9 := by kernel_rfl
  i46 := by kernel_rfl
  i53 := by kernel_rfl
  i212 := by kernel_rfl
  m17 := by kernel_rfl }
open Go.Lib in
theorem Tryz.internal_strconv_numDigits (u : Nat) (h1 : 1 ≤ u) (h2 : u < 18446744073709551616) (w : World) (htab : Lib.TabIs Tryz.prog w "internal/strconv.uint64pow10" .u64 Lib.pow10Tab) :
    Calls Tryz.prog 169 #[.int .u64 u] w fun e w' => e = .returned (.int .i64 (Lib.nDigits u)) ∧ w' = w := Any.internal_strconv_numDigits Tryz.laysM284 u h1 h2 w htab
def Tryz.lays285_ren : Go.Shelf.Ren := ⟨fun | 285 => 170 | n => n, fun | 37 => 72 | 53 => 59 | 3 => 3 | 4 => 4 | 51 => 242 | 9 => 9 | 5 => 5 | 0 => 0 | n => n, fun | n => n⟩
theorem Tryz.lays285 : Go.Proofs.Lays.n285 Tryz.prog Tryz.lays285_ren := {
  mixed := by kernel_rfl
  f285 := Tryz.func170.trans (congrArg some (by kernel_rfl))
  t0 := Tryz.underlying0
  a0 := Tryz.isAgg0
  z0 := Tryz.sizeOf0
  v0 := Tryz.zeroValue0
  t3 := Tryz.underlying3
  a3 := Tryz.isAgg3
  z3 := Tryz.sizeOf3
  v3 := Tryz.zeroValue3
  t4 := Tryz.underlying4
  a4 := Tryz.isAgg4
  z4 := Tryz.sizeOf4
  v4 := Tryz.zeroValue4
  t5 := Tryz.underlying5
  a5 := Tryz.isAgg5
  z5 := Tryz.sizeOf5
  v5 := Tryz.zeroValue5
  t9 := Tryz.underlying9
  a9 := Tryz.isAgg9
  z9 := Tryz.sizeOf9
  v9 := Tryz.zeroValue9
  t37 := Tryz.underlying72
  a37 := Tryz.isAgg72
  z37 := Tryz.sizeOf72
  v37 := Tryz.zeroValue72
  t51 := Tryz.underlying242
  a51 := Tryz.isAgg242
  z51 := Tryz.sizeOf242
  v51 := Tryz.zeroValue242
  t53 := Tryz.underlying59
  a53 := Tryz.isAgg59
  z53 := Tryz.sizeOf59
  v53 := Tryz.zeroValue59 }
open Go.RowKit Go.Sort Go.Lib in
theorem Tryz.internal_strconv_formatBase10 (blk off cap : Nat) (u : Nat) (d : Array UInt8) (w : World) (hH : Holds (fun (b : UInt8) => Value.int .u8 (b.toNat : Int)) w blk off d) (hu : u < 10 ^ d.size) (hu64 : u < 18446744073709551616) (hsz : d.size < 4611686018427387904) :
    Calls Tryz.prog 170 #[.slice (some ⟨blk, off, none⟩) d.size cap, .int .u64 u] w fun e w' =>
      e = .returned (.tuple #[]) ∧ ∃ (n v' : Nat) (dk : Array UInt8), w' = (putRow (fun (b : UInt8) => Value.int .u8 (b.toNat : Int)) w blk off dk).drewN n ∧ FmtInv d.size u 0 v' dk := Any.internal_strconv_formatBase10 Tryz.lays285 blk off cap u d w hH hu hu64 hsz
def Tryz.laysPu14_ren : Go.Shelf.Ren := ⟨fun | 14 => 128 | 16 => 177 | 17 => 178 | 19 => 224 | 20 => 225 | 21 => 226 | 22 => 227 | 23 => 228 | 24 => 229 | 25 => 247 | 27 => 249 | 26 => 248 | 28 => 251 | 29 => 252 | 30 => 168 | 31 => 169 | 32 => 170 | 33 => 171 | 35 => 208 | 34 => 218 | 36 => 219 | 37 => 220 | 38 => 221 | 39 => 245 | 40 => 246 | n => n, fun | 9 => 9 | 3 => 3 | 22 => 59 | 24 => 209 | 25 => 214 | 4 => 4 | 34 => 312 | 5 => 5 | 36 => 200 | 37 => 72 | 0 => 0 | 39 => 314 | 21 => 21 | 44 => 327 | 47 => 269 | 50 => 336 | 48 => 334 | 2 => 2 | 52 => 260 | 55 => 263 | 59 => 307 | 60 => 242 | 20 => 20 | 61 => 308 | 65 => 332 | 66 => 333 | 67 => 168 | n => n, fun | 0 => 2 | 1 => 3 | 2 => 0 | 3 => 4 | 4 => 5 | n => n⟩
theorem Tryz.laysPu14 : Go.Proofs.LaysPu.n14 Tryz.prog Tryz.laysPu14_ren := {
  mixed := by kernel_rfl
  f14 := Tryz.func128.trans (congrArg some (by kernel_rfl))
  f16 := Tryz.func177.trans (congrArg some (by kernel_rfl))
  f17 := Tryz.func178.trans (congrArg some (by kernel_rfl))
  f19 := Tryz.func224.trans (congrArg some (by kernel_rfl))
  f20 := Tryz.func225.trans (congrArg some (by kernel_rfl))
  f21 := Tryz.func226.trans (congrArg some (by kernel_rfl))
  f22 := Tryz.func227.trans (congrArg some (by kernel_rfl))
  f23 := Tryz.func228.trans (congrArg some (by kernel_rfl))
  f24 := Tryz.func229.trans (congrArg some (by kernel_rfl))
  f25 := Tryz.func247.trans (congrArg some (by kernel_rfl))
  f26 := Tryz.func248.trans (congrArg some (by kernel_rfl))
  f27 := Tryz.func249.trans (congrArg some (by kernel_rfl))
  f28 := Tryz.func251.trans (congrArg some (by kernel_rfl))
  f29 := Tryz.func252.trans (congrArg some (by kernel_rfl))
  f30 := Tryz.func168.trans (congrArg some (by kernel_rfl))
  f31 := Tryz.func169.trans (congrArg some (by kernel_rfl))
  f32 := Tryz.func170.trans (congrArg some (by kernel_rfl))
  f33 := Tryz.func171.trans (congrArg some (by kernel_rfl))
  f34 := Tryz.func218.trans (congrArg some (by kernel_rfl))
  f35 := Tryz.func208.trans (congrArg some (by kernel_rfl))
  f36 := Tryz.func219.trans (congrArg some (by kernel_rfl))
  f37 := Tryz.func220.trans (congrArg some (by kernel_rfl))
  f38 := Tryz.func221.trans (congrArg some (by kernel_rfl))
  f39 := Tryz.func245.trans (congrArg some (by kernel_rfl))
  f40 := Tryz.func246.trans (congrArg some (by kernel_rfl))
  t0 := Tryz.underlying0
  a0 := Tryz.isAgg0
  z0 := Tryz.sizeOf0
  v0 := Tryz.zeroValue0
  i0 := by kernel_rfl
  t2 := Tryz.underlying2
  a2 := Tryz.isAgg2
  z2 := Tryz.sizeOf2
  v2 := Tryz.zeroValue2
  i2 := by kernel_rfl
  t3 := Tryz.underlying3
  a3 := Tryz.isAgg3
  z3 := Tryz.sizeOf3
  v3 := Tryz.zeroValue3
  i3 := by kernel_rfl
  t4 := Tryz.underlying4
  a4 := Tryz.isAgg4
  z4 := Tryz.sizeOf4
  v4 := Tryz.zeroValue4
  i4 := by kernel_rfl
  t5 := Tryz.underlying5
  a5 := Tryz.isAgg5
  z5 := Tryz.sizeOf5
  v5 := Tryz.zeroValue5
  i5 := by kernel_rfl
  t9 := Tryz.underlying9
  a9 := Tryz.isAgg9
  z9 := Tryz.sizeOf9
  v9 := Tryz.zeroValue9
  i9 := by kernel_rfl
  t20 := Tryz.underlying20
  a20 := Tryz.isAgg20
  z20 := Tryz.sizeOf20
  v20 := Tryz.zeroValue20
  i20 := by kernel_rfl
  t21 := Tryz.underlying21
  a21 := Tryz.isAgg21
  z21 := Tryz.sizeOf21
  v21 := Tryz.zeroValue21
  i21 := by kernel_rfl
  t22 := Tryz.underlying59
  a22 := Tryz.isAgg59
  z22 := Tryz.sizeOf59
  v22 := Tryz.zeroValue59
  i22 := by kernel_rfl
  t24 := Tryz.underlying209
  a24 := Tryz.isAgg209
  z24 := Tryz.sizeOf209
  v24 := Tryz.zeroValue209
  i24 := by kernel_rfl
  t25 := Tryz.underlying214
  a25 := Tryz.isAgg214
  z25 := Tryz.sizeOf214
  v25 := Tryz.zeroValue214
  i25 := by kernel_rfl
  t34 := Tryz.underlying312
  a34 := Tryz.isAgg312
  z34 := Tryz.sizeOf312
  v34 := Tryz.zeroValue312
  i34 := by kernel_rfl
  c34 := by kernel_rfl
  t36 := Tryz.underlying200
  a36 := Tryz.isAgg200
  z36 := Tryz.sizeOf200
  v36 := Tryz.zeroValue200
  i36 := by kernel_rfl
  t37 := Tryz.underlying72
  a37 := Tryz.isAgg72
  z37 := Tryz.sizeOf72
  v37 := Tryz.zeroValue72
  i37 := by kernel_rfl
  t39 := Tryz.underlying314
  a39 := Tryz.isAgg314
  z39 := Tryz.sizeOf314
  v39 := Tryz.zeroValue314
  i39 := by kernel_rfl
  t44 := Tryz.underlying327
  a44 := Tryz.isAgg327
  z44 := Tryz.sizeOf327
  v44 := Tryz.zeroValue327
  i44 := by kernel_rfl
  t47 := Tryz.underlying269
  a47 := Tryz.isAgg269
  z47 := Tryz.sizeOf269
  v47 := Tryz.zeroValue269
  i47 := by kernel_rfl
  t48 := Tryz.underlying334
  a48 := Tryz.isAgg334
  z48 := Tryz.sizeOf334
  v48 := Tryz.zeroValue334
  i48 := by kernel_rfl
  t50 := Tryz.underlying336
  a50 := Tryz.isAgg336
  z50 := Tryz.sizeOf336
  v50 := Tryz.zeroValue336
  i50 := by kernel_rfl
  t52 := Tryz.underlying260
  a52 := Tryz.isAgg260
  z52 := Tryz.sizeOf260
  v52 := Tryz.zeroValue260
  i52 := by kernel_rfl
  t55 := Tryz.underlying263
  a55 := Tryz.isAgg263
  z55 := Tryz.sizeOf263
  v55 := Tryz.zeroValue263
  i55 := by kernel_rfl
  t59 := Tryz.underlying307
  a59 := Tryz.isAgg307
  z59 := Tryz.sizeOf307
  v59 := Tryz.zeroValue307
  i59 := by kernel_rfl
  t60 := Tryz.underlying242
  a60 := Tryz.isAgg242
  z60 := Tryz.sizeOf242
  v60 := Tryz.zeroValue242
  i60 := by kernel_rfl
  t61 := Tryz.underlying308
  a61 := Tryz.isAgg308
  z61 := Tryz.sizeOf308
  t65 := Tryz.underlying332
  a65 := Tryz.isAgg332
  z65 := Tryz.sizeOf332
  v65 := Tryz.zeroValue332
  i65 := by kernel_rfl
  t66 := Tryz.underlying333
  a66 := Tryz.isAgg333
  z66 := Tryz.sizeOf333
  v66 := Tryz.zeroValue333
  i66 := by kernel_rfl
  t67 := Tryz.underlying168
  a67 := Tryz.isAgg168
  z67 := Tryz.sizeOf168
  v67 := Tryz.zeroValue168
  i67 := by kernel_rfl
  g0 := by kernel_rfl
  m0 := by kernel_rfl
  g1 := by kernel_rfl
  m1 := by kernel_rfl
  g2 := by kernel_rfl
  m2 := by kernel_rfl
  g3 := by kernel_rfl
  m3 := by kernel_rfl
  g4 := by kernel_rfl
  m4 := by kernel_rfl }
open Go.RowKit in
theorem Tryz.strconv_ParseUint_10_at64_ok (s : ByteArray) (hmax : s.size ≤ 9223372036854775806) (u : Nat) (h : Lib.parseUintB 64 s.data.toList = .ok u) (w : World) :
    Calls Tryz.prog 128 #[.string s, .int .i64 10, .int .i64 64] w fun e w' => e = .returned (.tuple #[.int .u64 u, .nilIface]) ∧ (w' = w ∨ w' = Lib.bytesWorld w 5 s) := Any.strconv_ParseUint_10_at64_ok Tryz.laysPu14 s hmax u h w
open Go.RowKit in
theorem Tryz.strconv_ParseUint_10_at64_syntax_var (s : ByteArray) (hlim : s.size ≤ 281474976710656) (h : Lib.parseUintB 64 s.data.toList = .«syntax») (tp : TypeId) (p : Value) (w : World) (hvar : w.var? Tryz.prog "strconv.ErrSyntax" = some #[.iface tp p]) :
    Calls Tryz.prog 128 #[.string s, .int .i64 10, .int .i64 64] w fun e w' => ∃ N, e = .returned (.tuple #[.int .u64 0, .iface 314 (.pointer (some ⟨N, 0, none⟩))]) ∧ w.heap.size ≤ N ∧ w'.heap[N]? = some (.cells #[.string ⟨#[80, 97, 114, 115, 101, 85, 105, 110, 116]⟩, .string s, .iface tp p] 327 (0, 0)) ∧ Below w.heap.size w w' := Any.strconv_ParseUint_10_at64_syntax_var Tryz.laysPu14 s hlim h tp p w hvar
open Go.RowKit in
theorem Tryz.strconv_ParseUint_10_at64_range_var (s : ByteArray) (hlim : s.size ≤ 281474976710656) (h : Lib.parseUintB 64 s.data.toList = .range) (tp : TypeId) (p : Value) (w : World) (hvar : w.var? Tryz.prog "strconv.ErrRange" = some #[.iface tp p]) :
    Calls Tryz.prog 128 #[.string s, .int .i64 10, .int .i64 64] w fun e w' => ∃ N, e = .returned (.tuple #[.int .u64 18446744073709551615, .iface 314 (.pointer (some ⟨N, 0, none⟩))]) ∧ w.heap.size ≤ N ∧ w'.heap[N]? = some (.cells #[.string ⟨#[80, 97, 114, 115, 101, 85, 105, 110, 116]⟩, .string s, .iface tp p] 327 (0, 0)) ∧ Below w.heap.size w w' := Any.strconv_ParseUint_10_at64_range_var Tryz.laysPu14 s hlim h tp p w hvar
def Tryz.lays190_ren : Go.Shelf.Ren := ⟨fun | 190 => 112 | 125 => 159 | 258 => 158 | 128 => 207 | 129 => 208 | 302 => 198 | 303 => 199 | 304 => 200 | 305 => 201 | 306 => 202 | 307 => 203 | 308 => 204 | 309 => 205 | 310 => 206 | 333 => 236 | 329 => 237 | 330 => 238 | 334 => 239 | 335 => 240 | 336 => 241 | 344 => 250 | n => n, fun | 31 => 76 | 9 => 9 | 3 => 3 | 46 => 200 | 0 => 0 | 51 => 242 | 53 => 59 | 4 => 4 | 183 => 291 | 182 => 290 | 131 => 142 | 5 => 5 | 218 => 318 | 222 => 321 | 228 => 329 | 229 => 330 | n => n, fun | n => n⟩
theorem Tryz.lays190 : Go.Proofs.Lays.n190 Tryz.prog Tryz.lays190_ren := {
  mixed := by kernel_rfl
  f125 := Tryz.func159.trans (congrArg some (by kernel_rfl))
  f128 := Tryz.func207.trans (congrArg some (by kernel_rfl))
  f129 := Tryz.func208.trans (congrArg some (by kernel_rfl))
  f190 := Tryz.func112.trans (congrArg some (by kernel_rfl))
  f258 := Tryz.func158.trans (congrArg some (by kernel_rfl))
  f302 := Tryz.func198.trans (congrArg some (by kernel_rfl))
  f303 := Tryz.func199.trans (congrArg some (by kernel_rfl))
  f304 := Tryz.func200.trans (congrArg some (by kernel_rfl))
  f305 := Tryz.func201.trans (congrArg some (by kernel_rfl))
  f306 := Tryz.func202.trans (congrArg some (by kernel_rfl))
  f307 := Tryz.func203.trans (congrArg some (by kernel_rfl))
  f308 := Tryz.func204.trans (congrArg some (by kernel_rfl))
  f309 := Tryz.func205.trans (congrArg some (by kernel_rfl))
  f310 := Tryz.func206.trans (congrArg some (by kernel_rfl))
  f329 := Tryz.func237.trans (congrArg some (by kernel_rfl))
  f330 := Tryz.func238.trans (congrArg some (by kernel_rfl))
  f333 := Tryz.func236.trans (congrArg some (by kernel_rfl))
  f334 := Tryz.func239.trans (congrArg some (by kernel_rfl))
  f335 := Tryz.func240.trans (congrArg some (by kernel_rfl))
  f336 := Tryz.func241.trans (congrArg some (by kernel_rfl))
  f344 := Tryz.func250.trans (congrArg some (by kernel_rfl))
  t0 := Tryz.underlying0
  a0 := Tryz.isAgg0
  z0 := Tryz.sizeOf0
  v0 := Tryz.zeroValue0
  t3 := Tryz.underlying3
  a3 := Tryz.isAgg3
  z3 := Tryz.sizeOf3
  v3 := Tryz.zeroValue3
  t4 := Tryz.underlying4
  a4 := Tryz.isAgg4
  z4 := Tryz.sizeOf4
  v4 := Tryz.zeroValue4
  t5 := Tryz.underlying5
  a5 := Tryz.isAgg5
  z5 := Tryz.sizeOf5
  v5 := Tryz.zeroValue5
  t9 := Tryz.underlying9
  a9 := Tryz.isAgg9
  z9 := Tryz.sizeOf9
  v9 := Tryz.zeroValue9
  t31 := Tryz.underlying76
  a31 := Tryz.isAgg76
  z31 := Tryz.sizeOf76
  v31 := Tryz.zeroValue76
  t46 := Tryz.underlying200
  a46 := Tryz.isAgg200
  z46 := Tryz.sizeOf200
  v46 := Tryz.zeroValue200
  t51 := Tryz.underlying242
  a51 := Tryz.isAgg242
  z51 := Tryz.sizeOf242
  v51 := Tryz.zeroValue242
  t53 := Tryz.underlying59
  a53 := Tryz.isAgg59
  z53 := Tryz.sizeOf59
  v53 := Tryz.zeroValue59
  t131 := Tryz.underlying142
  a131 := Tryz.isAgg142
  z131 := Tryz.sizeOf142
  v131 := Tryz.zeroValue142
  t182 := Tryz.underlying290
  a182 := Tryz.isAgg290
  z182 := Tryz.sizeOf290
  v182 := Tryz.zeroValue290
  t183 := Tryz.underlying291
  a183 := Tryz.isAgg291
  z183 := Tryz.sizeOf291
  v183 := Tryz.zeroValue291
  t218 := Tryz.underlying318
  a218 := Tryz.isAgg318
  z218 := Tryz.sizeOf318
  v218 := Tryz.zeroValue318
  t222 := Tryz.underlying321
  a222 := Tryz.isAgg321
  z222 := Tryz.sizeOf321
  v222 := Tryz.zeroValue321
  t228 := Tryz.underlying329
  a228 := Tryz.isAgg329
  z228 := Tryz.sizeOf329
  v228 := Tryz.zeroValue329
  t229 := Tryz.underlying330
  a229 := Tryz.isAgg330
  z229 := Tryz.sizeOf330
  v229 := Tryz.zeroValue330 }
open Go.Sort Go.RowKit in
theorem Tryz.slices_Sort_string (blk off cap : Nat) (ss : List (List UInt8)) (w : World) (hH : Holds encStr w blk off ss.toArray) (hblk : blk < w.heap.size) (hsz : ss.length < 4611686018427387904) :
    Calls Tryz.prog 112 #[.slice (some ⟨blk, off, none⟩) ss.length cap] w fun e w' =>
      e = .returned (.tuple #[]) ∧ ∃ n os, w' = grow (putRow encStr (Sort.ahead w n) blk off (ss.mergeSort fun x y => decide (x ≤ y)).toArray) os := Any.slices_Sort_string Tryz.lays190 blk off cap ss w hH hblk hsz
end Go.Proofs
namespace Go.Proofs.YtejchncdimcdbaaGreatDoor
open Go.RowKit Go.BigFrame
set_option linter.unusedVariables false
set_option linter.unusedSimpArgs false

set_option maxRecDepth 100000 in
set_option maxHeartbeats 1000000 in
theorem insSort_nil (w : World) : Calls Tryz.prog 198 #[.slice none 0 0, .int .i64 0, .int .i64 0] w fun e w' => e = .returned (.tuple #[]) ∧ w' = w := by
  go_enter Tryz.func198, Tryz.ntmps198
  go_wp2_with fail
  go_loopw [6] (fun t wr => t = .int .i64 1 ∧ wr = w) (fun _ _ => 0)
  case atStart => exact ⟨rfl, rfl⟩
  case round =>
    obtain ⟨rfl, rfl⟩ := hrel
    go_wp2_with fail
    exact bodyPost_end (v := .tuple #[]) (results_none rfl _ _ _) rfl ⟨rfl, rfl⟩
set_option maxRecDepth 100000 in
set_option maxHeartbeats 1000000 in
theorem pdq_nil (k : Int) (w : World) : Calls Tryz.prog 158 #[.slice none 0 0, .int .i64 0, .int .i64 0, .int .i64 k] w fun e w' => e = .returned (.tuple #[]) ∧ w' = w := by
  go_enter Tryz.func158, Tryz.ntmps158
  go_wp2_with fail
  go_loopw [1, 2] (fun t1 t2 wr => t1 = .int .i64 0 ∧ t2 = .int .i64 0 ∧ wr = w) (fun _ _ _ => 0)
  case atStart => exact ⟨rfl, rfl, rfl⟩
  case round =>
    obtain ⟨rfl, rfl, rfl⟩ := hrel
    go_wp2_with fail
    refine Calls.mono (insSort_nil _) ?_
    rintro e w1 ⟨rfl, rfl⟩
    go_wp2_with fail
    exact bodyPost_ret (v := .tuple #[]) (results_none rfl _ _ _) rfl ⟨rfl, rfl⟩
set_option maxRecDepth 100000 in
set_option maxHeartbeats 1000000 in
theorem sort_nil (w : World) : Calls Tryz.prog 112 #[.slice none 0 0] w fun e w' => e = .returned (.tuple #[]) ∧ w' = w := by
  go_enter Tryz.func112, Tryz.ntmps112
  go_wp2_with fail
  refine Calls.mono (Tryz.bits_Len 0 w (by omega) (by omega)) ?_
  rintro e w1 ⟨rfl, rfl⟩
  go_wp2_with fail
  refine Calls.mono (pdq_nil _ _) ?_
  rintro e w1 ⟨rfl, rfl⟩
  go_wp2_with fail
  exact bodyPost_end (v := .tuple #[]) (results_none rfl _ _ _) rfl ⟨rfl, rfl⟩
end Go.Proofs.YtejchncdimcdbaaGreatDoor
namespace Go.Proofs.YtejchncdimcdbaaGreatDoor
open Go.RowKit Go.BigFrame Go.Maps Go.Sort
set_option linter.unusedVariables false
set_option linter.unusedSimpArgs false

/-- The names, in the order of their bytes. -/
def srtN (A : List DF) : List (List UInt8) := (A.map fun f => f.nm.data.toList).mergeSort fun x y => decide (x ≤ y)
theorem nodup_names {A : List DF} (h : Dist A) : (A.map fun f => f.nm.data.toList).Nodup := by
  unfold List.Nodup
  rw [List.pairwise_map]
  exact List.Pairwise.imp (fun hab e => hab (ba_ext e)) h
theorem mem_names (fs : List DFile) (x : List UInt8) : (look fs x).isSome = true ↔ x ∈ (fs.map absF).map fun f => f.nm.data.toList := by
  rw [look_isSome]
  unfold findA
  rw [List.find?_isSome, List.mem_map]
  constructor
  · rintro ⟨a, ha, h⟩
    exact ⟨a, ha, by simpa using h⟩
  · rintro ⟨a, ha, h⟩
    exact ⟨a, ha, by simpa using h⟩
theorem sorted_eq {fs : List DFile} {D : DataW Unit} {left : Lit → Bool} {ss : List (List UInt8)} (hD : MapIs D (look fs)) (hd : Dist (fs.map absF)) (hC : Collected D left ss) (hl : ∀ kl, left kl = false) : ss.mergeSort (fun x y => decide (x ≤ y)) = srtN (fs.map absF) := by
  have hp : ss.Perm ((fs.map absF).map fun f => f.nm.data.toList) := by
    rw [List.perm_ext_iff_of_nodup hC.1 (nodup_names hd)]
    intro x
    rw [hC.2 x, hl, (hD x).1, mem_names]
    simp
  exact mergeSort_of_perm hp
set_option maxRecDepth 100000 in
set_option maxHeartbeats 2000000 in
theorem sorted_any (d sec m N : Nat) (w : World) (u fv : Value) (cr op : Int) (off : Bool) (ft : Int → Option Int) (fs : List DFile) (h : DkAt w d sec m N u fv cr op off ft fs) (hd : Dist (fs.map absF)) (hN : N ≤ 1000000000) :
    Calls Tryz.prog 67 #[.pointer (some ⟨d, 0, none⟩)] w fun e w' => ∃ v, e = .returned v ∧ w'.ownsRow w.heap.size 9 1 v (srtN (fs.map absF)).length ((srtN (fs.map absF)).map encStr) ∧ Kept [] w w' := by
  obtain ⟨n, D, hown, hn, hD⟩ := h.map
  have HO := hide hown
  have HD := hide hD
  have HDI := hide hd
  have hrow := h.row
  unfold DRow at hrow
  have c1 := cell_of_row _ _ 1 _ _ _ hrow
  simp at c1
  have HSZ := hide (Nat.le_trans hown.size_le hn)
  clear hown hD hrow hd h
  obtain ⟨i0, hi, hz0, hz1, hz2⟩ := info_parts (show (Tryz.prog.info? 9).map (fun i => (i.zero, i.size, i.bytes)) = some (some (.string ⟨#[]⟩), 1, 16) by kernel_rfl)
  have HI := hide hi
  have HZ0 := hide hz0
  have HZ1 := hide hz1
  have HZ2 := hide hz2
  clear hi hz0 hz1 hz2
  go_enter Tryz.func67, Tryz.ntmps67
  go_wp2_with (at_range; refine wpList_range_own _ rfl _ 97 rfl 9 103 keyS Tryz.underlying97 ptrElem m n D rfl (unhide HO) ?_; intro w0 hrg0 hg0 hs0)
  go_frame
  go_loopw [3] (fun v wr => ∃ (left : Lit → Bool) (cnt : Nat) (ss : List (List UInt8)), Hid (wr.ranges Tryz.prog 9 ptrElem m w.heap.size n D left cnt) ∧ ss.length + cnt ≤ Maps.size D ∧ Hid (wr.ownsRow w.heap.size 9 1 v ss.length (ss.map encStr)) ∧ Hid (Collected D left ss) ∧ Hid (Kept [] w wr)) (fun _ wr => wr.rangeLeft m w.heap.size)
  case atStart => exact ⟨_, _, [], hide hrg0, by simp, hide (World.ownsRow_nil _ _ _ _), hide (Collected.start D), hide ((Kept.refl [] w).grown hg0 (by intro k hk; cases hk))⟩
  case round =>
    clear hrg0 hg0 hs0
    obtain ⟨left, cnt, ss, HRG, hcs, HOW, HC, HK⟩ := hrel
    go_wp2_with (at_next; refine wpList_next_ranges _ rfl _ rfl 9 keyS ptrElem encStr ptrO (fun key kl hk => by obtain ⟨x, rfl, _⟩ := keyStr_inv hk; exact ⟨x.data.toList, rfl⟩) (fun v y hv => by rcases ptrElem_inv hv with ⟨rfl, _⟩ | ⟨g, rfl, _⟩; exact ⟨none, rfl⟩; exact ⟨some g, rfl⟩) m w.heap.size n D left cnt rfl (unhide HRG) ?_ ?_)
    · intro hc0 hl0
      have HSE := hide (sorted_eq (unhide HD) (unhide HDI) (unhide HC) hl0)
      rcases (unhide HOW).2 with ⟨rfl, hln⟩ | ⟨g, cap, cur, rfl, hbase, hb, h1, h2, h3, h4⟩
      · have hss : ss = [] := List.eq_nil_of_length_eq_zero hln
        subst hss
        clear hl0 hc0 c1
        go_wp2_with fail
        refine Calls.mono (sort_nil _) ?_
        rintro e w1 ⟨rfl, rfl⟩
        go_wp2_with fail
        go_ret
        rw [← unhide HSE, show ([] : List (List UInt8)).mergeSort (fun x y => decide (x ≤ y)) = [] by simp]
        exact ⟨_, rfl, World.ownsRow_nil _ _ _ _, unhide HK⟩
      · have hH : Holds encStr wr g 0 ss.toArray := holds_of_block hb (by simpa using h4)
        have hgl : g < wr.heap.size := (Array.getElem?_eq_some_iff.1 hb).1
        have hsort := Tryz.slices_Sort_string g 0 cap ss wr hH hgl (by have := unhide HSZ; omega)
        have HB := hide hb
        have HS := hide hsort
        clear hl0 hc0 c1 hb hH hsort h4
        go_wp2_with fail
        refine Calls.mono (unhide HS) ?_
        rintro e w' ⟨rfl, nn, os, rfl⟩
        go_wp2_with fail
        go_ret
        rw [← unhide HSE]
        refine ⟨_, rfl, ?_, (unhide HK).grown (grownBy_sorted _) (by intro k hk; injection hk with hk; subst hk; exact .inr hbase)⟩
        rw [List.length_mergeSort]
        exact ownsRow_sorted (by simp) hbase (unhide HB) h1 h2 h3
    · intro x c kl yd yp w2 cnt2 hkey hlk hv hat hrg2 hlt hg2 hs2 hen
      obtain ⟨x', ex, rfl⟩ := keyStr_inv hkey
      obtain rfl : x = x'.data.toList := by
        have : encStr x = Value.string ⟨⟨x⟩⟩ := rfl
        rw [this] at ex
        injection ex with ex
        rw [← ex]
      have hrow2 := (unhide HOW).kept hg2 (Or.inr (row_ne_iter (unhide HOW) (unhide HRG)).symm)
      have HRG2 := hide hrg2
      have HR2 := hide hrow2
      have HK2 := hide ((unhide HK).grown hg2 (by intro k hk; injection hk with hk; subst hk; exact .inr (Nat.le_refl _)))
      have HCS := hide ((unhide HC).step hlk hat)
      have HLT := hide hlt
      clear hrow2 hrg2 hg2 hs2 hlk hat hkey hv hlt ex
      go_wp2_with (at_builtin; refine wpList_append_own_at _ rfl _ _ 76 rfl w.heap.size 9 i0 (.string ⟨#[]⟩) 1 16 Tryz.underlying76 (unhide HI) (unhide HZ0) (unhide HZ1) (unhide HZ2) rfl (by decide) _ _ _ rfl ((unhide HR2).alloc _) ⟨w2.heap.size, 0, none⟩ 1 1 [encStr x'.data.toList] rfl rfl (cell_one_new _ _ _) (by simp [Value.oneCell', encStr]) (by have := unhide HSZ; unfold maxLen; omega) (by have := unhide HSZ; omega) (by have := (unhide HK2).size; simp; omega) ?_; intro v' w3 hown' hg3 hnil3 hat3; have HOW3 := hide hown'; have HG3 := hide hg3; clear hown' hg3 hnil3 hat3)
      have hrg3 := ranges_heap ((unhide HRG2).alloc _) ((unhide HG3).block m (by have := (unhide HRG2).owns.lt; simp; omega) (row_ne_low (unhide HR2) (unhide HO).lt)) ((unhide HG3).block w.heap.size (by have := (unhide HRG2).lt; simp; omega) (row_ne_iter (unhide HR2) (unhide HRG2)))
      have hk3 := ((unhide HK2).alloc (.cells #[encStr x'.data.toList] 9 (0, 0))).grown (unhide HG3) (by intro k hk; exact .inr ((unhide HR2).lt k hk).1)
      refine ⟨⟨_, cnt2, ss ++ [x'.data.toList], hide hrg3, by have := unhide HLT; simp; omega, hide (by simpa using unhide HOW3), HCS, hide hk3⟩, ?_⟩
      rw [hrg3.left_eq, (unhide HRG).left_eq]
      exact unhide HLT
end Go.Proofs.YtejchncdimcdbaaGreatDoor
namespace Go.Proofs.YtejchncdimcdbaaGreatDoor
open Go.RowKit Go.BigFrame Go.Maps Go.Sort
set_option linter.unusedVariables false
set_option linter.unusedSimpArgs false

def nmsOf (σ : DSt) : List (List UInt8) := if σ.off then [] else srtN σ.A
set_option maxRecDepth 100000 in
set_option maxHeartbeats 1000000 in
theorem namesOf_D (d nb bb : Nat) (B : List Nat) (σ : DSt) (w : World) (h : DK w d B nb bb σ) (hn : nb ≤ 1000000000) :
    Calls Tryz.prog 32 #[.pointer (some ⟨d, 0, none⟩)] w fun e w' => ∃ v, e = .returned v ∧ w'.ownsRow w.heap.size 9 1 v (nmsOf σ).length ((nmsOf σ).map encStr) ∧ Kept [] w w' := by
  obtain ⟨sec, cr, op, off, ft, A⟩ := σ
  obtain ⟨⟨m, u, fv, fs, h1, rfl, hA⟩, h2, h3, h4, h5, h6, h7⟩ := h
  dsimp only at *
  subst hA
  have HD := hide h1
  have HDI := hide h2
  clear h1 h2 h4 h5 h7
  cases off
  · show Calls Tryz.prog 32 #[.pointer (some ⟨d, 0, none⟩)] w fun e w' => ∃ v, e = .returned v ∧ w'.ownsRow w.heap.size 9 1 v (srtN (fs.map absF)).length ((srtN (fs.map absF)).map encStr) ∧ Kept [] w w'
    have HSO := hide (sorted_any d sec m nb w u fv cr op false ft fs (unhide HD) (unhide HDI) hn)
    generalize srtN (fs.map absF) = SS at HSO ⊢
    go_enter Tryz.func32, Tryz.ntmps32
    go_wp2_with fail
    refine Calls.mono (power_any d w sec m u fv cr op false (unhide HD).row) ?_
    rintro e w1 ⟨rfl, rfl⟩
    simp only [Bool.false_eq_true, if_false]
    go_wp2_with fail
    refine Calls.mono (unhide HSO) ?_
    rintro e w2 ⟨v, rfl, ho, hk⟩
    have H1 := hide ho
    have H2 := hide hk
    clear ho hk
    go_wp2_with fail
    go_ret
    exact ⟨v, rfl, unhide H1, unhide H2⟩
  · show Calls Tryz.prog 32 #[.pointer (some ⟨d, 0, none⟩)] w fun e w' => ∃ v, e = .returned v ∧ w'.ownsRow w.heap.size 9 1 v 0 [] ∧ Kept [] w w'
    go_enter Tryz.func32, Tryz.ntmps32
    go_wp2_with fail
    refine Calls.mono (power_any d w sec m u fv cr op true (unhide HD).row) ?_
    rintro e w1 ⟨rfl, rfl⟩
    simp only [if_true]
    go_wp2_with fail
    go_ret
    exact ⟨_, rfl, World.ownsRow_nil _ _ _ _, Kept.refl _ _⟩
theorem new_D (sec : Nat) (w : World) (h1 : 1 ≤ sec) (h2 : sec ≤ 4096) :
    Calls Tryz.prog 13 #[.int .i64 sec, .slice none 0 0] w fun e w' => ∃ d B, e = .returned (.tuple #[.pointer (some ⟨d, 0, none⟩), .int .i64 0]) ∧ DK w' d B 0 0 ⟨sec, 0, 0, false, fun _ => none, []⟩ ∧ Kept [] w w' ∧ ∀ x ∈ B, w.heap.size ≤ x := by
  refine Calls.mono (new_any sec w h1 h2) ?_
  rintro e w' ⟨d, m, rfl, hd, hm, hD, hK⟩
  refine ⟨d, _, rfl, ⟨⟨m, _, _, [], hD, rfl, rfl⟩, List.Pairwise.nil, ⟨by simp, by simp⟩, by simp, by simp, ⟨h1, h2⟩, by simp⟩, hK, ?_⟩
  intro x hx
  simp [dkB, blk, mblk] at hx
  rcases hx with rfl | rfl
  · exact hd
  · exact hm
set_option maxRecDepth 100000 in
set_option maxHeartbeats 1000000 in
theorem newM_D (sec : Nat) (w : World) (h1 : 1 ≤ sec) (h2 : sec ≤ 4096) :
    Calls Tryz.prog 10 #[.int .i64 sec] w fun e w' => ∃ d B, e = .returned (.tuple #[.pointer (some ⟨d, 0, none⟩), .int .i64 0]) ∧ DK w' d B 0 0 ⟨sec, 0, 0, false, fun _ => none, []⟩ ∧ Kept [] w w' ∧ ∀ x ∈ B, w.heap.size ≤ x := by
  have HN := hide (new_D sec w h1 h2)
  go_enter Tryz.func10, Tryz.ntmps10
  go_wp2_with fail
  refine Calls.mono (unhide HN) ?_
  rintro e w' ⟨d, B, rfl, hd, hk, hb⟩
  have H1 := hide hd
  have H2 := hide hk
  have H3 := hide hb
  clear hd hk hb
  go_wp2_with fail
  go_ret2
  exact ⟨d, B, rfl, unhide H1, unhide H2, unhide H3⟩
end Go.Proofs.YtejchncdimcdbaaGreatDoor
namespace Go.Proofs.YtejchncdimcdbaaGreatDoor
open Go.RowKit Go.BigFrame
set_option linter.unusedVariables false
set_option linter.unusedSimpArgs false

/-- The disk at block d, in its blocks B: at most nb files, at most ob operations, bb bytes a file. -/
structure DKf (w : World) (d : Nat) (B : List Nat) (nb ob bb : Nat) (σ : DSt) : Prop where
  ex : ∃ m u fv fs, DkAt w d σ.sec m nb u fv σ.cr σ.op σ.off σ.ft fs ∧ B = dkB d m u fv fs ∧ σ.A = fs.map absF
  dist : Dist σ.A
  opb : 0 ≤ σ.op ∧ σ.op ≤ ob
  len : σ.A.length ≤ nb
  byt : ∀ f ∈ σ.A, f.bs.length ≤ bb
  secb : 1 ≤ σ.sec ∧ σ.sec ≤ 4096
  nms : ∀ f ∈ σ.A, isNm f.nm = true
theorem DKf.toDK {w : World} {d nb ob bb : Nat} {B : List Nat} {σ : DSt} (h : DKf w d B nb ob bb σ) : DK w d B (max nb ob) bb σ := by
  obtain ⟨m, u, fv, fs, h1, h2, h3⟩ := h.ex
  exact ⟨⟨m, u, fv, fs, h1.more (by omega), h2, h3⟩, h.dist, ⟨h.opb.1, by have := h.opb.2; omega⟩, Nat.le_trans h.len (by omega), h.byt, h.secb, h.nms⟩
theorem DK.toF {w : World} {d nb bb : Nat} {B : List Nat} {σ : DSt} (h : DK w d B nb bb σ) {ob : Nat} (ho : σ.op ≤ ob) : DKf w d B nb ob bb σ := by
  obtain ⟨m, u, fv, fs, h1, h2, h3⟩ := h.ex
  exact ⟨⟨m, u, fv, fs, h1, h2, h3⟩, h.dist, ⟨h.opb.1, ho⟩, h.len, h.byt, h.secb, h.nms⟩
theorem DKf.lt {w : World} {d nb ob bb : Nat} {B : List Nat} {σ : DSt} (h : DKf w d B nb ob bb σ) : ∀ x ∈ B, x < w.heap.size := h.toDK.lt
theorem DKf.kept {L : List Nat} {w w' : World} {d nb ob bb : Nat} {B : List Nat} {σ : DSt} (h : DKf w d B nb ob bb σ) (k : Kept L w w') (hn : ∀ x ∈ B, x ∉ L) : DKf w' d B nb ob bb σ := by
  obtain ⟨m, u, fv, fs, h1, rfl, h3⟩ := h.ex
  exact ⟨⟨m, u, fv, fs, h1.kept k hn, rfl, h3⟩, h.dist, h.opb, h.len, h.byt, h.secb, h.nms⟩
theorem DKf.old {w w' : World} {d nb ob bb : Nat} {B : List Nat} {σ : DSt} (h : DKf w d B nb ob bb σ) (k : Kept [] w w') : DKf w' d B nb ob bb σ := h.kept k (by simp)
theorem DKf.more {w : World} {d nb ob bb : Nat} {B : List Nat} {σ : DSt} (h : DKf w d B nb ob bb σ) {nb' ob' bb' : Nat} (h1 : nb ≤ nb') (h0 : ob ≤ ob') (h2 : bb ≤ bb') : DKf w d B nb' ob' bb' σ := by
  obtain ⟨m, u, fv, fs, h3, rfl, h4⟩ := h.ex
  exact ⟨⟨m, u, fv, fs, h3.more h1, rfl, h4⟩, h.dist, ⟨h.opb.1, by have := h.opb.2; omega⟩, Nat.le_trans h.len h1, fun f hf => Nat.le_trans (h.byt f hf) h2, h.secb, h.nms⟩
theorem create_F (d nb ob bb : Nat) (B : List Nat) (σ : DSt) (s : ByteArray) (w : World) (h : DKf w d B nb ob bb σ) (hs : s.size ≤ 140737488355328) (hn : nb ≤ 1000000000) (hob : ob ≤ 1000000000) :
    Calls Tryz.prog 88 #[.pointer (some ⟨d, 0, none⟩), .string s] w fun e w' => ∃ B', e = .returned (.int .i64 ((stCreate σ s).1 : Nat)) ∧ DKf w' d B' (nb + 1) (ob + 1) bb (stCreate σ s).2 ∧ Ev w w' B B' := by
  have h0 := h
  obtain ⟨sec, cr, op, off, ft, A⟩ := σ
  obtain ⟨⟨m, u, fv, fs, h1, rfl, hA⟩, h2, h3, h4, h5, h6, h7⟩ := h
  dsimp only at *
  subst hA
  cases off
  · have e1 : stCreate ⟨sec, cr, op, false, ft, fs.map absF⟩ s = (opE ft cr op (own1 fs s), tick ⟨sec, cr, op, false, ft, fs.map absF⟩ (if own1 fs s = 0 ∧ opE ft cr op (own1 fs s) ≠ 7 then fs.map absF ++ [⟨s, [], 0, false⟩] else fs.map absF)) := by
      rw [own_abs]; rfl
    rw [e1]
    refine Calls.mono (create_any d sec m nb s w u fv cr op ft fs h1 hs ⟨h3.1, by omega⟩ hn (by rw [List.length_map] at h4; omega)) ?_
    rintro e w' ⟨E, G, u', rfl, hE, hD, hK, hN⟩
    subst hE
    refine ⟨_, rfl, ⟨⟨m, u', fv, _, hD, rfl, ?_⟩, ?_, ⟨by simp only [tick]; omega, by simp only [tick]; omega⟩, ?_, ?_, h6, ?_⟩, hK, hN⟩
    · simp only [tick, crF]
      split <;> simp [absF]
    all_goals simp only [tick]
    all_goals split
    · rename_i hc
      rw [own_abs] at hc
      obtain ⟨hc1, hc2⟩ := ownA_zero hc.1
      unfold Dist
      rw [List.pairwise_append]
      refine ⟨h2, List.pairwise_singleton _ _, ?_⟩
      intro a ha b hb
      simp only [List.mem_singleton] at hb
      subst hb
      intro e
      exact findA_none hc2 a ha (by rw [e])
    · exact h2
    · rw [List.length_append, List.length_singleton]; omega
    · omega
    · intro f hf
      rw [List.mem_append, List.mem_singleton] at hf
      rcases hf with hf | rfl
      · exact h5 f hf
      · simp
    · exact h5
    · rename_i hc
      rw [own_abs] at hc
      obtain ⟨hc1, hc2⟩ := ownA_zero hc.1
      intro f hf
      rw [List.mem_append, List.mem_singleton] at hf
      rcases hf with hf | rfl
      · exact h7 f hf
      · exact hc1
    · exact h7
  · refine Calls.mono (create_off d sec m nb s w u fv cr op ft fs h1) ?_
    rintro e w' ⟨rfl, rfl⟩
    exact ⟨_, rfl, h0.more (Nat.le_succ nb) (Nat.le_succ ob) (Nat.le_refl _), Ev.refl _ _⟩
theorem append_F (d nb ob bb : Nat) (B : List Nat) (σ : DSt) (s : ByteArray) (pv : Value) (ps : List Nat) (w : World) (h : DKf w d B nb ob bb σ) (hs : s.size ≤ 140737488355328) (hn : nb ≤ 1000000000) (hob : ob ≤ 1000000000) (hp : Rd w pv ps) (hpd : ∀ x ∈ zblk pv ps, x ∉ B) (hb : bb + ps.length ≤ 140737488350000) :
    Calls Tryz.prog 90 #[.pointer (some ⟨d, 0, none⟩), .string s, pv] w fun e w' => ∃ B', e = .returned (.int .i64 ((stAppend σ s ps).1 : Nat)) ∧ DKf w' d B' nb (ob + 1) (bb + ps.length) (stAppend σ s ps).2 ∧ Ev w w' B B' := by
  have h0 := h
  obtain ⟨sec, cr, op, off, ft, A⟩ := σ
  obtain ⟨⟨m, u, fv, fs, h1, rfl, hA⟩, h2, h3, h4, h5, h6, h7⟩ := h
  dsimp only at *
  subst hA
  have hd : d ∉ zblk pv ps := fun hx => hpd d hx (by simp [dkB])
  cases off
  · cases hf : findA (fs.map absF) s.data.toList with
    | none =>
      have e1 : stAppend ⟨sec, cr, op, false, ft, fs.map absF⟩ s ps = (opE ft cr op 5, tick ⟨sec, cr, op, false, ft, fs.map absF⟩ (fs.map absF)) := by
        simp only [stAppend, hf]; rfl
      rw [e1]
      refine Calls.mono (append_none d sec m nb s pv w u fv cr op ft fs h1 hs ⟨h3.1, by omega⟩ (look_no hf)) ?_
      rintro e w' ⟨rfl, hD, hK⟩
      exact ⟨_, rfl, ⟨⟨m, u, fv, fs, hD, rfl, rfl⟩, h2, ⟨by simp only [tick]; omega, by simp only [tick]; omega⟩, h4, fun f hf => Nat.le_trans (h5 f hf) (Nat.le_add_right _ _), h6, h7⟩, hK.mono (by intro x hx; simp at hx; simp [dkB, hx]), fun x hx => .inl hx⟩
    | some x =>
      obtain ⟨f, hfm, hl, rfl, hnm⟩ := look_file hf
      have hnm2 := ba_ext hnm
      subst hnm2
      have hfl := h5 (absF f) (List.mem_map.2 ⟨f, hfm, rfl⟩)
      have hfin : ∀ (v' : Value) (w' : World) (qs : List Nat), qs.length ≤ ps.length → qs = ps.take (appK ⟨sec, cr, op, false, ft, fs.map absF⟩ ps) → DkAt w' d sec m nb u fv cr (op + 1) (decide (op + 1 = cr)) ft (upF fs f.g v' (f.bs ++ qs) f.sy) → Kept (d :: f.g :: blk f.v) w w' → (∀ x ∈ blk v', x ∈ blk f.v ∨ w.heap.size ≤ x) →
          ∃ B', DKf w' d B' nb (ob + 1) (bb + ps.length) (tick ⟨sec, cr, op, false, ft, fs.map absF⟩ (upA (fs.map absF) f.nm fun f => { f with bs := f.bs ++ ps.take (appK ⟨sec, cr, op, false, ft, fs.map absF⟩ ps) })) ∧ Ev w w' (dkB d m u fv fs) B' := by
        intro v' w' qs hq hqe hD hK hV
        refine ⟨_, ⟨⟨m, u, fv, _, hD, rfl, ?_⟩, dist_up (by intro x; rfl) h2, ⟨by simp only [tick]; omega, by simp only [tick]; omega⟩, ?_, ?_, h6, ?_⟩, hK.mono ?_, ?_⟩
        · simp only [tick]
          rw [up_abs h1.apart h2 hfm]
          exact (up_congr h2 (x := absF f) (List.mem_map.2 ⟨f, hfm, rfl⟩) (by simp [absF, hqe])).symm
        · simp only [tick, upA, List.length_map]
          rw [List.length_map] at h4
          omega
        · intro y hy
          obtain ⟨x, hx, h9 | ⟨_, h9⟩⟩ := upA_mem hy
          · subst h9
            exact Nat.le_trans (h5 y hx) (Nat.le_add_right _ _)
          · subst h9
            have := h5 x hx
            simp only [List.length_append, List.length_take]
            omega
        · intro y hy
          obtain ⟨x, hx, h9 | ⟨_, h9⟩⟩ := upA_mem hy
          · subst h9
            exact h7 y hx
          · subst h9
            exact h7 x hx
        · intro x hx
          simp only [List.mem_cons] at hx
          rcases hx with rfl | rfl | hx
          · simp [dkB]
          · exact dkB_g hfm
          · exact dkB_v hfm hx
        · intro x hx
          rcases upF_blk hx with h9 | h9
          · exact .inl h9
          · exact (hV x h9).imp (dkB_v hfm) id
      have e1 : stAppend ⟨sec, cr, op, false, ft, fs.map absF⟩ f.nm ps = (opE ft cr op 0, tick ⟨sec, cr, op, false, ft, fs.map absF⟩ (upA (fs.map absF) f.nm fun f => { f with bs := f.bs ++ ps.take (appK ⟨sec, cr, op, false, ft, fs.map absF⟩ ps) })) := by
        simp only [stAppend, hf]; rfl
      rw [e1]
      have hfl2 : f.bs.length ≤ bb := hfl
      by_cases h7e : opE ft cr op 0 = 7
      · obtain ⟨h8, c, h9⟩ : op + 1 ≠ cr ∧ ∃ c, ft (op + 1) = some c := by
          have h10 := h7e
          unfold opE at h10
          split at h10
          · omega
          · rename_i h11
            refine ⟨h11, ?_⟩
            rw [if_neg (by simp)] at h10
            split at h10
            · rename_i h12
              exact Option.isSome_iff_exists.1 h12
            · omega
        refine Calls.mono (append_io d sec m nb f.nm pv ps w u fv cr op ft fs h1 hs ⟨h3.1, by omega⟩ f hfm hl hp hd (by omega) h8 c h9) ?_
        rintro e w' ⟨v', rfl, hD, hK, hV⟩
        obtain ⟨B', hB1, hB2⟩ := hfin v' w' (ps.take (wtn c ps.length).toNat) (by rw [List.length_take]; omega) (by unfold appK; rw [if_pos h7e]; show _ = List.take (wtn ((ft (op + 1)).getD 0) _).toNat ps; rw [h9]; rfl) (by rw [decide_eq_false h8]; exact hD) hK hV
        exact ⟨B', by rw [h7e]; rfl, hB1, hB2⟩
      · refine Calls.mono (append_some d sec m nb f.nm pv ps w u fv cr op ft fs h1 hs ⟨h3.1, by omega⟩ f hfm hl hp hd (by omega) h7e) ?_
        rintro e w' ⟨v', rfl, hD, hK, hV⟩
        obtain ⟨B', hB1, hB2⟩ := hfin v' w' ps (Nat.le_refl _) (by unfold appK; rw [if_neg h7e, List.take_length]) hD hK hV
        exact ⟨B', rfl, hB1, hB2⟩
  · refine Calls.mono (append_off d sec m nb s pv w u fv cr op ft fs h1) ?_
    rintro e w' ⟨rfl, rfl⟩
    exact ⟨_, rfl, h0.more (Nat.le_refl nb) (Nat.le_succ ob) (Nat.le_add_right _ _), Ev.refl _ _⟩
theorem sync_F (d nb ob bb : Nat) (B : List Nat) (σ : DSt) (s : ByteArray) (w : World) (h : DKf w d B nb ob bb σ) (hs : s.size ≤ 140737488355328) (hn : nb ≤ 1000000000) (hob : ob ≤ 1000000000) :
    Calls Tryz.prog 86 #[.pointer (some ⟨d, 0, none⟩), .string s] w fun e w' => ∃ B', e = .returned (.int .i64 ((stSync σ s).1 : Nat)) ∧ DKf w' d B' nb (ob + 1) bb (stSync σ s).2 ∧ Ev w w' B B' := by
  have h0 := h
  obtain ⟨sec, cr, op, off, ft, A⟩ := σ
  obtain ⟨⟨m, u, fv, fs, h1, rfl, hA⟩, h2, h3, h4, h5, h6, h7⟩ := h
  dsimp only at *
  subst hA
  cases off
  · cases hf : findA (fs.map absF) s.data.toList with
    | none =>
      have e1 : stSync ⟨sec, cr, op, false, ft, fs.map absF⟩ s = (opE ft cr op 5, tick ⟨sec, cr, op, false, ft, fs.map absF⟩ (fs.map absF)) := by
        simp only [stSync, hf]; rfl
      rw [e1]
      refine Calls.mono (sync_none d sec m nb s w u fv cr op ft fs h1 hs ⟨h3.1, by omega⟩ (look_no hf)) ?_
      rintro e w' ⟨rfl, hD, hK⟩
      exact ⟨_, rfl, ⟨⟨m, u, fv, fs, hD, rfl, rfl⟩, h2, ⟨by simp only [tick]; omega, by simp only [tick]; omega⟩, h4, h5, h6, h7⟩, hK.mono (by intro x hx; simp at hx; simp [dkB, hx]), fun x hx => .inl hx⟩
    | some x =>
      obtain ⟨f, hfm, hl, rfl, hnm⟩ := look_file hf
      have hnm2 := ba_ext hnm
      subst hnm2
      have e1 : stSync ⟨sec, cr, op, false, ft, fs.map absF⟩ f.nm = (opE ft cr op 0, tick ⟨sec, cr, op, false, ft, fs.map absF⟩ (if opE ft cr op 0 = 0 then upA (fs.map absF) f.nm fun f => { f with sy := f.bs.length } else fs.map absF)) := by
        simp only [stSync, hf]; rfl
      rw [e1]
      refine Calls.mono (sync_some d sec m nb f.nm w u fv cr op ft fs h1 hs ⟨h3.1, by omega⟩ f hfm hl) ?_
      rintro e w' ⟨E, rfl, rfl, hD, hK⟩
      have kk : Kept (dkB d m u fv fs) w w' := hK.mono (by
        intro x hx
        simp only [List.mem_cons, List.not_mem_nil, or_false] at hx
        rcases hx with rfl | rfl
        · simp [dkB]
        · exact dkB_g hfm)
      by_cases hE : opE ft cr op 0 = 0
      · rw [if_pos hE] at hD
        rw [if_pos hE]
        refine ⟨_, rfl, ⟨⟨m, u, fv, _, hD, rfl, ?_⟩, dist_up (by intro x; rfl) h2, ⟨by simp only [tick]; omega, by simp only [tick]; omega⟩, ?_, ?_, h6, ?_⟩, kk, ?_⟩
        · simp only [tick]
          rw [up_abs h1.apart h2 hfm]
          exact (up_congr h2 (x := absF f) (List.mem_map.2 ⟨f, hfm, rfl⟩) (by simp [absF])).symm
        · simp only [tick, upA, List.length_map]
          rw [List.length_map] at h4
          omega
        · intro y hy
          obtain ⟨x, hx, h9 | ⟨_, h9⟩⟩ := upA_mem hy
          · subst h9
            exact h5 y hx
          · subst h9
            exact h5 x hx
        · intro y hy
          obtain ⟨x, hx, h9 | ⟨_, h9⟩⟩ := upA_mem hy
          · subst h9
            exact h7 y hx
          · subst h9
            exact h7 x hx
        · intro x hx
          rcases upF_blk hx with h9 | h9
          · exact .inl h9
          · exact .inl (dkB_v hfm h9)
      · rw [if_neg hE] at hD
        rw [if_neg hE]
        exact ⟨_, rfl, ⟨⟨m, u, fv, fs, hD, rfl, rfl⟩, h2, ⟨by simp only [tick]; omega, by simp only [tick]; omega⟩, h4, h5, h6, h7⟩, kk, fun x hx => .inl hx⟩
  · refine Calls.mono (sync_off d sec m nb s w u fv cr op ft fs h1) ?_
    rintro e w' ⟨rfl, rfl⟩
    exact ⟨_, rfl, h0.more (Nat.le_refl nb) (Nat.le_succ ob) (Nat.le_refl _), Ev.refl _ _⟩
theorem names_F (d nb ob bb : Nat) (B : List Nat) (σ : DSt) (w : World) (h : DKf w d B nb ob bb σ) (hn : nb ≤ 1000000000) (hob : ob ≤ 1000000000) :
    Calls Tryz.prog 91 #[.pointer (some ⟨d, 0, none⟩)] w fun e w' => ∃ B', e = .returned (.int .i64 ((stNames σ).1 : Nat)) ∧ DKf w' d B' nb (ob + 1) bb (stNames σ).2 ∧ Ev w w' B B' := by
  have h0 := h
  obtain ⟨sec, cr, op, off, ft, A⟩ := σ
  obtain ⟨⟨m, u, fv, fs, h1, rfl, hA⟩, h2, h3, h4, h5, h6, h7⟩ := h
  dsimp only at *
  subst hA
  cases off
  · refine Calls.mono (syncNames_any d sec m nb w u fv cr op ft fs h1 ⟨h3.1, by omega⟩ (by rw [List.length_map] at h4; omega)) ?_
    rintro e w' ⟨E, rfl, rfl, hD, hK⟩
    have kk : Kept (dkB d m u fv fs) w w' := hK.mono (by
      intro x hx
      simp only [List.mem_cons] at hx
      rcases hx with rfl | hx
      · simp [dkB]
      · obtain ⟨a, ha, rfl⟩ := List.mem_map.1 hx
        exact dkB_g ha)
    have e1 : stNames ⟨sec, cr, op, false, ft, fs.map absF⟩ = (opE ft cr op 0, tick ⟨sec, cr, op, false, ft, fs.map absF⟩ (if opE ft cr op 0 = 0 then ndA (fs.map absF) else fs.map absF)) := rfl
    rw [e1]
    by_cases hE : opE ft cr op 0 = 0
    · unfold snU snF at hD
      rw [if_pos hE, if_pos hE] at hD
      rw [if_pos hE]
      refine ⟨_, rfl, ⟨⟨m, _, fv, _, hD, rfl, by rw [nd_abs]; rfl⟩, dist_nd h2, ⟨by simp only [tick]; omega, by simp only [tick]; omega⟩, ?_, ?_, h6, ?_⟩, kk, ?_⟩
      · simp only [tick, ndA, List.length_map]
        rw [List.length_map] at h4
        omega
      · intro y hy
        obtain ⟨x, hx, rfl⟩ := List.mem_map.1 hy
        exact h5 x hx
      · intro y hy
        obtain ⟨x, hx, rfl⟩ := List.mem_map.1 hy
        exact h7 x hx
      · intro x hx
        left
        have := dkB_nd d m (.slice none 0 0) fv fs x hx
        simp only [dkB, blk, List.mem_cons, List.mem_append, List.mem_flatMap, List.not_mem_nil, false_or] at this ⊢
        rcases this with h | h | h | h
        · exact .inl h
        · exact .inr (.inl h)
        · exact .inr (.inr (.inl (.inr h)))
        · exact .inr (.inr (.inr h))
    · unfold snU snF at hD
      rw [if_neg hE, if_neg hE] at hD
      rw [if_neg hE]
      exact ⟨_, rfl, ⟨⟨m, u, fv, fs, hD, rfl, rfl⟩, h2, ⟨by simp only [tick]; omega, by simp only [tick]; omega⟩, h4, h5, h6, h7⟩, kk, fun x hx => .inl hx⟩
  · refine Calls.mono (syncNames_off d sec m nb w u fv cr op ft fs h1) ?_
    rintro e w' ⟨rfl, rfl⟩
    exact ⟨_, rfl, h0.more (Nat.le_refl nb) (Nat.le_succ ob) (Nat.le_refl _), Ev.refl _ _⟩
end Go.Proofs.YtejchncdimcdbaaGreatDoor
namespace Go.Proofs.YtejchncdimcdbaaGreatDoor
open Go.RowKit Go.BigFrame
set_option linter.unusedVariables false
set_option linter.unusedSimpArgs false

def zer64 : ByteArray := ⟨#[48, 48, 48, 48, 48, 48, 48, 48, 48, 48, 48, 48, 48, 48, 48, 48, 48, 48, 48, 48, 48, 48, 48, 48, 48, 48, 48, 48, 48, 48, 48, 48, 48, 48, 48, 48, 48, 48, 48, 48, 48, 48, 48, 48, 48, 48, 48, 48, 48, 48, 48, 48, 48, 48, 48, 48, 48, 48, 48, 48, 48, 48, 48, 48]⟩
set_option maxRecDepth 100000 in
set_option maxHeartbeats 1000000 in
/-- HasPrefix of two strings that are known. -/
theorem hasPre_any (s t : ByteArray) (w : World) (hs : s.size ≤ 1000000) (ht : t.size ≤ s.size) :
    Calls Tryz.prog 174 #[.string s, .string t] w fun e w' => e = .returned (.bool ((s.extract 0 t.size).toList == t.toList)) ∧ w' = w := by
  have h1 : (t.size : Int) ≤ s.size := by omega
  go_enter Tryz.func174, Tryz.ntmps174
  go_wp2
  go_ret
  exact ⟨rfl, rfl⟩
set_option maxRecDepth 100000 in
set_option maxHeartbeats 1000000 in
theorem hasP_any (s t : ByteArray) (w : World) (hs : s.size ≤ 1000000) (ht : t.size ≤ s.size) :
    Calls Tryz.prog 120 #[.string s, .string t] w fun e w' => e = .returned (.bool ((s.extract 0 t.size).toList == t.toList)) ∧ w' = w := by
  go_enter Tryz.func120, Tryz.ntmps120
  go_wp2_with fail
  refine Calls.mono (hasPre_any s t _ hs ht) ?_
  rintro e w1 ⟨rfl, rfl⟩
  go_wp2
  go_ret
  exact ⟨rfl, rfl⟩
theorem and_32 : ∀ k : Fin 21, bits BinOp.and IntKind.u64 ((k.val : Nat) : Int) 4294967295 = ((k.val : Nat) : Int) := by decide +kernel
set_option maxRecDepth 100000 in
set_option maxHeartbeats 1000000 in
theorem mul64_1 (k : Nat) (w : World) (hk : k ≤ 20) : Calls Tryz.prog 173 #[.int .u64 1, .int .u64 k] w fun e w' => e = .returned (.tuple #[.int .u64 0, .int .u64 k]) ∧ w' = w := by
  have h1 : bits BinOp.and IntKind.u64 1 4294967295 = 1 := and_32 ⟨1, by omega⟩
  have h0 : bits BinOp.and IntKind.u64 0 4294967295 = 0 := and_32 ⟨0, by omega⟩
  have h2 : bits BinOp.and IntKind.u64 (k : Int) 4294967295 = k := and_32 ⟨k, by omega⟩
  have h3 : (k : Int) / 4294967296 = 0 := by omega
  have h4 : (k : Int) ≤ 20 := by omega
  go_enter Tryz.func173, Tryz.ntmps173
  go_wp2
  go_ret2
  exact ⟨rfl, rfl⟩
set_option maxRecDepth 100000 in
set_option maxHeartbeats 1000000 in
theorem mul_1 (k : Nat) (w : World) (hk : k ≤ 20) : Calls Tryz.prog 119 #[.int .u64 1, .int .u64 k] w fun e w' => e = .returned (.tuple #[.int .u64 0, .int .u64 k]) ∧ w' = w := by
  go_enter Tryz.func119, Tryz.ntmps119
  go_wp2_with fail
  refine Calls.mono (mul64_1 k _ hk) ?_
  rintro e w1 ⟨rfl, rfl⟩
  go_wp2
  go_ret2
  exact ⟨rfl, rfl⟩
theorem ba_loopS (s : ByteArray) : ∀ n i r, s.size - i = n → ByteArray.toList.loop s i r = r.reverse ++ s.data.toList.drop i := by
  intro n
  induction n with
  | zero =>
    intro i r h
    rw [ByteArray.toList.loop]
    have h1 : s.size = s.data.toList.length := (Array.length_toList).symm
    rw [if_neg (by omega), List.drop_eq_nil_of_le (by omega), List.append_nil]
  | succ n ih =>
    intro i r h
    rw [ByteArray.toList.loop]
    have h1 : s.size = s.data.toList.length := (Array.length_toList).symm
    have h2 : i < s.data.toList.length := by omega
    rw [if_pos (by omega), ih (i + 1) _ (by omega), List.drop_eq_getElem_cons h2]
    have h3 : s.get! i = s.data.toList[i] := by
      have h4 : i < s.data.size := by simpa using h2
      rw [Array.getElem_toList]
      exact getElem!_pos s.data i h4
    simp [h3]
theorem ba_toListS (s : ByteArray) : s.toList = s.data.toList := by
  unfold ByteArray.toList
  rw [ba_loopS s _ 0 [] rfl]
  simp
theorem ext_take (s : ByteArray) (n : Nat) : (s.extract 0 n).data.toList = s.data.toList.take n := by
  simp [ByteArray.data_extract]
theorem hasP_is (s t : ByteArray) (w : World) (b : Bool) (hs : s.size ≤ 1000000) (ht : t.size ≤ s.size) (h : (s.data.toList.take t.size == t.data.toList) = b) :
    Calls Tryz.prog 120 #[.string s, .string t] w fun e w' => e = .returned (.bool b) ∧ w' = w :=
  (hasP_any s t w hs ht).mono fun e w' h9 => ⟨by rw [h9.1, ba_toListS, ba_toListS, ext_take, h], h9.2⟩
set_option maxRecDepth 100000 in
set_option maxHeartbeats 2000000 in
theorem repeat_any (k : Nat) (w : World) (hk : 1 < k) (hk2 : k ≤ 20) : Calls Tryz.prog 73 #[.string ⟨#[48]⟩, .int .i64 k] w fun e w' => e = .returned (.string (zer64.extract 0 k)) ∧ w' = w := by
  have h0 : ((k : Int) == 0) = false := by simp; omega
  have h1 : ((k : Int) == 1) = false := by simp; omega
  have h2 : ¬ (k : Int) < 0 := by omega
  have h4 : (k : Int) ≤ 20 := by omega
  have h5 : decide (9223372036854775807 < (k : Int)) = false := by simp; omega
  go_enter Tryz.func73, Tryz.ntmps73
  go_wp2_with fail
  refine Calls.mono (mul_1 k _ hk2) ?_
  rintro e w1 ⟨rfl, rfl⟩
  go_wp2_with fail
  refine Calls.mono (hasP_is _ _ _ false (by decide) (by decide) (by decide)) ?_
  rintro e w2 ⟨rfl, rfl⟩
  go_wp2_with fail
  refine Calls.mono (hasP_is _ _ _ false (by decide) (by decide) (by decide)) ?_
  rintro e w2 ⟨rfl, rfl⟩
  go_wp2_with fail
  refine Calls.mono (hasP_is _ _ _ true (by decide) (by decide) (by decide)) ?_
  rintro e w2 ⟨rfl, rfl⟩
  go_wp2
  go_ret
  exact ⟨rfl, rfl⟩
end Go.Proofs.YtejchncdimcdbaaGreatDoor
namespace Go.Proofs.YtejchncdimcdbaaGreatDoor
open Go.RowKit Go.BigFrame
set_option linter.unusedVariables false
set_option linter.unusedSimpArgs false

/-- The string that bytes make. -/
def strB (p : List Nat) : ByteArray := ⟨(p.map UInt8.ofNat).toArray⟩
theorem sbw_kept (w : World) (e : TypeId) (s : ByteArray) : Kept [] w (Lib.bytesWorld w e s) := ⟨rfl, rfl, rfl, by rw [Lib.bytesWorld_size]; omega, fun k hk _ => Lib.bytesWorld_at_old w e s k hk⟩
theorem strB_size (bs : List Nat) : (strB bs).size = bs.length := by simp [strB, ByteArray.size]
theorem sbw_rd (w : World) (bs : List Nat) (hb : ∀ x ∈ bs, x < 256) (hl : bs.length ≤ 1000000) : Rd (Lib.bytesWorld w 5 (strB bs)) (.slice (some ⟨w.heap.size, 0, none⟩) (strB bs).size (grownCap w (strB bs).size 0 5)) bs := by
  have h1 := grownCap_ge w (strB bs).size 0 5
  have h2 := grownCap_le_maxLen w (strB bs).size 0 5 (by rw [strB_size]; unfold maxLen; omega)
  rw [strB_size] at h1 h2 ⊢
  unfold maxLen at h2
  refine ⟨_, _, _, rfl, rfl, h1, ⟨by omega, by omega⟩, fun h => by simp at h, hb, fun hp => ⟨w.heap.size, 0, rfl, fun i hi => ?_⟩⟩
  rw [Nat.zero_add, Lib.bytesWorld_cell w 5 (strB bs) i (by rw [strB_size]; exact hi)]
  have hx := hb (bs[i]) (List.getElem_mem hi)
  simp [strB, List.getD_eq_getElem?_getD, hi, u8]
  omega
theorem sconv_str (w : World) (bs : List Nat) (n : Nat) (hn : bs.length = n) (hb : ∀ x ∈ bs, x < 256) (hl : n ≤ 1000000) : ∃ W c, (convert 9 72 (.string (strB bs))).run Tryz.prog w = .ok (.slice (some ⟨w.heap.size, 0, none⟩) n c) W ∧ Rd W (.slice (some ⟨w.heap.size, 0, none⟩) n c) bs ∧ Kept [] w W ∧ W.heap.size = w.heap.size + 1 := by
  have hu5 : Tryz.prog.underlying 5 = some (.int .u8) := by kernel_rfl
  have hu9 : Tryz.prog.underlying 9 = some .string := by kernel_rfl
  subst hn
  exact ⟨_, _, by rw [Lib.run_convert_string_bytes w 9 72 5 (strB bs) hu9 Tryz.underlying72 hu5, strB_size], by have := sbw_rd w bs hb hl; rwa [strB_size] at this, sbw_kept w 5 _, Lib.bytesWorld_size w 5 _⟩
/-- The number that digits make. -/
def dval (l : List Nat) : Nat := l.foldl (fun a d => a * 10 + (d - 48)) 0
theorem dval_snoc (l : List Nat) (d : Nat) : dval (l ++ [d]) = dval l * 10 + (d - 48) := by simp [dval]
theorem dval_app (l m : List Nat) : dval l ≤ dval (l ++ m) := by
  unfold dval
  rw [List.foldl_append]
  generalize List.foldl (fun a d => a * 10 + (d - 48)) 0 l = a
  induction m generalizing a with
  | nil => exact Nat.le_refl _
  | cons x r ih => simp only [List.foldl_cons]; exact Nat.le_trans (by omega) (ih _)
theorem dval_take (l : List Nat) (k : Nat) : dval (l.take k) ≤ dval l := by
  have := dval_app (l.take k) (l.drop k)
  rwa [List.take_append_drop] at this
set_option maxRecDepth 100000 in
set_option maxHeartbeats 4000000 in
theorem iparse_any (bs : List Nat) (w : World) (h0 : 0 < bs.length) (hl : bs.length ≤ 1000) (hd : ∀ x ∈ bs, 48 ≤ x ∧ x ≤ 57) (hv : dval bs < 18446744073709551616) :
    Calls Tryz.prog 177 #[.string (strB bs), .int .i64 10, .int .i64 64] w fun e w' => e = .returned (.tuple #[.int .u64 (dval bs), .nilIface]) ∧ Kept [] w w' := by
  obtain ⟨W, c, hrun, hrd, kW, hW⟩ := sconv_str w bs bs.length rfl (fun x hx => by have := hd x hx; omega) (by omega)
  obtain ⟨ao, n9, c9, he, _, hcap, ⟨hc1, hc2⟩, _, _, hcl⟩ := id hrd
  cases he
  obtain ⟨b9, o9, e9, hcell⟩ := hcl h0
  cases e9
  have HC := hide hcell
  have HD := hide hd
  have HV := hide (fun k => dval_take bs k)
  have HK := hide kW
  have hmax : IntKind.u64.wrap (IntKind.u64.wrap 18446744073709551616 - 1) = 18446744073709551615 := by decide
  have hne : (strB bs).toList.isEmpty = false := by
    rw [ba_toListS]
    cases bs with
    | nil => simp at h0
    | cons x r => simp [strB]
  have hdl : dval bs ≤ 18446744073709551615 := by omega
  clear hrd hcl hcell hd kW hW
  go_enter Tryz.func177, Tryz.ntmps177
  go_wp2_with fail
  go_loopw [12, 13, 101] (fun t12 t13 t101 wr => ∃ k : Nat, k ≤ bs.length ∧ t12 = .bool false ∧ t101 = .int .i64 k ∧ t13 = .int .u64 (dval (bs.take k)) ∧ wr = W) (fun _ _ t _ => bs.length - (intOf t).toNat)
  case atStart => exact ⟨0, by omega, rfl, rfl, rfl, rfl⟩
  case round =>
    obtain ⟨k, hk, rfl, rfl, rfl, rfl⟩ := hrel
    by_cases hkl : k < bs.length
    · have hkl' : (k : Int) < bs.length := by omega
      have ck := unhide HC k hkl
      have hdk := unhide HD bs[k] (List.getElem_mem hkl)
      rw [List.getD_eq_getElem?_getD, List.getElem?_eq_getElem hkl, Option.getD_some] at ck
      have hsn : dval (bs.take (k + 1)) = dval (bs.take k) * 10 + (bs[k] - 48) := by rw [List.take_succ_eq_append_getElem hkl, dval_snoc]
      have hle := unhide HV (k + 1)
      have HSN := hide hsn
      generalize bs[k] = d at ck hdk hsn HSN
      obtain ⟨m, hm⟩ : ∃ m, dval (bs.take (k + 1)) = m := ⟨_, rfl⟩
      rw [hm] at hsn hle HSN
      have HMM := hide hm
      clear hm
      generalize dval (bs.take k) = n at hsn HSN
      obtain ⟨e, rfl⟩ : ∃ e, d = e + 48 := ⟨d - 48, by omega⟩
      have he : e + 48 - 48 = e := by omega
      rw [he] at hsn HSN
      clear he
      have ck2 : wr.cell? ⟨w.heap.size, k, none⟩ = some (.int .u8 ((e : Int) + 48)) := by rw [Nat.zero_add] at ck; rw [ck]; simp [Go.Proofs.YtejchncdimcdbaaGreatDoor.u8]
      have b0 : (0 : Int) ≤ e := by omega
      have b2 : (e : Int) ≤ 9 := by omega
      have b3 : (0 : Int) ≤ n := by omega
      have b4 : ¬ (1844674407370955162 : Int) ≤ n := by omega
      have b5 : (n : Int) * 10 + e ≤ 18446744073709551615 := by omega
      have b8 : (n : Int) * 10 ≤ 18446744073709551615 := by omega
      have HM := hide (by rw [unhide HSN]; simp : (m : Int) = (n : Int) * 10 + e)
      clear hsn hdk ck hle HSN
      generalize (n : Int) = z at *
      generalize (e : Int) = y at *
      go_wp2
      go_roundw
      case rel => exact ⟨k + 1, by omega, rfl, by go_num, by rw [unhide HMM, unhide HM], trivial⟩
      case measure => simp [intOf]; omega
    · have hkl' : ¬ (k : Int) < bs.length := by omega
      obtain rfl : k = bs.length := by omega
      go_wp2
      go_ret2
      exact ⟨by simp, unhide HK⟩
set_option maxRecDepth 100000 in
set_option maxHeartbeats 1000000 in
theorem parse_any (bs : List Nat) (w : World) (h0 : 0 < bs.length) (hl : bs.length ≤ 1000) (hd : ∀ x ∈ bs, 48 ≤ x ∧ x ≤ 57) (hv : dval bs < 18446744073709551616) :
    Calls Tryz.prog 128 #[.string (strB bs), .int .i64 10, .int .i64 64] w fun e w' => e = .returned (.tuple #[.int .u64 (dval bs), .nilIface]) ∧ Kept [] w w' := by
  go_enter Tryz.func128, Tryz.ntmps128
  go_wp2_with fail
  refine Calls.mono (iparse_any bs _ h0 hl hd hv) ?_
  rintro e w1 ⟨rfl, k1⟩
  have HK1 := hide k1
  clear k1
  go_wp2
  go_ret2
  exact ⟨rfl, unhide HK1⟩
end Go.Proofs.YtejchncdimcdbaaGreatDoor
namespace Go.Proofs.YtejchncdimcdbaaGreatDoor
open Go.RowKit Go.BigFrame
set_option linter.unusedVariables false
set_option linter.unusedSimpArgs false

/-- The last k decimal digits of u. -/
def dgs (k u : Nat) : List Nat := (List.range k).map fun t => 48 + u / 10 ^ (k - 1 - t) % 10
theorem dgs_len (k u : Nat) : (dgs k u).length = k := by simp [dgs]
theorem dgs_dig (k u : Nat) : ∀ x ∈ dgs k u, 48 ≤ x ∧ x ≤ 57 := by
  intro x hx
  simp only [dgs, List.mem_map] at hx
  obtain ⟨t, _, rfl⟩ := hx
  omega
theorem dgs_byte (k u : Nat) : ∀ x ∈ dgs k u, x < 256 := fun x hx => by have := dgs_dig k u x hx; omega
theorem dgs_cons (k u : Nat) : dgs (k + 1) u = (48 + u / 10 ^ k % 10) :: dgs k u := by
  unfold dgs
  rw [List.range_succ_eq_map, List.map_cons, List.map_map]
  rw [List.cons.injEq]
  refine ⟨by simp, List.map_congr_left fun t ht => ?_⟩
  have : k + 1 - 1 - (t + 1) = k - 1 - t := by omega
  simp only [Function.comp, Nat.succ_eq_add_one, this]
theorem dgs_snoc (k u : Nat) : dgs (k + 1) u = dgs k (u / 10) ++ [48 + u % 10] := by
  unfold dgs
  rw [List.range_succ, List.map_append]
  have h1 : (List.range k).map (fun t => 48 + u / 10 ^ (k + 1 - 1 - t) % 10) = (List.range k).map (fun t => 48 + u / 10 / 10 ^ (k - 1 - t) % 10) := List.map_congr_left fun t ht => by
    have ht' : t < k := by simpa using ht
    rw [show k + 1 - 1 - t = (k - 1 - t) + 1 by omega, Nat.pow_succ', Nat.div_div_eq_div_mul]
  rw [h1]
  simp
theorem dval_dgs : ∀ (k u : Nat), dval (dgs k u) = u % 10 ^ k
  | 0, u => by simp [dgs, dval, Nat.mod_one]
  | k + 1, u => by
    rw [dgs_snoc, dval_snoc, dval_dgs k (u / 10), Nat.pow_succ', Nat.mod_mul]
    omega
theorem dgs_pad (k u : Nat) (h : u < 10 ^ k) : ∀ j, dgs (j + k) u = List.replicate j 48 ++ dgs k u
  | 0 => by simp
  | j + 1 => by
    rw [show j + 1 + k = (j + k) + 1 by omega, dgs_cons, dgs_pad k u h j]
    have h1 : u / 10 ^ (j + k) = 0 := Nat.div_eq_of_lt (Nat.lt_of_lt_of_le h (Nat.pow_le_pow_right (by omega) (by omega)))
    rw [h1, List.replicate_succ]
    rfl
/-- The name of a segment. -/
def nmL (u : Nat) : List Nat := [115, 101, 103, 45] ++ dgs 20 u
theorem nmL_len (u : Nat) : (nmL u).length = 24 := by simp [nmL, dgs_len]
theorem nmL_byte (u : Nat) : ∀ x ∈ nmL u, x < 256 := by
  intro x hx
  rcases List.mem_append.1 hx with h | h
  · simp at h; omega
  · exact dgs_byte 20 u x h
theorem nmL_inj {a b : Nat} (ha : a < 18446744073709551616) (hb : b < 18446744073709551616) (h : nmL a = nmL b) : a = b := by
  have h1 := congrArg dval (List.append_cancel_left h)
  rw [dval_dgs, dval_dgs, Nat.mod_eq_of_lt (by omega), Nat.mod_eq_of_lt (by omega)] at h1
  exact h1
theorem strB_app (p q : List Nat) : strB (p ++ q) = strB p ++ strB q := by
  apply ByteArray.ext
  rw [ByteArray.data_append]
  simp [strB]
theorem strB_dec (u : Nat) : (⟨(Lib.decDigits u).toArray⟩ : ByteArray) = strB (dgs (Lib.nDigits u) u) := by
  rw [Lib.decDigits_eq]
  unfold strB dgs
  rw [List.map_map]
  rfl
theorem zer_rep : ∀ k : Fin 21, zer64.extract 0 k.val = strB (List.replicate k.val 48) := by decide +kernel
theorem strB_inj {p q : List Nat} (hp : ∀ x ∈ p, x < 256) (hq : ∀ x ∈ q, x < 256) (h : strB p = strB q) : p = q := by
  have h1 : p.map UInt8.ofNat = q.map UInt8.ofNat := by
    have := congrArg (fun s => s.data.toList) h
    simpa [strB] using this
  have h2 := congrArg (List.map UInt8.toNat) h1
  rw [List.map_map, List.map_map] at h2
  have e : ∀ l : List Nat, (∀ x ∈ l, x < 256) → l.map (UInt8.toNat ∘ UInt8.ofNat) = l := by
    intro l hl
    conv => rhs; rw [← List.map_id l]
    refine List.map_congr_left fun x hx => ?_
    simp [Nat.mod_eq_of_lt (hl x hx)]
  rwa [e p hp, e q hq] at h2
end Go.Proofs.YtejchncdimcdbaaGreatDoor

namespace Go.Proofs.YtejchncdimcdbaaGreatDoor
open Go.RowKit
set_option linter.unusedVariables false
set_option linter.unusedSimpArgs false

/-- The string that bytes make. -/
def strOf (p : List Nat) : ByteArray := ⟨(p.map UInt8.ofNat).toArray⟩
theorem ba_loop (s : ByteArray) : ∀ n i r, s.size - i = n → ByteArray.toList.loop s i r = r.reverse ++ s.data.toList.drop i := by
  intro n
  induction n with
  | zero =>
    intro i r h
    rw [ByteArray.toList.loop]
    have h1 : s.size = s.data.toList.length := (Array.length_toList).symm
    rw [if_neg (by omega), List.drop_eq_nil_of_le (by omega), List.append_nil]
  | succ n ih =>
    intro i r h
    rw [ByteArray.toList.loop]
    have h1 : s.size = s.data.toList.length := (Array.length_toList).symm
    have h2 : i < s.data.toList.length := by omega
    rw [if_pos (by omega), ih (i + 1) _ (by omega), List.drop_eq_getElem_cons h2]
    have h3 : s.get! i = s.data.toList[i] := by
      have h4 : i < s.data.size := by simpa using h2
      rw [Array.getElem_toList]
      exact getElem!_pos s.data i h4
    simp [h3]
theorem ba_toList (s : ByteArray) : s.toList = s.data.toList := by
  unfold ByteArray.toList
  rw [ba_loop s _ 0 [] rfl]
  simp
theorem strOf_inj {p q : List Nat} (hp : ∀ x ∈ p, x < 256) (hq : ∀ x ∈ q, x < 256) (h : strOf p = strOf q) : p = q := by
  have h1 : p.map UInt8.ofNat = q.map UInt8.ofNat := by
    have := congrArg (fun b => b.data.toList) h
    simpa [strOf] using this
  have h2 := congrArg (List.map UInt8.toNat) h1
  simp only [List.map_map] at h2
  have e : ∀ l : List Nat, (∀ x ∈ l, x < 256) → l.map (UInt8.toNat ∘ UInt8.ofNat) = l := by
    intro l hl
    conv => rhs; rw [← List.map_id l]
    apply List.map_congr_left
    intro x hx
    have := hl x hx
    simp [UInt8.toNat_ofNat]; omega
  rw [e p hp, e q hq] at h2
  exact h2
theorem conv_any (v : Value) (p : List Nat) (w : World) (h : Rd w v p) (hu5 : Tryz.prog.underlying 5 = some (.int .u8)) (hu9 : Tryz.prog.underlying 9 = some .string) :
    (convert 72 9 v).run Tryz.prog w = .ok (.string (strOf p)) w := by
  obtain ⟨ao, len, cap, rfl, rfl, h2, h3, h4, h5, h6⟩ := h
  have hl : p.length = (p.map UInt8.ofNat).length := by simp
  cases ao with
  | none =>
    have hz := h4 rfl
    have hp0 : p = [] := List.eq_nil_of_length_eq_zero (by omega)
    subst hp0
    rw [run_convert_bytes_string w 72 9 5 none _ cap Tryz.underlying72 hu5 hu9]
    simp [Conv.bytesToString, strOf]
    rfl
  | some a =>
    rw [hl]
    refine run_convert_bytes_back w 72 9 5 a cap (p.map UInt8.ofNat) Tryz.underlying72 hu5 hu9 (fun j hj => ?_)
    simp at hj
    obtain ⟨b, off, he, hc⟩ := h6 (by omega)
    cases he
    have := hc j hj
    rw [Addr.add_mid, this]
    have hb := h5 (p[j]) (List.getElem_mem hj)
    simp [u8, List.getD_eq_getElem?_getD, List.getElem?_eq_getElem hj, UInt8.toNat_ofNat]
    omega
end Go.Proofs.YtejchncdimcdbaaGreatDoor
namespace Go.Proofs.YtejchncdimcdbaaGreatDoor
open Go.RowKit Go.BigFrame
set_option linter.unusedVariables false
set_option linter.unusedSimpArgs false

/-- What the library's variables hold. -/
def VarsS (w : World) : Prop := Lib.TabIs Tryz.prog w "internal/strconv.uint64pow10" .u64 Lib.pow10Tab ∧ (∃ tp p, w.var? Tryz.prog "strconv.ErrSyntax" = some #[.iface tp p]) ∧ ∃ tp p, w.var? Tryz.prog "strconv.ErrRange" = some #[.iface tp p]
theorem var_kept {P : Program} {w w' : World} {n : String} {cs : Array Value} (h : w.var? P n = some cs) (k : Kept [] w w') : w'.var? P n = some cs := by
  unfold World.var? at h ⊢
  cases hg : P.globalNamed n with
  | none => rw [hg] at h; simp at h
  | some g =>
    rw [hg] at h
    simp only [Option.bind_some] at h ⊢
    cases hb : w.heap[g]? with
    | none => rw [hb] at h; simp at h
    | some o => rw [k.heap hb (by simp)]; rw [hb] at h; exact h
theorem VarsS.old {w w' : World} (h : VarsS w) (k : Kept [] w w') : VarsS w' := by
  obtain ⟨h1, ⟨t1, p1, h2⟩, t2, p2, h3⟩ := h
  exact ⟨var_kept h1 k, ⟨t1, p1, var_kept h2 k⟩, t2, p2, var_kept h3 k⟩
theorem putRow_kept {α : Type} [Inhabited α] (enc : α → Value) (w : World) (blk off : Nat) (d : Array α) : Kept [blk] w (Go.Sort.putRow enc w blk off d) := by
  refine ⟨rfl, rfl, rfl, by simp [Go.Sort.putRow, Go.Sort.mapBlock], fun k hk hn => ?_⟩
  simp only [List.mem_singleton] at hn
  simp only [Go.Sort.putRow, Go.Sort.mapBlock, Array.getElem?_modify]
  rw [if_neg (fun h => hn h.symm)]
set_option maxRecDepth 100000 in
set_option maxHeartbeats 2000000 in
theorem ifmtU_any (u : Nat) (w : World) (hu : u < 18446744073709551616) (hv : VarsS w) :
    Calls Tryz.prog 118 #[.int .u64 u, .int .i64 10] w fun e w' => e = .returned (.string (strB (dgs (Lib.nDigits u) u))) ∧ Kept [] w w' := by
  have HV := hide hv
  have HD := hide (strB_dec u)
  clear hv
  by_cases hs : u < 100
  · have hw : IntKind.i64.wrap (u : Int) = (u : Int) := by simp [IntKind.wrap, IntKind.signed, IntKind.bits]; omega
    have hlt : (u : Int) < 100 := by omega
    go_enter Tryz.func118, Tryz.ntmps118
    go_wp2_with fail
    refine Calls.mono (Tryz.internal_strconv_small u hs _) ?_
    rintro e w1 ⟨rfl, rfl⟩
    go_wp2
    go_ret
    exact ⟨by rw [← unhide HD]; rfl, Kept.refl _ _⟩
  · have hlt : ¬ (u : Int) < 100 := by omega
    have HN := hide (by have := Lib.numDigits_eq u (by omega) hu; split at this <;> omega : Lib.nDigits u ≤ 20)
    have HP := hide (Lib.lt_pow_nDigits u)
    obtain ⟨nd, hnd⟩ : ∃ nd, Lib.nDigits u = nd := ⟨_, rfl⟩
    have HNum := hide (fun W (hW : VarsS W) => Tryz.internal_strconv_numDigits u (by omega) hu W hW.1)
    simp only [hnd] at HNum
    rw [hnd] at HN HP ⊢
    clear hnd HD
    have HK0 := hide ((Kept.refl [] w).alloc (.cells Lib.zeros24 260))
    have hn24 : (nd : Int) ≤ 24 := by have := unhide HN; omega
    go_enter Tryz.func118, Tryz.ntmps118
    go_wp2_with fail
    refine Calls.mono (unhide HNum _ ((unhide HV).old (unhide HK0))) ?_
    rintro e w1 ⟨rfl, rfl⟩
    have hH0 := Lib.holds_zero0 w 260 nd (by have := unhide HN; omega)
    have hfmt := Tryz.internal_strconv_formatBase10 w.heap.size 0 24 u (Array.replicate nd 0) (w.alloc (.cells Lib.zeros24 260)) hH0 (by rw [Array.size_replicate]; exact unhide HP) hu (by rw [Array.size_replicate]; have := unhide HN; omega)
    rw [Array.size_replicate] at hfmt
    have HH0 := hide hH0
    have HF := hide hfmt
    clear hH0 hfmt HNum
    go_wp2_with fail
    refine Calls.mono (unhide HF) ?_
    rintro e w2 ⟨rfl, n2, v2, dk, rfl, hinv⟩
    have HI := hide hinv
    clear hinv HF
    have hR : Rd ((Go.Sort.putRow (fun (b : UInt8) => Value.int .u8 (b.toNat : Int)) (w.alloc (.cells Lib.zeros24 260)) w.heap.size 0 dk).drewN n2) (.slice (some ⟨w.heap.size, 0, none⟩) nd 24) (dgs nd u) := by
      have hh := Go.Sort.holds_putRow (fun (b : UInt8) => Value.int .u8 (b.toNat : Int)) (w.alloc (.cells Lib.zeros24 260)) w.heap.size 0 (Array.replicate nd 0) dk (unhide HH0) (by rw [(unhide HI).size, Array.size_replicate])
      refine ⟨_, _, _, rfl, dgs_len nd u, by have := unhide HN; omega, ⟨by omega, by have := unhide HN; omega⟩, by simp, dgs_byte nd u, fun _ => ⟨w.heap.size, 0, rfl, fun i hi => ?_⟩⟩
      have h1 := (hh i (by rw [(unhide HI).size]; exact hi)).1
      have h2 := (unhide HI).done i (Nat.zero_le _) hi
      rw [h2] at h1
      refine (show _ = _ from h1).trans ?_
      have h3 : (dgs nd u).getD i 0 = 48 + u / 10 ^ (nd - 1 - i) % 10 := by simp [dgs, List.getD_eq_getElem?_getD, hi]
      rw [h3]
      have h4 : 48 + u / 10 ^ (nd - 1 - i) % 10 < 256 := by omega
      simp [Lib.dg, u8, Nat.mod_eq_of_lt h4]
    have hk : Kept [] w ((Go.Sort.putRow (fun (b : UInt8) => Value.int .u8 (b.toNat : Int)) (w.alloc (.cells Lib.zeros24 260)) w.heap.size 0 dk).drewN n2) := by
      refine ((unhide HK0).trans (M := [w.heap.size]) (c := Go.Sort.putRow (fun (b : UInt8) => Value.int .u8 (b.toNat : Int)) (w.alloc (.cells Lib.zeros24 260)) w.heap.size 0 dk) ?_ (by simp)).drewN n2
      exact putRow_kept _ _ _ _ _
    have HK2 := hide hk
    have hu5 : Tryz.prog.underlying 5 = some (.int .u8) := by kernel_rfl
    have hu9 : Tryz.prog.underlying 9 = some .string := by kernel_rfl
    have hc := conv_any _ _ _ hR hu5 hu9
    obtain ⟨W2, hW2⟩ : ∃ W2, (Go.Sort.putRow (fun (b : UInt8) => Value.int .u8 (b.toNat : Int)) (w.alloc (.cells Lib.zeros24 260)) w.heap.size 0 dk).drewN n2 = W2 := ⟨_, rfl⟩
    rw [hW2] at hc HK2 ⊢
    clear hW2 hR hk HH0 HI
    go_wp2
    go_ret
    exact ⟨rfl, unhide HK2⟩
end Go.Proofs.YtejchncdimcdbaaGreatDoor
namespace Go.Proofs.YtejchncdimcdbaaGreatDoor
open Go.RowKit
set_option linter.unusedVariables false
set_option linter.unusedSimpArgs false

theorem owns_base {w : World} {b b' e s n : Nat} {v : Value} {xs : List Value} (h : w.ownsRow b e s v n xs) (hb : b' ≤ b) : w.ownsRow b' e s v n xs := by
  refine ⟨h.1, ?_⟩
  rcases h.2 with h9 | ⟨g, cap, cur, h1, h2, h3⟩
  · exact .inl h9
  · exact .inr ⟨g, cap, cur, h1, Nat.le_trans hb h2, h3⟩
end Go.Proofs.YtejchncdimcdbaaGreatDoor
namespace Go.Proofs.YtejchncdimcdbaaGreatDoor
open Go.RowKit
set_option linter.unusedVariables false
set_option linter.unusedSimpArgs false
attribute [local go_sem ↓] Go.wp_at_zero Go.wp_at_succ

end Go.Proofs.YtejchncdimcdbaaGreatDoor
namespace Go.Proofs.YtejchncdimcdbaaGreatDoor
open Go.RowKit
set_option linter.unusedVariables false
set_option linter.unusedSimpArgs false
attribute [local go_sem ↓] Go.wp_at_zero Go.wp_at_succ

end Go.Proofs.YtejchncdimcdbaaGreatDoor
namespace Go.Proofs.YtejchncdimcdbaaGreatDoor
open Go.RowKit
set_option linter.unusedVariables false
set_option linter.unusedSimpArgs false

/-- A cut p[:n] reads as the beginning. -/
theorem Rd.take {w : World} {ao : Option Addr} {cap n : Nat} {p : List Nat} (h : Rd w (.slice ao p.length cap) p) (hn : n ≤ p.length) : Rd w (.slice ao n cap) (p.take n) := by
  obtain ⟨ao', len', cap', he, _, h2, ⟨h3, h3'⟩, h4, h5, h6⟩ := h
  cases he
  refine ⟨_, _, _, rfl, by simp; omega, by omega, ⟨h3, by omega⟩, h4, fun x hx => h5 x (List.mem_of_mem_take hx), fun hp => ?_⟩
  obtain ⟨b, off, rfl, hc⟩ := h6 (by omega)
  refine ⟨b, off, rfl, fun i hi => ?_⟩
  rw [hc i (by omega)]
  simp [List.getD_eq_getElem?_getD, List.getElem?_take, hi]
end Go.Proofs.YtejchncdimcdbaaGreatDoor
namespace Go.Proofs.YtejchncdimcdbaaGreatDoor
open Go.RowKit
set_option linter.unusedVariables false
set_option linter.unusedSimpArgs false

/-- What Blob answers; the place and the fault behind it. -/
def rBlob (p : List Nat) (i e : Nat) (m : Int) : List Nat × Nat × Nat :=
  if e ≠ 0 then ([], i, e) else if m < 0 then ([], i, 1) else if (fuv (p.drop i) 0 0).2 = 0 then ([], i, 3) else if m < (fuv (p.drop i) 0 0).1 then ([], i, 2)
  else if (p.drop i).length - (fuv (p.drop i) 0 0).2 < (fuv (p.drop i) 0 0).1 then ([], i, 3)
  else (((p.drop i).drop (fuv (p.drop i) 0 0).2).take (fuv (p.drop i) 0 0).1, i + ((fuv (p.drop i) 0 0).2 + (fuv (p.drop i) 0 0).1), 0)
theorem fuv_lt (q : List Nat) : ∀ k a, a < 128 ^ k → k ≤ 9 → (fuv q k a).1 < 18446744073709551616 := by
  induction q with
  | nil => intro k a _ _; simp [fuv]
  | cons c r ih =>
    intro k a ha hk
    have hn := group_next k c a ha
    rw [fuv]
    split
    · simp
    · rename_i h9
      split
      · rename_i hb
        exact ih (k + 1) _ hn (by omega)
      · split
        · simp
        · simp only
          rcases Nat.lt_or_ge k 9 with h | h
          · have h1 : 128 ^ (k + 1) ≤ 128 ^ 9 := Nat.pow_le_pow_right (by omega) (by omega)
            have h3 : (128 : Nat) ^ 9 = 9223372036854775808 := (by decide)
            omega
          · have hk9 : k = 9 := by omega
            subst hk9
            have hc : c = 1 := by omega
            subst hc
            have h3 : (128 : Nat) ^ 9 = 9223372036854775808 := (by decide)
            omega
theorem Rd.sub0 {w : World} {ao : Option Addr} {cap s x : Nat} {q : List Nat} (h : Rd w (.slice ao q.length cap) q) (hc : cap = s) (hs : s + x ≤ q.length) : Rd w (.slice ao x 0) ((q.drop s).take x) := by
  have h1 := h.drop0 hc (by omega)
  obtain ⟨_, _, _, he, _, h2, _⟩ := h
  cases he
  have hx : x = 0 := by omega
  subst hx
  have h3 : (q.drop s).length = q.length - s := by simp
  rw [← h3] at h1
  exact h1.take (by omega)
theorem Rd.sub {w : World} {ao : Option Addr} {cap s x : Nat} {q : List Nat} (h : Rd w (.slice ao q.length cap) q) (hs : s + x ≤ q.length) : Rd w (.slice (Option.map (fun x => x.add s) ao) x (cap - s)) ((q.drop s).take x) := by
  have h1 := h.drop (i := s) (by omega)
  have h3 : (q.drop s).length = q.length - s := by simp
  rw [← h3] at h1
  exact h1.take (by omega)
set_option maxRecDepth 100000 in
set_option maxHeartbeats 4000000 in
theorem rblob_any (b : Nat) (gv : Value) (p : List Nat) (i e : Nat) (n : Int) (w : World) (h : ReAt w b gv p i e) (hn : -9223372036854775808 ≤ n ∧ n ≤ 9223372036854775807) :
    Calls Tryz.prog 244 #[.pointer (some ⟨b, 0, none⟩), .int .i64 n] w fun r w' => ∃ rv, r = .returned rv ∧ Rd w' rv (rBlob p i e n).1 ∧ ReAt w' b gv p (rBlob p i e n).2.1 (rBlob p i e n).2.2 ∧ Kept [b] w w' ∧ ∀ x ∈ blk rv, w.heap.size ≤ x := by
  have HR := hide h
  have c1 := h.c1
  have c2 := h.c2
  have f1 := h.free 1
  have f2 := h.free 2
  have hl : p.length ≤ 140737488355328 := h.rd.len
  have hle := h.le
  have hne := hide h.ne
  have hblt := h.lt
  clear h
  by_cases he : e = 0
  · subst he
    obtain ⟨q, hq⟩ : ∃ q, p.drop i = q := ⟨_, rfl⟩
    have hql : q.length = p.length - i := by rw [← hq]; simp
    have HVdef := hide (by simp only [rBlob, hq, ne_eq, not_true_eq_false, if_false] : rBlob p i 0 n = if n < 0 then ([], i, 1) else if (fuv q 0 0).2 = 0 then ([], i, 3) else if n < (fuv q 0 0).1 then ([], i, 2) else if q.length - (fuv q 0 0).2 < (fuv q 0 0).1 then ([], i, 3) else ((q.drop (fuv q 0 0).2).take (fuv q 0 0).1, i + ((fuv q 0 0).2 + (fuv q 0 0).1), 0))
    have hfl := fuv_le q 0 0
    have hfx := fuv_lt q 0 0 (by decide) (by decide)
    have Hq := hide hq
    have hq47 : q.length ≤ 140737488355328 := by omega
    have hqp : i + q.length ≤ p.length := by omega
    clear hq hql
    obtain ⟨x, s, hx⟩ : ∃ x s, fuv q 0 0 = (x, s) := ⟨_, _, rfl⟩
    rw [hx] at HVdef hfl hfx
    simp only [Nat.zero_add] at HVdef hfl hfx
    have HX := hide hx
    clear hx
    have hx' : (x : Int) ≤ 18446744073709551615 := by omega
    by_cases hn0 : n < 0
    · have HV := hide (by rw [unhide HVdef, if_pos hn0] : rBlob p i 0 n = ([], i, 1))
      go_enter Tryz.func244, Tryz.ntmps244
      go_wp2_with (first
        | (go_at_call 215; go_must (refine (rerr_any b gv p i 0 _ (unhide HR)).mono ?_; rintro r w1 ⟨rfl, hw1⟩; subst w1))
        | (go_at_call 217; go_must (refine (rleft_any b gv p i 0 _ (unhide HR)).mono ?_; rintro r w1 ⟨lv, rfl, ⟨m, hw1⟩, hq, hb⟩; subst w1; rw [unhide Hq] at hq; have HQ := hide hq; have HB := hide hb; obtain ⟨ao, len, cap, rfl, rfl, h2, ⟨h3, h3'⟩, _⟩ := hq; clear hb))
        | (go_at_call 243; go_must (refine (fuv_any _ q _ (by exact (unhide HQ).drewN _)).mono ?_; rintro r w1 ⟨rfl, hw1⟩; subst w1; rw [unhide HX])))
      go_ret
      rw [unhide HV]
      exact ⟨_, rfl, Rd.nil _, ((unhide HR).drewN _).setFault 1, ((Kept.refl [b] w).drewN _).setCell (by simp) _, by simp [blk]⟩
    · obtain ⟨mo, rfl⟩ : ∃ mo : Nat, n = mo := ⟨n.toNat, by omega⟩
      have HV2 := hide (by rw [unhide HVdef, if_neg hn0] : rBlob p i 0 mo = if s = 0 then ([], i, 3) else if (mo : Int) < x then ([], i, 2) else if q.length - s < x then ([], i, 3) else ((q.drop s).take x, i + (s + x), 0))
      have hmo : (0 : Int) ≤ mo := by omega
      have hmo2 : (mo : Int) ≤ 9223372036854775807 := hn.2
      clear HVdef
      by_cases hs0 : s = 0
      · have HV := hide (by rw [unhide HV2, if_pos hs0] : rBlob p i 0 mo = ([], i, 3))
        subst hs0
        go_enter Tryz.func244, Tryz.ntmps244
        go_wp2_with (first
          | (go_at_call 215; go_must (refine (rerr_any b gv p i 0 _ (unhide HR)).mono ?_; rintro r w1 ⟨rfl, hw1⟩; subst w1))
          | (go_at_call 217; go_must (refine (rleft_any b gv p i 0 _ (unhide HR)).mono ?_; rintro r w1 ⟨lv, rfl, ⟨m, hw1⟩, hq, hb⟩; subst w1; rw [unhide Hq] at hq; have HQ := hide hq; have HB := hide hb; obtain ⟨ao, len, cap, rfl, rfl, h2, ⟨h3, h3'⟩, _⟩ := hq; clear hb))
          | (go_at_call 243; go_must (refine (fuv_any _ q _ (by exact (unhide HQ).drewN _)).mono ?_; rintro r w1 ⟨rfl, hw1⟩; subst w1; rw [unhide HX])))
        go_ret
        rw [unhide HV]
        exact ⟨_, rfl, Rd.nil _, ((unhide HR).drewN _).setFault 3, ((Kept.refl [b] w).drewN _).setCell (by simp) _, by simp [blk]⟩
      · have ts : ((s : Int) == 0) = false := by simp; omega
        by_cases hm : (mo : Int) < x
        · have HV := hide (by rw [unhide HV2, if_neg hs0, if_pos hm] : rBlob p i 0 mo = ([], i, 2))
          go_enter Tryz.func244, Tryz.ntmps244
          go_wp2_with (first
            | (go_at_call 215; go_must (refine (rerr_any b gv p i 0 _ (unhide HR)).mono ?_; rintro r w1 ⟨rfl, hw1⟩; subst w1))
            | (go_at_call 217; go_must (refine (rleft_any b gv p i 0 _ (unhide HR)).mono ?_; rintro r w1 ⟨lv, rfl, ⟨m, hw1⟩, hq, hb⟩; subst w1; rw [unhide Hq] at hq; have HQ := hide hq; have HB := hide hb; obtain ⟨ao, len, cap, rfl, rfl, h2, ⟨h3, h3'⟩, _⟩ := hq; clear hb))
            | (go_at_call 243; go_must (refine (fuv_any _ q _ (by exact (unhide HQ).drewN _)).mono ?_; rintro r w1 ⟨rfl, hw1⟩; subst w1; rw [unhide HX])))
          go_ret
          rw [unhide HV]
          exact ⟨_, rfl, Rd.nil _, ((unhide HR).drewN _).setFault 2, ((Kept.refl [b] w).drewN _).setCell (by simp) _, by simp [blk]⟩
        · by_cases hlt : q.length - s < x
          · have HV := hide (by rw [unhide HV2, if_neg hs0, if_neg hm, if_pos hlt] : rBlob p i 0 mo = ([], i, 3))
            have hlt' : (q.length : Int) - s < x := by omega
            go_enter Tryz.func244, Tryz.ntmps244
            go_wp2_with (first
              | (go_at_call 215; go_must (refine (rerr_any b gv p i 0 _ (unhide HR)).mono ?_; rintro r w1 ⟨rfl, hw1⟩; subst w1))
              | (go_at_call 217; go_must (refine (rleft_any b gv p i 0 _ (unhide HR)).mono ?_; rintro r w1 ⟨lv, rfl, ⟨m, hw1⟩, hq, hb⟩; subst w1; rw [unhide Hq] at hq; have HQ := hide hq; have HB := hide hb; obtain ⟨ao, len, cap, rfl, rfl, h2, ⟨h3, h3'⟩, _⟩ := hq; clear hb))
              | (go_at_call 243; go_must (refine (fuv_any _ q _ (by exact (unhide HQ).drewN _)).mono ?_; rintro r w1 ⟨rfl, hw1⟩; subst w1; rw [unhide HX])))
            go_ret
            rw [unhide HV]
            exact ⟨_, rfl, Rd.nil _, ((unhide HR).drewN _).setFault 3, ((Kept.refl [b] w).drewN _).setCell (by simp) _, by simp [blk]⟩
          · have HV := hide (by rw [unhide HV2, if_neg hs0, if_neg hm, if_neg hlt] : rBlob p i 0 mo = ((q.drop s).take x, i + (s + x), 0))
            have hlt' : ¬ (q.length : Int) - s < x := by omega
            have hxq : (s : Int) + x ≤ q.length := by omega
            have hx47 : (x : Int) ≤ 140737488355328 := by omega
            go_enter Tryz.func244, Tryz.ntmps244
            go_wp2_with (first
              | (go_at_call 215; go_must (refine (rerr_any b gv p i 0 _ (unhide HR)).mono ?_; rintro r w1 ⟨rfl, hw1⟩; subst w1))
              | (go_at_call 217; go_must (refine (rleft_any b gv p i 0 _ (unhide HR)).mono ?_; rintro r w1 ⟨lv, rfl, ⟨m, hw1⟩, hq, hb⟩; subst w1; rw [unhide Hq] at hq; have HQ := hide hq; have HB := hide hb; obtain ⟨ao, len, cap, rfl, rfl, h2, ⟨h3, h3'⟩, _⟩ := hq; clear hb))
              | (go_at_call 243; go_must (refine (fuv_any _ q _ (by exact (unhide HQ).drewN _)).mono ?_; rintro r w1 ⟨rfl, hw1⟩; subst w1; rw [unhide HX])))
            all_goals
              have hrd0 := (unhide HQ).kept (((Kept.refl [b] w).drewN m).setCell (p := ⟨b, 1, none⟩) (by simp) (.int .i64 ((i : Int) + ((s : Int) + x)))) (by intro y hy; simp; rintro rfl; exact unhide hne (unhide HB _ hy))
              have HFin := hide (((unhide HR).drewN m).setAt (i + (s + x)) (by omega))
              have HK := hide (((Kept.refl [b] w).drewN m).setCell (p := ⟨b, 1, none⟩) (by simp) (.int .i64 ((i : Int) + ((s : Int) + x))))
              rw [show (((i + (s + x) : Nat) : Int)) = (i : Int) + ((s : Int) + x) from by omega] at HFin
              have hsz : ((w.drewN m).setCell ⟨b, 1, none⟩ (.int .i64 ((i : Int) + ((s : Int) + x)))).heap.size = w.heap.size := by simp [World.setCell, World.drewN]
              obtain ⟨W, hW⟩ : ∃ W, (w.drewN m).setCell ⟨b, 1, none⟩ (.int .i64 ((i : Int) + ((s : Int) + x))) = W := ⟨_, rfl⟩
              rw [hW] at hrd0 HFin HK hsz ⊢
              have hlt2 : ((q.drop s).take x).length = x := by simp; omega
              have hby : ∀ y ∈ (q.drop s).take x, y < 256 := fun y hy => hrd0.byte y (List.mem_of_mem_drop (List.mem_of_mem_take hy))
              refine (cloned_any _ ((q.drop s).take x) _ (by first | exact hrd0.sub0 (by assumption) (by omega) | exact hrd0.sub (by omega))).mono ?_
              rintro r w2 ⟨rfl, hk2, hg2⟩
              have HG2 := hide hg2
              have HK2 := hide hk2
              have HB2 := hide hby
              clear hrd0 hg2 hk2 hW hby
              rw [hlt2, hsz]
              rw [hsz] at HG2
              have Hlt := hide hlt2
              have Hsz := hide hsz
              clear hlt2 hsz
              go_wp2
              go_ret
              rw [unhide HV]
              refine ⟨_, rfl, ?_, (unhide HFin).kept (unhide HK2) (by simp) (by simp), (unhide HK).trans (unhide HK2) (by simp), by simp [blk]⟩
              have hfin := rd_fresh (unhide HG2) (unhide HB2) (by rw [unhide Hlt]; omega)
              rw [unhide Hlt] at hfin; exact hfin
  · have he' : ((e : Int) != 0) = true := by rw [bne_iff_ne]; omega
    have HV := hide (by simp [rBlob, he] : rBlob p i e n = ([], i, e))
    clear he
    go_enter Tryz.func244, Tryz.ntmps244
    go_wp2_with (go_at_call 215; go_must (refine (rerr_any b gv p i e _ (unhide HR)).mono ?_; rintro r w1 ⟨rfl, hw1⟩; subst w1))
    go_ret
    rw [unhide HV]
    exact ⟨_, rfl, Rd.nil _, unhide HR, Kept.refl _ _, by simp [blk]⟩
end Go.Proofs.YtejchncdimcdbaaGreatDoor
