import Derived.Test.YtnepbjnemgebiabFFits
import Derived.Test.YtnepbjnemgebiabFScan
import Derived.Test.YtnepbjnemgebiabQKeep
import Derived.Deep.RegionHeld3
namespace Go.Proofs.Ytnepbjnemgebiab
open Go.RowKit Go.BigFrame
set_option linter.unusedVariables false
set_option linter.unusedSimpArgs false

/-- The frames of pieces, one behind the other. -/
def runB (ps : List (Nat × List Nat)) : List Nat := (ps.map fun x => frB x.1 x.2).flatten
def okP (ps : List (Nat × List Nat)) : Prop := ∀ x ∈ ps, x.1 < 18446744073709551616 ∧ 1 ≤ x.2.length ∧ x.2.length ≤ 65535 ∧ ∀ y ∈ x.2, y < 256
theorem scan_run : ∀ (ps : List (Nat × List Nat)) (A t : List Nat) (f : Nat), okP ps → firstF t = none → ps.length ≤ f → scanL f (A ++ (runB ps ++ t)) A.length = (ps, A.length + (runB ps).length)
  | [], A, t, f, _, ht, _ => by
    rw [scanL_none (by rw [List.drop_left]; simpa [runB] using ht)]; simp [runB]
  | x :: ps, A, t, f + 1, ho, ht, hf => by
    have hx := ho x (by simp)
    have e : runB (x :: ps) = frB x.1 x.2 ++ runB ps := by simp [runB]
    have h1 : firstF ((A ++ (runB (x :: ps) ++ t)).drop A.length) = some x := by
      rw [List.drop_left, e, List.append_assoc]
      exact firstF_some x.1 x.2 _ hx.1 hx.2.1 hx.2.2.1 hx.2.2.2
    rw [scanL_some h1]
    have ih := scan_run ps (A ++ frB x.1 x.2) t f (fun y hy => ho y (by simp [hy])) ht (by simpa using hf)
    have e2 : A ++ (runB (x :: ps) ++ t) = A ++ frB x.1 x.2 ++ (runB ps ++ t) := by rw [e]; simp
    rw [e2]
    have e3 : (A ++ frB x.1 x.2).length = A.length + 18 + x.2.length := by rw [List.length_append, frB_len]; omega
    rw [e3] at ih
    rw [ih, e, List.length_append, frB_len]
    simp only [Prod.mk.injEq, true_and]
    omega
theorem runB_len (ps : List (Nat × List Nat)) : ps.length ≤ (runB ps).length := by
  induction ps with
  | nil => simp
  | cons x r ih =>
    have e : runB (x :: r) = frB x.1 x.2 ++ runB r := by simp [runB]
    rw [e, List.length_append, frB_len, List.length_cons]
    omega
theorem scanF_run {ps : List (Nat × List Nat)} {t : List Nat} (ho : okP ps) (ht : firstF t = none) : scanF (runB ps ++ t) = (ps, (runB ps).length) := by
  have := scan_run ps [] t (runB ps ++ t).length ho ht (by have := runB_len ps; rw [List.length_append]; omega)
  simpa [scanF] using this

theorem runB_app (a b : List (Nat × List Nat)) : runB (a ++ b) = runB a ++ runB b := by unfold runB; rw [List.map_append, List.flatten_append]
theorem runB_one (x : Nat × List Nat) : runB [x] = frB x.1 x.2 := by simp [runB]
theorem runB_take (ps : List (Nat × List Nat)) (i : Nat) : (runB (ps.take i)).length ≤ (runB ps).length := by
  have e : runB ps = runB (ps.take i) ++ runB (ps.drop i) := by
    rw [← runB_app, List.take_append_drop]
  rw [e, List.length_append]; omega
/-- The slice value v reads as these pieces. -/
def RdP (w : World) (v : Value) (ps : List (Nat × List Nat)) : Prop :=
  ∃ (ao : Option Addr) (len cap : Nat) (vs : List Value), v = .slice ao len cap ∧ ps.length = len ∧ vs.length = len ∧ len ≤ cap ∧ cap ≤ 9223372036854775807 ∧ (∀ i, i < len → Rd w (vs.getD i undef) (ps.getD i (0, [])).2 ∧ (ps.getD i (0, [])).1 < 18446744073709551616) ∧
    (0 < len → ∃ b off, ao = some ⟨b, off, none⟩ ∧ ∀ i, i < len → w.cell? ⟨b, off + i * 2, none⟩ = some (.int .u64 ((ps.getD i (0, [])).1 : Int)) ∧ w.cell? ⟨b, off + i * 2 + 1, none⟩ = some (vs.getD i undef))
def pwt (ps : List (Nat × List Nat)) : Nat := (ps.map fun x => x.2.length + 2).sum
theorem runB_pwt (ps : List (Nat × List Nat)) : (runB ps).length ≤ 18 * pwt ps := by
  induction ps with
  | nil => simp [runB]
  | cons x r ih =>
    have e : runB (x :: r) = frB x.1 x.2 ++ runB r := by simp [runB]
    rw [e, List.length_append, frB_len]
    simp only [pwt, List.map_cons, List.sum_cons] at ih ⊢
    omega
theorem RdP.old {w w' : World} {v : Value} {ps : List (Nat × List Nat)} (h : RdP w v ps) (k : Kept [] w w') : RdP w' v ps := by
  obtain ⟨ao, len, cap, vs, h1, h2, h3, h4, h5, h6, h7⟩ := h
  refine ⟨ao, len, cap, vs, h1, h2, h3, h4, h5, fun i hi => ⟨(h6 i hi).1.old k (by simp), (h6 i hi).2⟩, fun hp => ?_⟩
  obtain ⟨b, off, e, hc⟩ := h7 hp
  exact ⟨b, off, e, fun i hi => ⟨k.cell (hc i hi).1 (by simp), k.cell (hc i hi).2 (by simp)⟩⟩

theorem rd_empty (w : World) (g : Nat) : Rd w (.slice (some ⟨g, 0, none⟩) 0 0) [] := ⟨_, _, _, rfl, rfl, Nat.le_refl _, ⟨by omega, by omega⟩, fun h => by simp at h, by simp, fun h => by omega⟩

set_option maxRecDepth 100000 in
set_option maxHeartbeats 2000000 in
theorem laid_any (v : Value) (ps : List (Nat × List Nat)) (w : World) (h : RdP w v ps) (ho : okP ps) (hl : (runB ps).length ≤ 1000000000) :
    Calls Try.prog 15 #[v] w fun e w' => ∃ v', e = .returned (.tuple #[v', .bool true]) ∧ Rd w' v' (runB ps) ∧ Kept [] w w' := by
  obtain ⟨ao, len, cap, vs, rfl, h1, h2, h3, h4, h5, h6⟩ := h
  have H5 := hide h5
  have H6 := hide h6
  have HO := hide ho
  clear h5 h6 ho
  subst h1
  go_enter Try.func15, Try.ntmps15
  go_wp2_with fail
  go_loopw [4, 11] (fun t4 t11 wr => ∃ (i : Nat), i ≤ ps.length ∧ t11 = .int .i64 i ∧ Hid (Rd wr t4 (runB (ps.take i))) ∧ Hid (Kept [] w wr)) (fun _ t _ => ps.length - (intOf t).toNat)
  case atStart => exact ⟨0, Nat.zero_le _, rfl, hide (by simpa [runB] using Rd.nil w), hide (Kept.refl _ _)⟩
  case round =>
    obtain ⟨i, hi, rfl, HR, HK⟩ := hrel
    obtain ⟨a4, m4, c4, hu4, _⟩ := id (unhide HR)
    subst hu4
    by_cases hlt : i < ps.length
    · have hlt' : (i : Int) < ps.length := by omega
      obtain ⟨b, off, rfl, hcc⟩ := unhide H6 (by omega)
      have q1 := (unhide HK).cell (hcc i hlt).1 (by simp)
      have q2 := (unhide HK).cell (hcc i hlt).2 (by simp)
      have HA := hide ((unhide H5 i hlt).1.old (unhide HK) (by simp))
      have hget : ps.getD i (0, []) = ps[i] := by rw [List.getD_eq_getElem?_getD, List.getElem?_eq_getElem hlt]; rfl
      have hoi := unhide HO ps[i] (List.getElem_mem hlt)
      have HTK := hide (by rw [List.take_succ_eq_append_getElem hlt, runB_app, runB_one] : runB (ps.take (i + 1)) = runB (ps.take i) ++ frB ps[i].1 ps[i].2)
      have HLE := hide (runB_take ps (i + 1))
      rw [hget] at q1 HA
      clear hcc hget
      generalize vs.getD i undef = vi at q2 HA
      generalize ps[i] = pi at q1 HA hoi HTK
      obtain ⟨pl, pay⟩ := pi
      simp only at q1 HA hoi HTK
      obtain ⟨o1, o2, o3, o4⟩ := hoi
      obtain ⟨a8, m8, c8, rfl, hm8, _⟩ := id (unhide HA)
      subst hm8
      go_wp2_with fail
      have HKW := hide ((unhide HK).alloc (.cells #[.int .u64 (pl : Int), .slice a8 pay.length c8] 25))
      have HCW := hide (heap_alloc_new wr (.cells #[.int .u64 (pl : Int), .slice a8 pay.length c8] 25))
      have HAW := hide ((unhide HA).old ((Kept.refl [] wr).alloc (.cells #[.int .u64 (pl : Int), .slice a8 pay.length c8] 25)) (by simp))
      have HRW := hide ((unhide HR).old ((Kept.refl [] wr).alloc (.cells #[.int .u64 (pl : Int), .slice a8 pay.length c8] 25)) (by simp))
      obtain ⟨W, hW⟩ : ∃ W, wr.alloc (.cells #[.int .u64 (pl : Int), .slice a8 pay.length c8] 25) = W := ⟨_, rfl⟩
      rw [hW] at HKW HCW HAW HRW ⊢
      clear hW
      have d0 : W.cell? ⟨wr.heap.size, 0, none⟩ = some (.int .u64 pl) := by rw [cell_of_row _ _ _ _ _ _ (unhide HCW)]; rfl
      have d1 : W.cell? ⟨wr.heap.size, 1, none⟩ = some (.slice a8 pay.length c8) := by rw [cell_of_row _ _ _ _ _ _ (unhide HCW)]; rfl
      have HD0 := hide (show W.drew.cell? ⟨wr.heap.size, 0, none⟩ = _ from d0)
      have HD1 := hide (show W.drew.cell? ⟨wr.heap.size, 1, none⟩ = _ from d1)
      have HKd := hide (unhide HKW).drew
      go_region_held3 (fun w' => w'.cell? ⟨wr.heap.size, 0, none⟩ = some (.int .u64 pl) ∧ w'.cell? ⟨wr.heap.size, 1, none⟩ = some (.slice a8 pay.length c8)) (go_keep) (first
        | (go_at_call 9; refine (twin_any _ pay _ (by exact unhide HAW)).mono ?_; rintro e w2 ⟨rfl, k2, g2⟩; have e0 := k2.cell (unhide HD0) (by simp); have e1 := k2.cell (unhide HD1) (by simp); have HK2 := hide ((unhide HKd).trans k2 (by simp)); have HT2 := hide (rd_fresh g2 (unhide HA).byte (unhide HA).len); have HR2 := hide ((show Rd W.drew _ _ from unhide HRW).old k2 (by simp)); clear k2 g2)
        | (go_at_call 8; refine (made_any pl _ pay _ (by exact unhide HT2) o1).mono ?_; rintro e w3 ⟨v3, rfl, n3, k3⟩; have e0' := k3.cell e0 (by simp); have e1' := k3.cell e1 (by simp); have HK3 := hide ((unhide HK2).trans k3 (by simp)); have HN3 := hide n3.1; have HR3 := hide ((unhide HR2).old k3 (by simp)); clear k3 n3))
      rw [encE_good o2 o3]
      rw [encB_good o2 o3] at HN3
      obtain ⟨a3, m3, c3, hu3, _⟩ := id (unhide HN3)
      subst hu3
      go_wp2_with fail
      refine Calls.mono (join_any _ _ _ _ w3 (unhide HR3) (unhide HN3) (by have h9 := unhide HLE; rw [unhide HTK, List.length_append] at h9; omega)) ?_
      rintro e w5 ⟨v5, rfl, r5, k5, _⟩
      rw [← unhide HTK] at r5
      have HR5 := hide r5
      have HK5 := hide ((unhide HK3).trans k5 (by simp))
      clear r5 k5
      go_wp2
      refine ⟨⟨i + 1, by omega, by go_num, HR5, HK5⟩, ?_⟩
      simp [intOf]; omega
    · have hlt' : ¬ (i : Int) < ps.length := by omega
      have hie : i = ps.length := by omega
      subst hie
      rw [List.take_length] at HR
      go_wp2
      go_ret2
      exact ⟨_, rfl, unhide HR, unhide HK⟩

end Go.Proofs.Ytnepbjnemgebiab
