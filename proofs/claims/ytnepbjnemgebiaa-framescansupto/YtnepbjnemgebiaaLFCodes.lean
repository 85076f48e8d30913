import Derived.Test.YtnepbjnemgebiaaFAw
import Derived.Test.YtnepbjnemgebiaaRWide
namespace Go.Proofs.Ytnepbjnemgebiaa
open Go.RowKit Go.BigFrame
set_option linter.unusedVariables false
set_option linter.unusedSimpArgs false

set_option maxRecDepth 100000 in
set_option maxHeartbeats 2000000 in
theorem refLaid_any (pl : Nat) (v : Value) (p : List Nat) (w : World) (h : Rd w v p) (hpl : pl < 18446744073709551616) (hl : p.length ≤ 100000000) :
    Calls Try.prog 29 #[.int .u64 pl, v] w fun e w' => ∃ v', e = .returned v' ∧ Rd w' v' (frB pl p) ∧ Kept [] w w' := by
  have H := hide h
  obtain ⟨a1, n1, c1, rfl, hn1, hc1, ⟨hc2, hc3⟩, _⟩ := id h
  subst hn1
  clear h
  go_enter Try.func29, Try.ntmps29
  go_wp2_with fail
  refine Calls.mono (refWide_any p.length 4 _ (by omega) (by decide)) ?_
  rintro e w1 ⟨rfl, k1, g1⟩
  have HK1 := hide k1
  have HR1 := hide (rd_fresh g1 (wide_byte _ _) (by rw [wide_len]; omega))
  rw [wide_len] at HR1
  clear k1 g1
  go_wp2_with fail
  refine Calls.mono (refWide_any pl 8 _ hpl (by decide)) ?_
  rintro e w2 ⟨rfl, k2, g2⟩
  have HK2 := hide ((unhide HK1).trans k2 (by simp))
  have HR2 := hide (rd_fresh g2 (wide_byte _ _) (by rw [wide_len]; omega))
  rw [wide_len] at HR2
  have HR1' := hide ((unhide HR1).old k2 (by simp))
  clear k2 g2
  go_wp2_with fail
  refine Calls.mono (join_any _ _ _ _ w2 (unhide HR1') (unhide HR2) (by simp [wide_len])) ?_
  rintro e w3 ⟨v3, rfl, r3, k3, _⟩
  have HK3 := hide ((unhide HK2).trans k3 (by simp))
  have HR3 := hide r3
  clear r3 k3
  go_wp2_with fail
  refine Calls.mono (join_any _ _ _ p w3 (unhide HR3) ((unhide H).old (unhide HK3) (by simp)) (by simp [wide_len]; omega)) ?_
  rintro e w4 ⟨v4, rfl, r4, k4, _⟩
  have HK4 := hide ((unhide HK3).trans k4 (by simp))
  have HR4 := hide r4
  have HR3' := hide ((unhide HR3).old k4 (by simp))
  clear r4 k4
  go_wp2_with fail
  refine Calls.mono (rsum_any v4 _ w4 (unhide HR4)) ?_
  rintro e w5 ⟨rfl, rfl⟩
  have hs : upd 0 (wide p.length 4 ++ wide pl 8 ++ p) = sumF pl p := by simp [sumF, txF, List.append_assoc]
  rw [hs]
  have hsl : sumF pl p < 4294967296 := sumF_lt (unhide H).byte
  clear hs
  obtain ⟨S, hS⟩ : ∃ S, sumF pl p = S := ⟨_, rfl⟩
  have HS := hide hS
  rw [hS] at hsl ⊢
  clear hS
  go_wp2_with fail
  refine Calls.mono (refWide_any S 4 w5 (by omega) (by decide)) ?_
  rintro e w6 ⟨rfl, k6, g6⟩
  have HK6 := hide ((unhide HK4).trans k6 (by simp))
  have HR6 := hide (rd_fresh g6 (wide_byte _ _) (by rw [wide_len]; omega))
  rw [wide_len] at HR6
  have HR36 := hide ((unhide HR3').old k6 (by simp))
  clear k6 g6
  go_wp2_with fail
  refine Calls.mono (join_any _ _ [245] _ _ (rd_lit (heap_alloc_new _ _) rfl (by decide) 1 rfl (by decide)) ((unhide HR36).old ((Kept.refl [] w6).alloc _) (by simp)) (by simp [wide_len])) ?_
  rintro e w7 ⟨v7, rfl, r7, k7, _⟩
  have HK7 := hide (((unhide HK6).alloc _).trans k7 (by simp))
  have HR7 := hide r7
  have HR67 := hide ((unhide HR6).old (((Kept.refl [] w6).alloc _).trans k7 (by simp)) (by simp))
  clear r7 k7
  go_wp2_with fail
  refine Calls.mono (join_any _ _ p [95] _ ((unhide H).old ((unhide HK7).alloc _) (by simp)) (rd_lit (heap_alloc_new _ _) rfl (by decide) 1 rfl (by decide)) (by simp; omega)) ?_
  rintro e w8 ⟨v8, rfl, r8, k8, _⟩
  have HK8 := hide (((unhide HK7).alloc _).trans k8 (by simp))
  have HR8 := hide r8
  have HR68 := hide ((unhide HR67).old (((Kept.refl [] w7).alloc _).trans k8 (by simp)) (by simp))
  have HR78 := hide ((unhide HR7).old (((Kept.refl [] w7).alloc _).trans k8 (by simp)) (by simp))
  clear r8 k8
  go_wp2_with fail
  refine Calls.mono (join_any _ _ _ _ w8 (unhide HR68) (unhide HR8) (by simp [wide_len]; omega)) ?_
  rintro e w9 ⟨v9, rfl, r9, k9, _⟩
  have HK9 := hide ((unhide HK8).trans k9 (by simp))
  have HR9 := hide r9
  have HR79 := hide ((unhide HR78).old k9 (by simp))
  clear r9 k9
  go_wp2_with fail
  refine Calls.mono (join_any _ _ _ _ w9 (unhide HR79) (unhide HR9) (by simp [wide_len]; omega)) ?_
  rintro e w10 ⟨v10, rfl, r10, k10, _⟩
  have HK10 := hide ((unhide HK9).trans k10 (by simp))
  have HR10 := hide r10
  clear r10 k10
  go_wp2
  go_ret
  refine ⟨_, rfl, ?_, unhide HK10⟩
  have e9 : [245] ++ (wide p.length 4 ++ wide pl 8) ++ (wide S 4 ++ (p ++ [95])) = frB pl p := by
    rw [← unhide HS]; simp [frB, List.append_assoc]
  rw [e9] at HR10
  exact unhide HR10

set_option maxRecDepth 100000 in
set_option maxHeartbeats 2000000 in
theorem docEncode_any (pl : Nat) (v : Value) (p : List Nat) (w : World) (h : Rd w v p) (hpl : pl < 18446744073709551616) (hl : p.length ≤ 100000000) :
    Calls Try.prog 12 #[.int .u64 pl, v] w fun e w' => ∃ v', e = .returned (.tuple #[v', .int .i64 (encE p)]) ∧ Rd w' v' (encB pl p) ∧ Kept [] w w' := by
  have H := hide h
  obtain ⟨a1, n1, c1, rfl, hn1, _⟩ := id h
  subst hn1
  clear h
  by_cases h1 : 65535 < p.length
  · have h1' : (65535 : Int) < p.length := by omega
    have HE := hide (by simp [encE, h1] : encE p = 2)
    have HB := hide (by simp [encB, unhide HE] : encB pl p = [])
    rw [unhide HE, unhide HB]
    clear h1
    go_enter Try.func12, Try.ntmps12
    go_wp2
    go_ret2
    exact ⟨_, rfl, Rd.nil _, Kept.refl [] w⟩
  by_cases h0 : p.length = 0
  · have h1' : ¬ (65535 : Int) < p.length := by omega
    have h0' : (p.length : Int) = 0 := by omega
    have HE := hide (by simp [encE, h0] : encE p = 3)
    have HB := hide (by simp [encB, unhide HE] : encB pl p = [])
    rw [unhide HE, unhide HB]
    clear h1
    go_enter Try.func12, Try.ntmps12
    go_wp2
    go_ret2
    exact ⟨_, rfl, Rd.nil _, Kept.refl [] w⟩
  have h1' : ¬ (65535 : Int) < p.length := by omega
  have h0' : ¬ (p.length : Int) = 0 := by omega
  have HE := hide (by simp [encE, h0, h1] : encE p = 0)
  have HB := hide (by simp [encB, unhide HE] : encB pl p = frB pl p)
  rw [unhide HE, unhide HB]
  clear h1 h0
  go_enter Try.func12, Try.ntmps12
  go_wp2_with fail
  refine Calls.mono (refLaid_any pl _ p w (unhide H) hpl hl) ?_
  rintro e w1 ⟨v1, rfl, r1, k1⟩
  have HR1 := hide r1
  have HK1 := hide k1
  clear r1 k1
  go_wp2
  go_ret2
  exact ⟨_, rfl, unhide HR1, unhide HK1⟩

set_option maxRecDepth 100000 in
set_option maxHeartbeats 2000000 in
theorem frameCodes_walk (pl : Nat) (v : Value) (p : List Nat) (w : World) (hpl : pl < 18446744073709551616) (h : Rd w v p) (hl : p.length ≤ 100000000) :
    Calls Try.prog 3 #[.int .u64 pl, v] w fun e w' => e = .returned (.bool true) ∧ Below w.heap.size w w' := by
  have H := hide h
  clear h
  go_enter Try.func3, Try.ntmps3
  go_wp2_with fail
  refine Calls.mono (fawake_any _) ?_
  rintro e w1 ⟨rfl, k1⟩
  have HK1 := hide k1
  clear k1
  go_wp2_with fail
  refine Calls.mono (twin_any _ p w1 ((unhide H).old (unhide HK1) (by simp))) ?_
  rintro e w2 ⟨rfl, k2, g2⟩
  have HK2 := hide ((unhide HK1).trans k2 (by simp))
  have HR2 := hide (rd_fresh g2 (unhide H).byte (unhide H).len)
  clear k2 g2
  go_wp2_with fail
  refine Calls.mono (made_any pl _ p w2 (unhide HR2) hpl) ?_
  rintro e w3 ⟨v3, rfl, n3, k3⟩
  have HN3 := hide n3.1
  have HK3 := hide ((unhide HK2).trans k3 (by simp))
  clear k3 n3
  go_wp2_with fail
  refine Calls.mono (docEncode_any pl _ p w3 ((unhide H).old (unhide HK3) (by simp)) hpl hl) ?_
  rintro e w4 ⟨v4, rfl, r4, k4⟩
  have HR4 := hide r4
  have HN4 := hide ((unhide HN3).old k4 (by simp))
  have HK4 := hide ((unhide HK3).trans k4 (by simp))
  clear k4 r4
  go_wp2_with fail
  refine Calls.mono (same_any _ _ _ _ w4 (unhide HN4) (unhide HR4)) ?_
  rintro e w5 ⟨rfl, m5, rfl⟩
  rw [decide_eq_true rfl]
  go_wp2
  go_ret
  exact ⟨rfl, ((unhide HK4).drewN _).below (Nat.le_refl _) (by simp)⟩
end Go.Proofs.Ytnepbjnemgebiaa
