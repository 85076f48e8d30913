import Derived.Test.YtnimfbbhhdgepaaDoorLShaSums
import Derived.Test.YtnimfbbhhdgepaaDoorSCopy
import Derived.Test.YtnimfbbhhdgepaaDoorQKeep
import Derived.Test.YtnimfbbhhdgepaaDoorSApp
import Derived.Test.YtnimfbbhhdgepaaDoorLShaChain
namespace Go.Proofs.YtnimfbbhhdgepaaDoor
open Go.RowKit Go.BigFrame
set_option linter.unusedVariables false
set_option linter.unusedSimpArgs false

set_option maxRecDepth 100000 in
set_option maxHeartbeats 4000000 in
theorem shaCopies_walk (va : Value) (a : List Nat) (vb : Value) (b : List Nat) (vc : Value) (c : List Nat) (w : World) (ha : Rd w va a) (hla : a.length ≤ 1048576) (hb : Rd w vb b) (hlb : a.length + b.length ≤ 1048576) (hc : Rd w vc c) (hlc : a.length + b.length + c.length ≤ 1048576) (hT : Tabs w) :
    Calls Tryd.prog 7 #[va, vb, vc] w fun e w' => e = .returned (.bool true) ∧ Below w.heap.size w w' := by
  have HT := hide hT
  have HA := hide ha
  have HB := hide hb
  have HC := hide hc
  have h2 := hT.two
  obtain ⟨aa, la, ca, rfl, hla', _⟩ := ha
  obtain ⟨ab, lb, cb, rfl, hlb', _⟩ := hb
  obtain ⟨ac, lc, cc, rfl, hlc', _⟩ := hc
  subst hla'
  subst hlb'
  subst hlc'
  clear hT
  go_enter Tryd.func7, Tryd.ntmps7
  go_wp2_with fail
  refine Calls.mono (shaAwake_any w (unhide HT)) ?_
  rintro e w1 ⟨rfl, k1⟩
  have HK1 := hide k1
  have hs1 := k1.size
  clear k1
  go_wp2_with fail
  refine Calls.mono (snew_any w1) ?_
  rintro e w2 ⟨rfl, s2, k2⟩
  have HS2 := hide s2
  have HK2 := hide ((unhide HK1).trans k2 (by simp))
  obtain ⟨gs, hgs⟩ : ∃ g, w1.heap.size = g := ⟨_, rfl⟩
  rw [hgs] at HS2
  have Hgs := hide (by omega : w.heap.size ≤ gs ∧ 2 ≤ gs)
  clear s2 k2
  have hlt2 := (unhide HS2).lt
  go_wp2_with fail
  refine Calls.mono (ltwin_any _ a w2 ((unhide HA).old (unhide HK2) (by simp))) ?_
  rintro e w3 ⟨rfl, k3, k3h⟩
  have HP3 := hide (rd_fresh k3h (unhide HA).byte (by omega))
  have HS3 := hide ((unhide HS2).kept k3 (by simp))
  have HK3 := hide ((unhide HK2).trans k3 (by simp))
  clear k3 k3h
  go_wp2_with fail
  refine Calls.mono (write_any gs [] _ a w3 (unhide HS3) (unhide HP3) (by intro _; simp [blk]; omega) (unhide Hgs).2 (by simp; omega) ((unhide HT).k (unhide HK3))) ?_
  rintro e w4 ⟨rfl, s4, k4⟩
  rw [List.nil_append] at s4
  have HS4 := hide s4
  have HK4 := hide ((unhide HK3).trans k4 (by have := unhide Hgs; simp; omega))
  clear s4 k4
  have hlt4 := (unhide HS4).lt
  have hsz4 := (unhide HK4).size
  go_wp2_with fail
  refine Calls.mono (scopy_any gs a w4 (unhide HS4)) ?_
  rintro e w5 ⟨rfl, s5, k5⟩
  have HC5 := hide s5
  have HS5 := hide ((unhide HS4).kept k5 (by simp))
  have HK5 := hide ((unhide HK4).trans k5 (by simp))
  clear s5 k5
  obtain ⟨gt, hgt⟩ : ∃ g, w4.heap.size = g := ⟨_, rfl⟩
  rw [hgt] at HC5 hlt4 hsz4
  have Hgt := hide (by omega : gs < gt ∧ w.heap.size ≤ gt)
  have hlt5 := (unhide HC5).lt
  go_wp2_with fail
  refine Calls.mono (ltwin_any _ b w5 ((unhide HB).old (unhide HK5) (by simp))) ?_
  rintro e w6 ⟨rfl, k6, k6h⟩
  have HP6 := hide (rd_fresh k6h (unhide HB).byte (by omega))
  have HS6 := hide ((unhide HS5).kept k6 (by simp))
  have HC6 := hide ((unhide HC5).kept k6 (by simp))
  have HK6 := hide ((unhide HK5).trans k6 (by simp))
  clear k6 k6h
  go_wp2_with fail
  refine Calls.mono (write_any gs a _ b w6 (unhide HS6) (unhide HP6) (by intro _; simp [blk]; omega) (unhide Hgs).2 (by omega) ((unhide HT).k (unhide HK6))) ?_
  rintro e w7 ⟨rfl, s7, k7⟩
  have HS7 := hide s7
  have HC7 := hide ((unhide HC6).kept k7 (by have := unhide Hgt; simp; omega))
  have HK7 := hide ((unhide HK6).trans k7 (by have := unhide Hgs; simp; omega))
  clear s7 k7
  have hlt7 := (unhide HC7).lt
  go_wp2_with fail
  refine Calls.mono (scopy_any gs (a ++ b) w7 (unhide HS7)) ?_
  rintro e w8 ⟨rfl, s8, k8⟩
  have HU8 := hide s8
  have HS8 := hide ((unhide HS7).kept k8 (by simp))
  have HC8 := hide ((unhide HC7).kept k8 (by simp))
  have HK8 := hide ((unhide HK7).trans k8 (by simp))
  clear s8 k8
  obtain ⟨gu, hgu⟩ : ∃ g, w7.heap.size = g := ⟨_, rfl⟩
  rw [hgu] at HU8 hlt7
  have Hgu := hide (by have := unhide Hgt; omega : gs < gu ∧ gt < gu ∧ w.heap.size ≤ gu)
  have hlt8 := (unhide HU8).lt
  go_wp2_with fail
  refine Calls.mono (ltwin_any _ c w8 ((unhide HC).old (unhide HK8) (by simp))) ?_
  rintro e w9 ⟨rfl, k9, k9h⟩
  have HP9 := hide (rd_fresh k9h (unhide HC).byte (by omega))
  have HS9 := hide ((unhide HS8).kept k9 (by simp))
  have HC9 := hide ((unhide HC8).kept k9 (by simp))
  have HU9 := hide ((unhide HU8).kept k9 (by simp))
  have HK9 := hide ((unhide HK8).trans k9 (by simp))
  clear k9 k9h
  go_wp2_with fail
  refine Calls.mono (write_any gt a _ c w9 (unhide HC9) (unhide HP9) (by intro _; simp [blk]; have := unhide Hgu; omega) (by have := unhide Hgt; have := unhide Hgs; omega) (by omega) ((unhide HT).k (unhide HK9))) ?_
  rintro e w10 ⟨rfl, s10, k10⟩
  have HC10 := hide s10
  have HS10 := hide ((unhide HS9).kept k10 (by have := unhide Hgt; simp; omega))
  have HU10 := hide ((unhide HU9).kept k10 (by have := unhide Hgu; simp; omega))
  have HK10 := hide ((unhide HK9).trans k10 (by have := unhide Hgt; simp; omega))
  clear s10 k10
  obtain ⟨AB, hAB⟩ : ∃ AB, a ++ b = AB := ⟨_, rfl⟩
  obtain ⟨AC, hAC⟩ : ∃ AC, a ++ c = AC := ⟨_, rfl⟩
  have hABl : a.length + b.length = AB.length := by rw [← hAB]; simp
  have hACl : a.length + c.length = AC.length := by rw [← hAC]; simp
  have HABb := hide (by rw [← hAB]; intro x hx; rcases List.mem_append.1 hx with h | h; exact (unhide HA).byte x h; exact (unhide HB).byte x h : ∀ x ∈ AB, x < 256)
  have HACb := hide (by rw [← hAC]; intro x hx; rcases List.mem_append.1 hx with h | h; exact (unhide HA).byte x h; exact (unhide HC).byte x h : ∀ x ∈ AC, x < 256)
  rw [hAB] at HS10 HU10
  rw [hAC] at HC10
  have hls := (unhide HS10).lt
  have hlt := (unhide HC10).lt
  have hlu := (unhide HU10).lt
  have hsz10 := (unhide HK10).size
  go_wp2_with fail
  refine Calls.mono (ltwin_any _ a w10 ((unhide HA).old (unhide HK10) (by simp))) ?_
  rintro e w11 ⟨rfl, k11, k11h⟩
  have HO11 := hide (own_fresh k11h (by omega))
  have HK11 := hide k11
  clear k11 k11h
  go_wp2_with (at_builtin; go_must (refine wpList_appendAll rfl _ _ rfl rfl _ w10.heap.size (.slice (some ⟨w10.heap.size, 0, none⟩) a.length a.length) a b _ b.length _ (by exact unhide HO11) (by exact (unhide HB).old ((unhide HK10).trans (unhide HK11) (by simp)) (by simp)) (by omega) (unhide HK11).size rfl rfl ?_; intro x1 y1 w12 HO12 HG12 HA12; rw [hAB] at HO12; rw [hABl] at HO12 ⊢))
  have HK12 := hide ((unhide HK11).grown (unhide HG12) (by intro j hj; right; cases hj; exact Nat.le_refl _))
  have HKK12 := hide ((unhide HK10).trans (unhide HK12) (by simp))
  clear HG12 HA12
  refine Calls.mono (ltwin_any _ a w12 ((unhide HA).old (unhide HKK12) (by simp))) ?_
  rintro e w13 ⟨rfl, k13, k13h⟩
  have HO13 := hide (own_fresh k13h (by omega))
  have HK13 := hide k13
  clear k13 k13h
  go_wp2_with (at_builtin; go_must (refine wpList_appendAll rfl _ _ rfl rfl _ w12.heap.size (.slice (some ⟨w12.heap.size, 0, none⟩) a.length a.length) a c _ c.length _ (by exact unhide HO13) (by exact (unhide HC).old ((unhide HKK12).trans (unhide HK13) (by simp)) (by simp)) (by omega) (unhide HK13).size rfl rfl ?_; intro x2 y2 w14 HO14 HG14 HA14; rw [hAC] at HO14; rw [hACl] at HO14 ⊢))
  have HK14 := hide ((unhide HK13).grown (unhide HG14) (by intro j hj; right; cases hj; exact Nat.le_refl _))
  have HKK14 := hide ((unhide HKK12).trans (unhide HK14) (by simp))
  have HOab := hide ((unhide HK14).owns (unhide HO12) (by simp))
  have HOac := HO14
  have HKx := hide ((unhide HK12).trans (unhide HK14) (by simp))
  have HS14 := hide ((unhide HS10).kept (unhide HKx) (by simp))
  have HC14 := hide ((unhide HC10).kept (unhide HKx) (by simp))
  have HU14 := hide ((unhide HU10).kept (unhide HKx) (by simp))
  have Hablt := hide (fun k hk => (unhide HO12).lt k hk : ∀ k, (Value.slice x1 AB.length y1).ownBlock = some k → w10.heap.size ≤ k ∧ k < w12.heap.size)
  have Haclt := hide (fun k hk => (unhide HO14).lt k hk : ∀ k, (Value.slice x2 AC.length y2).ownBlock = some k → w12.heap.size ≤ k ∧ k < w14.heap.size)
  have Hsz := hide (by have := (unhide HKx).size; have := (unhide HK14).size; have := (unhide HK12).size; omega : w10.heap.size ≤ w12.heap.size ∧ w12.heap.size ≤ w14.heap.size)
  clear HG14 HA14 HO14 HO12 HO11 HO13 HS10 HC10 HU10
  have Hg10 := hide (by omega : gs < w10.heap.size ∧ gt < w10.heap.size ∧ gu < w10.heap.size)
  have HNab := hide (fun (L : List Nat) (hL : ∀ x ∈ L, x < w10.heap.size) k hk hm => by have := (unhide Hablt k hk).1; have := hL k hm; omega : ∀ (L : List Nat), (∀ x ∈ L, x < w10.heap.size) → ∀ k, (Value.slice x1 AB.length y1).ownBlock = some k → k ∉ L)
  have HNac := hide (fun (L : List Nat) (hL : ∀ x ∈ L, x < w10.heap.size) k hk hm => by have := (unhide Haclt k hk).1; have := hL k hm; have := unhide Hsz; omega : ∀ (L : List Nat), (∀ x ∈ L, x < w10.heap.size) → ∀ k, (Value.slice x2 AC.length y2).ownBlock = some k → k ∉ L)
  have hlAB : AB.length ≤ 1048576 := by omega
  have hlAC : AC.length ≤ 1048576 := by omega
  have hABc : AB.length + c.length ≤ 1048576 := by omega
  have hABa : AB.length + a.length ≤ 2097152 := by omega
  clear hABl hACl hlb hlc hls hlt hlu hlt2 hlt4 hlt5 hlt7 hlt8 hsz4 hsz10 hs1
  have HY14 := hide (Kept.refl [] w14)
  have hq1 := fun W => row_eq W (hash AB) (hash AB) (hash_len _) (hash_len _)
  simp only [decide_true] at hq1
  have hq2 := fun W => row_eq W (hash AC) (hash AC) (hash_len _) (hash_len _)
  simp only [decide_true] at hq2
  go_wp2_with fail
  refine Calls.mono (ssum_any gs AB w14 ((unhide HS14).kept (unhide HY14) (by simp)) (by omega) ((unhide HT).k (unhide HKK14))) ?_
  rintro e w15 ⟨rfl, k15⟩
  have HY15 := hide ((unhide HY14).trans k15 (by simp))
  have HKK15 := hide ((unhide HKK14).trans k15 (by simp))
  clear k15
  go_wp2_with fail
  refine Calls.mono (refsum_any _ AB w15 (rd_owns ((unhide HY15).owns (unhide HOab) (by simp)) (unhide HABb) (by omega))) ?_
  rintro e w16 ⟨rfl, k16⟩
  have HY16 := hide ((unhide HY15).trans k16 (by simp))
  have HKK16 := hide ((unhide HKK15).trans k16 (by simp))
  clear k16
  go_wp2_with fail
  refine Calls.mono (ssum_any gt AC w16 ((unhide HC14).kept (unhide HY16) (by simp)) (by omega) ((unhide HT).k (unhide HKK16))) ?_
  rintro e w17 ⟨rfl, k17⟩
  have HY17 := hide ((unhide HY16).trans k17 (by simp))
  have HKK17 := hide ((unhide HKK16).trans k17 (by simp))
  clear k17
  go_wp2_with fail
  refine Calls.mono (refsum_any _ AC w17 (rd_owns ((unhide HY17).owns (unhide HOac) (by simp)) (unhide HACb) (by omega))) ?_
  rintro e w18 ⟨rfl, k18⟩
  have HY18 := hide ((unhide HY17).trans k18 (by simp))
  have HKK18 := hide ((unhide HKK17).trans k18 (by simp))
  clear k18
  go_wp2_with fail
  refine Calls.mono (ssum_any gu AB w18 ((unhide HU14).kept (unhide HY18) (by simp)) (by omega) ((unhide HT).k (unhide HKK18))) ?_
  rintro e w19 ⟨rfl, k19⟩
  have HY19 := hide ((unhide HY18).trans k19 (by simp))
  have HKK19 := hide ((unhide HKK18).trans k19 (by simp))
  clear k19
  go_wp2_with fail
  refine Calls.mono (refsum_any _ AB w19 (rd_owns ((unhide HY19).owns (unhide HOab) (by simp)) (unhide HABb) (by omega))) ?_
  rintro e w20 ⟨rfl, k20⟩
  have HY20 := hide ((unhide HY19).trans k20 (by simp))
  have HKK20 := hide ((unhide HKK19).trans k20 (by simp))
  clear k20
  have HSz20 := hide ((unhide HY20).size)
  go_wp2_with fail
  refine Calls.mono (ltwin_any _ c w20 ((unhide HC).old (unhide HKK20) (by simp))) ?_
  rintro e w21 ⟨rfl, k21, k21h⟩
  have HP21 := hide (rd_fresh k21h (unhide HC).byte (by omega))
  have HKK21 := hide ((unhide HKK20).trans k21 (by simp))
  have HY21 := hide ((unhide HY20).trans k21 (by simp))
  clear k21 k21h
  go_wp2_with fail
  refine Calls.mono (write_any gu AB _ c w21 ((unhide HU14).kept (unhide HY21) (by simp)) (unhide HP21) (by intro _; simp [blk]; have := unhide HSz20; have := unhide Hsz; have := unhide Hg10; omega) (by have := unhide Hgu; have := unhide Hgs; omega) (by omega) ((unhide HT).k (unhide HKK21))) ?_
  rintro e w22 ⟨rfl, s22, k22⟩
  have HU22 := hide s22
  have HY22 := hide (((unhide HY21).mono (M := [gu]) (by simp)).trans k22 (by simp))
  have HKK22 := hide ((unhide HKK21).trans k22 (by have := unhide Hgu; simp; omega))
  clear s22 k22
  have hsz22 := (unhide HY22).size
  go_wp2_with fail
  refine Calls.mono (ltwin_any _ a w22 ((unhide HA).old (unhide HKK22) (by simp))) ?_
  rintro e w23 ⟨rfl, k23, k23h⟩
  have HP23 := hide (rd_fresh k23h (unhide HA).byte (by omega))
  have HKK23 := hide ((unhide HKK22).trans k23 (by simp))
  have HY23 := hide ((unhide HY22).trans k23 (by simp))
  have HU23 := hide ((unhide HU22).kept k23 (by simp))
  clear k23 k23h
  go_wp2_with fail
  refine Calls.mono (write_any gs AB _ a w23 ((unhide HS14).kept (unhide HY23) (by have := unhide Hgu; simp; omega)) (unhide HP23) (by intro _; simp [blk]; have := unhide Hsz; have := unhide Hg10; omega) (unhide Hgs).2 (by omega) ((unhide HT).k (unhide HKK23))) ?_
  rintro e w24 ⟨rfl, s24, k24⟩
  have HS24 := hide s24
  have HU24 := hide ((unhide HU23).kept k24 (by have := unhide Hgu; simp; omega))
  have HY24 := hide (((unhide HY23).mono (M := [gu, gs]) (by simp)).trans k24 (by simp))
  have HKK24 := hide ((unhide HKK23).trans k24 (by have := unhide Hgs; simp; omega))
  have HC24 := hide ((unhide HC14).kept (unhide HY24) (by have := unhide Hgu; have := unhide Hgt; simp; omega))
  have HOab24 := hide ((unhide HY24).owns (unhide HOab) (unhide HNab _ (by have := unhide Hg10; simp; omega)))
  have HOac24 := hide ((unhide HY24).owns (unhide HOac) (unhide HNac _ (by have := unhide Hg10; simp; omega)))
  have Hsz24 := hide (by have := (unhide HY24).size; have := unhide Hsz; omega : w10.heap.size ≤ w24.heap.size ∧ w12.heap.size ≤ w24.heap.size)
  clear s24 k24
  go_wp2_with fail
  refine Calls.mono (ssum_any gu (AB ++ c) w24 (unhide HU24) (by simp; omega) ((unhide HT).k (unhide HKK24))) ?_
  rintro e w25 ⟨rfl, k25⟩
  have HKK25 := hide ((unhide HKK24).trans k25 (by simp))
  have HS25 := hide ((unhide HS24).kept k25 (by simp))
  have HC25 := hide ((unhide HC24).kept k25 (by simp))
  have HOab25 := hide (k25.owns (unhide HOab24) (by simp))
  have HOac25 := hide (k25.owns (unhide HOac24) (by simp))
  have Hsz25 := hide (by have := k25.size; have := unhide Hsz24; omega : w10.heap.size ≤ w25.heap.size)
  clear k25
  go_wp2_with (at_builtin; go_must (refine wpList_appendKeep rfl _ _ rfl rfl _ w10.heap.size (.slice x1 AB.length y1) AB c _ c.length _ (by exact unhide HOab25) (unhide HABb) (by exact (unhide HC).old (unhide HKK25) (by simp)) (by omega) (unhide Hsz25) rfl rfl ?_; intro x3 y3 w26 HR26 HRab26 HG26))
  have HK26 := hide ((Kept.refl (Value.slice x1 AB.length y1).ownBlock.toList w25).grown (unhide HG26) (by intro k hk; left; simp [hk]))
  have HL26 := hide (fun k (hk : k ∈ (Value.slice x1 AB.length y1).ownBlock.toList) => unhide Hablt k (by simpa using hk))
  have HKK26 := hide ((unhide HKK25).grown (unhide HG26) (by intro k hk; right; have := (unhide Hablt k hk).1; have := (unhide HK10).size; omega))
  have HS26 := hide ((unhide HS25).kept (unhide HK26) (fun hm => by have := (unhide HL26 _ hm).1; have := unhide Hg10; omega))
  have HC26 := hide ((unhide HC25).kept (unhide HK26) (fun hm => by have := (unhide HL26 _ hm).1; have := unhide Hg10; omega))
  have HOac26 := hide ((unhide HK26).owns (unhide HOac25) (fun k hk hm => by have := (unhide HL26 _ hm).2; have := (unhide Haclt k hk).1; omega))
  clear HG26
  refine Calls.mono (refsum_any _ (AB ++ c) w26 (unhide HR26)) ?_
  rintro e w27 ⟨rfl, k27⟩
  have hq3 := fun W => row_eq W (hash (AB ++ c)) (hash (AB ++ c)) (hash_len _) (hash_len _)
  simp only [decide_true] at hq3
  have HKK27 := hide ((unhide HKK26).trans k27 (by simp))
  have HS27 := hide ((unhide HS26).kept k27 (by simp))
  have HC27 := hide ((unhide HC26).kept k27 (by simp))
  have HRab27 := hide ((unhide HRab26).old k27 (by simp))
  have HOac27 := hide (k27.owns (unhide HOac26) (by simp))
  clear k27
  go_wp2_with fail
  refine Calls.mono (ssum_any gs (AB ++ a) w27 (unhide HS27) (by simp; omega) ((unhide HT).k (unhide HKK27))) ?_
  rintro e w28 ⟨rfl, k28⟩
  have HKK28 := hide ((unhide HKK27).trans k28 (by simp))
  have HC28 := hide ((unhide HC27).kept k28 (by simp))
  have HRab28 := hide ((unhide HRab27).old k28 (by simp))
  have HOac28 := hide (k28.owns (unhide HOac27) (by simp))
  clear k28
  go_wp2_with fail
  refine Calls.mono (ltwin_any _ AB w28 (unhide HRab28)) ?_
  rintro e w29 ⟨rfl, k29, k29h⟩
  have HO29 := hide (own_fresh k29h (by omega))
  have HK29 := hide k29
  have HKK29 := hide ((unhide HKK28).trans k29 (by simp))
  clear k29 k29h
  go_wp2_with (at_builtin; go_must (refine wpList_appendAllG rfl _ _ rfl rfl _ w28.heap.size (.slice (some ⟨w28.heap.size, 0, none⟩) AB.length AB.length) AB a _ a.length _ (by exact unhide HO29) (by exact (unhide HA).old (unhide HKK29) (by simp)) (by omega) (unhide HK29).size rfl rfl ?_; intro x4 y4 w30 HO30 HG30 HA30))
  have HK30 := hide ((unhide HK29).grown (unhide HG30) (by intro j hj; right; cases hj; exact Nat.le_refl _))
  have HKK30 := hide ((unhide HKK28).trans (unhide HK30) (by simp))
  have HABab := hide (fun x hx => by rcases List.mem_append.1 hx with h | h; exact unhide HABb x h; exact (unhide HA).byte x h : ∀ x ∈ AB ++ a, x < 256)
  have HR30 := hide (rd_owns (bs := AB ++ a) (unhide HO30) (unhide HABab) (by simp; omega))
  have HC30 := hide ((unhide HC28).kept (unhide HK30) (by simp))
  have HOac30 := hide ((unhide HK30).owns (unhide HOac28) (by simp))
  clear HG30 HA30 HO30
  refine Calls.mono (refsum_any _ (AB ++ a) w30 (unhide HR30)) ?_
  rintro e w31 ⟨rfl, k31⟩
  have hq4 := fun W => row_eq W (hash (AB ++ a)) (hash (AB ++ a)) (hash_len _) (hash_len _)
  simp only [decide_true] at hq4
  have HKK31 := hide ((unhide HKK30).trans k31 (by simp))
  have HC31 := hide ((unhide HC30).kept k31 (by simp))
  have HOac31 := hide (k31.owns (unhide HOac30) (by simp))
  clear k31
  go_wp2_with fail
  refine Calls.mono (ssum_any gt AC w31 (unhide HC31) (by omega) ((unhide HT).k (unhide HKK31))) ?_
  rintro e w32 ⟨rfl, k32⟩
  have HKK32 := hide ((unhide HKK31).trans k32 (by simp))
  have HOac32 := hide (k32.owns (unhide HOac31) (by simp))
  clear k32
  go_wp2_with fail
  refine Calls.mono (refsum_any _ AC w32 (rd_owns (unhide HOac32) (unhide HACb) (by omega))) ?_
  rintro e w33 ⟨rfl, k33⟩
  have HKK33 := hide ((unhide HKK32).trans k33 (by simp))
  clear k33
  go_wp2
  go_ret
  exact ⟨rfl, (unhide HKK33).below (Nat.le_refl _) (by simp)⟩
end Go.Proofs.YtnimfbbhhdgepaaDoor
