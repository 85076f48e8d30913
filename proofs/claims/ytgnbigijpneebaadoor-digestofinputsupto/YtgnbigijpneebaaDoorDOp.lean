import Derived.Test.YtgnbigijpneebaaDoorDRootR
import Derived.Test.YtgnbigijpneebaaDoorDBuckR
namespace Go.Proofs.YtgnbigijpneebaaDoor
open Go.RowKit Go.BigFrame
set_option linter.unusedVariables false
set_option linter.unusedSimpArgs false

/-- An Op: its kind, width, bytes, two digests, pairs, bitmap, digests, root. -/
structure OpD where
  kd : Int
  z : Int
  p : List Nat
  l : List Nat
  r : List Nat
  ps : List (List Nat × List Nat)
  x : Nat
  ds : List (List Nat)
  s : Nat
  lg : List Nat
  mp : List Nat
def opC (o : OpD) (pv kv dv : Value) : List Value := [.int .i64 o.kd, .int .i64 o.z, pv] ++ (o.l.map u8 ++ (o.r.map u8 ++ ([kv, .int .u16 (o.x : Int), dv] ++ (rootC o.s o.lg o.mp ++ []))))
structure OkD (w : World) (o : OpD) (pv kv dv : Value) : Prop where
  kd : -9223372036854775808 ≤ o.kd ∧ o.kd ≤ 9223372036854775807
  z : -9223372036854775808 ≤ o.z ∧ o.z ≤ 9223372036854775807
  p : Rd w pv o.p
  pl : o.p.length ≤ 1000000000000
  l : o.l.length = 32 ∧ ∀ x ∈ o.l, x < 256
  r : o.r.length = 32 ∧ ∀ x ∈ o.r, x < 256
  ps : RdK w kv o.ps
  psl : (pairB o.ps).length ≤ 1000000000000
  x : o.x < 65536
  ds : RdD w dv o.ds
  s : o.s < 18446744073709551616
  lg : o.lg.length = 32 ∧ ∀ x ∈ o.lg, x < 256
  mp : o.mp.length = 32 ∧ ∀ x ∈ o.mp, x < 256
theorem OkD.old {w w' : World} {o : OpD} {pv kv dv : Value} (h : OkD w o pv kv dv) (k : Kept [] w w') : OkD w' o pv kv dv :=
  ⟨h.kd, h.z, h.p.old k (by simp), h.pl, h.l, h.r, h.ps.old k, h.psl, h.x, h.ds.old k, h.s, h.lg, h.mp⟩
theorem row_mid {w : World} {g n : Nat} {t : TypeId} {fr : Nat × Nat} (a b c : List Value) (h : w.heap[g]? = some (.cells (a ++ (b ++ c)).toArray t fr)) (hn : a.length = n) : w.rangeAt g n b := by
  subst hn
  intro j v hv
  have hj := (List.getElem?_eq_some_iff.1 hv).1
  rw [cell_of_row w g _ _ t fr h, List.getElem?_toArray, List.getElem?_append_right (by omega), Nat.add_sub_cancel_left, List.getElem?_append_left hj, hv]
theorem op_cells {w : World} {g : Nat} {t : TypeId} {fr : Nat × Nat} {o : OpD} {pv kv dv : Value} (h : w.heap[g]? = some (.cells (opC o pv kv dv).toArray t fr)) (hl : o.l.length = 32) (hr : o.r.length = 32) :
    (w.cell? ⟨g, 0, none⟩ = some (.int .i64 o.kd) ∧ w.cell? ⟨g, 1, none⟩ = some (.int .i64 o.z) ∧ w.cell? ⟨g, 2, none⟩ = some pv) ∧ w.rangeAt g 3 (o.l.map u8) ∧ w.rangeAt g 35 (o.r.map u8) ∧
    (w.cell? ⟨g, 67, none⟩ = some kv ∧ w.cell? ⟨g, 68, none⟩ = some (.int .u16 (o.x : Int)) ∧ w.cell? ⟨g, 69, none⟩ = some dv) ∧ w.rangeAt g 70 (rootC o.s o.lg o.mp) := by
  unfold opC at h
  have h3 := row_mid (n := 3) _ _ _ h rfl
  have h35 := row_mid (n := 35) ([.int .i64 o.kd, .int .i64 o.z, pv] ++ o.l.map u8) _ _ (by simpa using h) (by simp [hl])
  have h67 := row_mid (n := 67) ([.int .i64 o.kd, .int .i64 o.z, pv] ++ o.l.map u8 ++ o.r.map u8) [kv, .int .u16 (o.x : Int), dv] _ (by simpa using h) (by simp [hl, hr])
  have h70 := row_mid (n := 70) ([.int .i64 o.kd, .int .i64 o.z, pv] ++ o.l.map u8 ++ o.r.map u8 ++ [kv, .int .u16 (o.x : Int), dv]) (rootC o.s o.lg o.mp) [] (by simpa using h) (by simp [hl, hr])
  have c : ∀ j v, ([.int .i64 o.kd, .int .i64 o.z, pv] : List Value)[j]? = some v → w.cell? ⟨g, j, none⟩ = some v := by
    intro j v hv
    rw [cell_of_row w g _ _ t fr h, List.getElem?_toArray, List.getElem?_append_left (List.getElem?_eq_some_iff.1 hv).1, hv]
  exact ⟨⟨c 0 _ rfl, c 1 _ rfl, c 2 _ rfl⟩, h3, h35, ⟨h67 0 _ rfl, h67 1 _ rfl, h67 2 _ rfl⟩, h70⟩
def inE (o : OpD) : Nat := if o.kd = 2 then formedE o.z [o.l, o.r] else if o.kd = 5 then branchE o.z o.x o.ds else if o.kd = 1 ∨ o.kd = 3 ∨ o.kd = 4 then 0 else formedE o.z [o.lg, o.mp]
def inB (o : OpD) : List Nat := if o.kd = 1 then 0 :: o.p else if o.kd = 2 then nodeB o.z o.l o.r else if o.kd = 3 then 2 :: o.p else if o.kd = 4 then buckB o.ps else if o.kd = 5 then branchB o.z o.x o.ds else rootB o.z o.s o.lg o.mp

set_option maxRecDepth 100000 in
set_option maxHeartbeats 2000000 in
theorem input_any (o : OpD) (pv kv dv : Value) (w : World) (h : OkD w o pv kv dv) (hk : 1 ≤ o.kd ∧ o.kd ≤ 6) :
    Calls Tryd.prog 11 #[.agg (opC o pv kv dv).toArray] w fun e w' => ∃ v, e = .returned (.tuple #[v, .int .i64 (inE o)]) ∧ NewB w w' v (if inE o = 0 then inB o else []) ∧ Kept [] w w' := by
  have H := hide h
  have HG := hide (heap_alloc_new w (.cells (opC o pv kv dv).toArray 34))
  obtain ⟨⟨c0, c1, c2⟩, r3, r35, ⟨c67, c68, c69⟩, r70⟩ := op_cells (unhide HG) h.l.1 h.r.1
  have HK0 := hide ((Kept.refl [] w).alloc (.cells (opC o pv kv dv).toArray 34))
  have HH := hide (h.old (unhide HK0))
  have R3 := hide r3
  have R35 := hide r35
  have R70 := hide r70
  clear r3 r35 r70 h
  have SD := hide Tryd.size_dig
  have HSL := hide (by rw [List.length_map, (unhide H).l.1]; exact Tryd.size_dig : (Tryd.prog.info? 26).map (·.size) = some (o.l.map u8).length)
  have HSR := hide (by rw [List.length_map, (unhide H).r.1]; exact Tryd.size_dig : (Tryd.prog.info? 26).map (·.size) = some (o.r.map u8).length)
  have HSO := hide (by rw [show (rootC o.s o.lg o.mp).length = 65 by simp [rootC, (unhide H).lg.1, (unhide H).mp.1]]; kernel_rfl : (Tryd.prog.info? 32).map (·.size) = some (rootC o.s o.lg o.mp).length)
  have HZ := hide (unhide H).z
  obtain ⟨E, hE⟩ : ∃ E, inE o = E := ⟨_, rfl⟩
  have HE := hide hE
  rw [hE]
  clear hE
  obtain ⟨B, hB⟩ : ∃ B, (if E = 0 then inB o else []) = B := ⟨_, rfl⟩
  have HB := hide hB
  rw [hB]
  clear hB
  go_enter Tryd.func11, Tryd.ntmps11
  clear HG
  rcases (by omega : o.kd = 1 ∨ o.kd = 2 ∨ o.kd = 3 ∨ o.kd = 4 ∨ o.kd = 5 ∨ o.kd = 6) with hkd | hkd | hkd | hkd | hkd | hkd
  · rw [hkd] at c0
    have HE2 := hide (by rw [← unhide HE]; simp [inE, hkd] : E = 0)
    have HB2 := hide (by rw [← unhide HB, unhide HE2]; simp [inB, hkd] : B = 0 :: o.p)
    clear hkd hk
    go_wp2_with fail
    refine Calls.mono (leafInput_any _ o.p _ (unhide HH).p (by have := (unhide H).pl; omega)) ?_
    rintro e w1 ⟨v1, rfl, n1, k1⟩
    have HN1 := hide (n1.weak (unhide HK0).size)
    have HK1 := hide ((unhide HK0).trans k1 (by simp))
    clear n1 k1
    go_wp2
    go_ret2
    exact ⟨_, by rw [unhide HE2]; rfl, by rw [unhide HB2]; exact unhide HN1, unhide HK1⟩
  · rw [hkd] at c0
    have HE2 := hide (by rw [← unhide HE]; simp [inE, hkd] : E = formedE o.z [o.l, o.r])
    have HB2 := hide (by rw [← unhide HB]; simp [inB, hkd] : B = if E = 0 then nodeB o.z o.l o.r else [])
    clear hkd hk
    go_wp2_with (first
      | (refine wpList_load_mid rfl 26 _ rfl w.heap.size 3 rfl (o.l.map u8) _ (unhide R3) Tryd.underlying26 rfl (unhide HSL) ?_)
      | (refine wpList_load_mid rfl 26 _ rfl w.heap.size 35 rfl (o.r.map u8) _ (unhide R35) Tryd.underlying26 rfl (unhide HSR) ?_))
    refine Calls.mono (nodeInput_any o.z o.l o.r _ (unhide HZ) (unhide H).l.1 (unhide H).r.1 (unhide H).l.2 (unhide H).r.2) ?_
    rintro e w1 ⟨v1, rfl, n1, k1⟩
    rw [← unhide HE2] at n1 ⊢
    rw [← unhide HB2] at n1
    have HN1 := hide (n1.weak (unhide HK0).size)
    have HK1 := hide ((unhide HK0).trans k1 (by simp))
    clear n1 k1
    go_wp2
    go_ret2
    exact ⟨_, rfl, unhide HN1, unhide HK1⟩
  · rw [hkd] at c0
    have HE2 := hide (by rw [← unhide HE]; simp [inE, hkd] : E = 0)
    have HB2 := hide (by rw [← unhide HB, unhide HE2]; simp [inB, hkd] : B = 2 :: o.p)
    clear hkd hk
    go_wp2_with fail
    refine Calls.mono (keyInput_any _ o.p _ (unhide HH).p (by have := (unhide H).pl; omega)) ?_
    rintro e w1 ⟨v1, rfl, n1, k1⟩
    have HN1 := hide (n1.weak (unhide HK0).size)
    have HK1 := hide ((unhide HK0).trans k1 (by simp))
    clear n1 k1
    go_wp2
    go_ret2
    exact ⟨_, by rw [unhide HE2]; rfl, by rw [unhide HB2]; exact unhide HN1, unhide HK1⟩
  · rw [hkd] at c0
    have HE2 := hide (by rw [← unhide HE]; simp [inE, hkd] : E = 0)
    have HB2 := hide (by rw [← unhide HB, unhide HE2]; simp [inB, hkd] : B = buckB o.ps)
    clear hkd hk
    go_wp2_with fail
    refine Calls.mono (bucketInput_any _ o.ps _ (unhide HH).ps (unhide H).psl) ?_
    rintro e w1 ⟨v1, rfl, n1, k1⟩
    have HN1 := hide (n1.weak (unhide HK0).size)
    have HK1 := hide ((unhide HK0).trans k1 (by simp))
    clear n1 k1
    go_wp2
    go_ret2
    exact ⟨_, by rw [unhide HE2]; rfl, by rw [unhide HB2]; exact unhide HN1, unhide HK1⟩
  · rw [hkd] at c0
    have HE2 := hide (by rw [← unhide HE]; simp [inE, hkd] : E = branchE o.z o.x o.ds)
    have HB2 := hide (by rw [← unhide HB]; simp [inB, hkd] : B = if E = 0 then branchB o.z o.x o.ds else [])
    clear hkd hk
    go_wp2_with fail
    refine Calls.mono (branchInput_any o.z o.x _ o.ds _ (unhide HZ) (unhide H).x (unhide HH).ds) ?_
    rintro e w1 ⟨v1, rfl, n1, k1⟩
    rw [← unhide HE2] at n1 ⊢
    rw [← unhide HB2] at n1
    have HN1 := hide (n1.weak (unhide HK0).size)
    have HK1 := hide ((unhide HK0).trans k1 (by simp))
    clear n1 k1
    go_wp2
    go_ret2
    exact ⟨_, rfl, unhide HN1, unhide HK1⟩
  · rw [hkd] at c0
    have HE2 := hide (by rw [← unhide HE]; simp [inE, hkd] : E = formedE o.z [o.lg, o.mp])
    have HB2 := hide (by rw [← unhide HB]; simp [inB, hkd] : B = if E = 0 then rootB o.z o.s o.lg o.mp else [])
    clear hkd hk
    go_wp2_with (refine wpList_load_mid rfl 32 _ rfl w.heap.size 70 rfl (rootC o.s o.lg o.mp) _ (unhide R70) Tryd.underlying32 rfl (unhide HSO) ?_)
    refine Calls.mono (rootInput_any o.z o.s o.lg o.mp _ (unhide HZ) (unhide H).s (unhide H).lg.1 (unhide H).mp.1 (unhide H).lg.2 (unhide H).mp.2) ?_
    rintro e w1 ⟨v1, rfl, n1, k1⟩
    rw [← unhide HE2] at n1 ⊢
    rw [← unhide HB2] at n1
    have HN1 := hide (n1.weak (unhide HK0).size)
    have HK1 := hide ((unhide HK0).trans k1 (by simp))
    clear n1 k1
    go_wp2
    go_ret2
    exact ⟨_, rfl, unhide HN1, unhide HK1⟩
end Go.Proofs.YtgnbigijpneebaaDoor
