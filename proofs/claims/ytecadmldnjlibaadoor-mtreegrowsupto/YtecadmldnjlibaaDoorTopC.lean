import Derived.Test.YtecadmldnjlibaaDoorRowz
import Derived.Deep.RegionHeld3
import Derived.Test.YtecadmldnjlibaaDoorTopB
import Derived.Test.YtecadmldnjlibaaDoorTopA
/-
  Laws for drawn regions, by genreg.py. No program.
-/
namespace Go.Proofs.YtecadmldnjlibaaDoor
open Go Go.RowKit Go.BigFrame
set_option linter.unusedVariables false
set_option linter.unusedSimpArgs false
section
variable {P : Program} {Q : Exit → Act → World → Prop}
theorem wp_lo13 {id : Nat} {o0 o1 o2 o3 o4 o5 o6 o7 o8 o9 o10 o11 o12 : Oper} {a : Act} {w : World} (hm : P.follows .mixedOrders = true) (hs : Region.noSelect #[o0, o1, o2, o3, o4, o5, o6, o7, o8, o9, o10, o11, o12] = true)
    (f0 : Region.free .any #[o0, o1, o2, o3, o4, o5, o6, o7, o8, o9, o10, o11, o12] #[false, false, false, false, false, false, false, false, false, false, false, false, false] 0 = true) (r0 : (Region.ready .any #[o0, o1, o2, o3, o4, o5, o6, o7, o8, o9, o10, o11, o12] #[false, false, false, false, false, false, false, false, false, false, false, false, false]).contains 0 = true)
    (f1 : Region.free .any #[o0, o1, o2, o3, o4, o5, o6, o7, o8, o9, o10, o11, o12] #[true, false, false, false, false, false, false, false, false, false, false, false, false] 1 = true) (r1 : (Region.ready .any #[o0, o1, o2, o3, o4, o5, o6, o7, o8, o9, o10, o11, o12] #[true, false, false, false, false, false, false, false, false, false, false, false, false]).contains 1 = true)
    (f2 : Region.free .any #[o0, o1, o2, o3, o4, o5, o6, o7, o8, o9, o10, o11, o12] #[true, true, false, false, false, false, false, false, false, false, false, false, false] 2 = true) (r2 : (Region.ready .any #[o0, o1, o2, o3, o4, o5, o6, o7, o8, o9, o10, o11, o12] #[true, true, false, false, false, false, false, false, false, false, false, false, false]).contains 2 = true)
    (f3 : Region.free .any #[o0, o1, o2, o3, o4, o5, o6, o7, o8, o9, o10, o11, o12] #[true, true, true, false, false, false, false, false, false, false, false, false, false] 3 = true) (r3 : (Region.ready .any #[o0, o1, o2, o3, o4, o5, o6, o7, o8, o9, o10, o11, o12] #[true, true, true, false, false, false, false, false, false, false, false, false, false]).contains 3 = true)
    (f4 : Region.free .any #[o0, o1, o2, o3, o4, o5, o6, o7, o8, o9, o10, o11, o12] #[true, true, true, true, false, false, false, false, false, false, false, false, false] 4 = true) (r4 : (Region.ready .any #[o0, o1, o2, o3, o4, o5, o6, o7, o8, o9, o10, o11, o12] #[true, true, true, true, false, false, false, false, false, false, false, false, false]).contains 4 = true)
    (f6 : Region.free .any #[o0, o1, o2, o3, o4, o5, o6, o7, o8, o9, o10, o11, o12] #[true, true, true, true, true, false, false, false, false, false, false, false, false] 6 = true) (r6 : (Region.ready .any #[o0, o1, o2, o3, o4, o5, o6, o7, o8, o9, o10, o11, o12] #[true, true, true, true, true, false, false, false, false, false, false, false, false]).contains 6 = true)
    (f7 : Region.free .any #[o0, o1, o2, o3, o4, o5, o6, o7, o8, o9, o10, o11, o12] #[true, true, true, true, true, false, true, false, false, false, false, false, false] 7 = true) (r7 : (Region.ready .any #[o0, o1, o2, o3, o4, o5, o6, o7, o8, o9, o10, o11, o12] #[true, true, true, true, true, false, true, false, false, false, false, false, false]).contains 7 = true)
    (f8 : Region.free .any #[o0, o1, o2, o3, o4, o5, o6, o7, o8, o9, o10, o11, o12] #[true, true, true, true, true, false, true, true, false, false, false, false, false] 8 = true) (r8 : (Region.ready .any #[o0, o1, o2, o3, o4, o5, o6, o7, o8, o9, o10, o11, o12] #[true, true, true, true, true, false, true, true, false, false, false, false, false]).contains 8 = true)
    (f9 : Region.free .any #[o0, o1, o2, o3, o4, o5, o6, o7, o8, o9, o10, o11, o12] #[true, true, true, true, true, false, true, true, true, false, false, false, false] 9 = true) (r9 : (Region.ready .any #[o0, o1, o2, o3, o4, o5, o6, o7, o8, o9, o10, o11, o12] #[true, true, true, true, true, false, true, true, true, false, false, false, false]).contains 9 = true)
    (q_ : Region.ready .any #[o0, o1, o2, o3, o4, o5, o6, o7, o8, o9, o10, o11, o12] #[true, true, true, true, true, false, true, true, true, true, false, false, false] = [5])
    (q5_ : Region.ready .any #[o0, o1, o2, o3, o4, o5, o6, o7, o8, o9, o10, o11, o12] #[true, true, true, true, true, true, true, true, true, true, false, false, false] = [10])
    (q5_10_ : Region.ready .any #[o0, o1, o2, o3, o4, o5, o6, o7, o8, o9, o10, o11, o12] #[true, true, true, true, true, true, true, true, true, true, true, false, false] = [11])
    (q5_10_11_ : Region.ready .any #[o0, o1, o2, o3, o4, o5, o6, o7, o8, o9, o10, o11, o12] #[true, true, true, true, true, true, true, true, true, true, true, true, false] = [12])
    (q5_10_11_12_ : Region.ready .any #[o0, o1, o2, o3, o4, o5, o6, o7, o8, o9, o10, o11, o12] #[true, true, true, true, true, true, true, true, true, true, true, true, true] = [])
    (g5 : o5.guard = none)    (g10 : o10.guard = none)    (g11 : o11.guard = none)    (g12 : o12.guard = none)
    (v0 v1 v2 v3 v4 v6 v7 v8 v9 : Value) (A0 A1 A2 A3 A4 A5 A6 A7 A8 : Act)
    (S : World → Prop)
    (I_ : World → Prop)
    (I5_ : Value → World → Prop)
    (I5_10_ : Value → Value → World → Prop)
    (I5_10_11_ : Value → Value → Value → World → Prop)
    (I5_10_11_12_ : Value → Value → Value → Value → World → Prop)
    (p0 : a.put o0.dst v0 = A0) (hy0 : YieldsIf P #[o0, o1, o2, o3, o4, o5, o6, o7, o8, o9, o10, o11, o12] S o0 v0 a)
    (p1 : A0.put o1.dst v1 = A1) (hy1 : YieldsIf P #[o0, o1, o2, o3, o4, o5, o6, o7, o8, o9, o10, o11, o12] S o1 v1 A0)
    (p2 : A1.put o2.dst v2 = A2) (hy2 : YieldsIf P #[o0, o1, o2, o3, o4, o5, o6, o7, o8, o9, o10, o11, o12] S o2 v2 A1)
    (p3 : A2.put o3.dst v3 = A3) (hy3 : YieldsIf P #[o0, o1, o2, o3, o4, o5, o6, o7, o8, o9, o10, o11, o12] S o3 v3 A2)
    (p4 : A3.put o4.dst v4 = A4) (hy4 : YieldsIf P #[o0, o1, o2, o3, o4, o5, o6, o7, o8, o9, o10, o11, o12] S o4 v4 A3)
    (p6 : A4.put o6.dst v6 = A5) (hy6 : YieldsIf P #[o0, o1, o2, o3, o4, o5, o6, o7, o8, o9, o10, o11, o12] S o6 v6 A4)
    (p7 : A5.put o7.dst v7 = A6) (hy7 : YieldsIf P #[o0, o1, o2, o3, o4, o5, o6, o7, o8, o9, o10, o11, o12] S o7 v7 A5)
    (p8 : A6.put o8.dst v8 = A7) (hy8 : YieldsIf P #[o0, o1, o2, o3, o4, o5, o6, o7, o8, o9, o10, o11, o12] S o8 v8 A6)
    (p9 : A7.put o9.dst v9 = A8) (hy9 : YieldsIf P #[o0, o1, o2, o3, o4, o5, o6, o7, o8, o9, o10, o11, o12] S o9 v9 A7)
    (i0 : I_ w.drew)
    (hIS : (∀ w', I_  w' → S w') ∧ (∀ (u5 : Value) w', I5_ u5 w' → S w') ∧ (∀ (u5 u10 : Value) w', I5_10_ u5 u10 w' → S w') ∧ (∀ (u5 u10 u11 : Value) w', I5_10_11_ u5 u10 u11 w' → S w') ∧ (∀ (u5 u10 u11 u12 : Value) w', I5_10_11_12_ u5 u10 u11 u12 w' → S w'))
    (s_5 : ∀ w', I_  w' → ∀ K : Act → World → Prop, (∀ (u5 : Value) w2, I5_ u5 w2 → K (A8.put o5.dst u5) w2) → o5.wp P A8 w' K (NoPanic Q))
    (s5_10 : ∀ (u5 : Value) w', I5_ u5 w' → ∀ K : Act → World → Prop, (∀ (u10 : Value) w2, I5_10_ u5 u10 w2 → K ((A8.put o5.dst u5).put o10.dst u10) w2) → o10.wp P (A8.put o5.dst u5) w' K (NoPanic Q))
    (s5_10_11 : ∀ (u5 u10 : Value) w', I5_10_ u5 u10 w' → ∀ K : Act → World → Prop, (∀ (u11 : Value) w2, I5_10_11_ u5 u10 u11 w2 → K (((A8.put o5.dst u5).put o10.dst u10).put o11.dst u11) w2) → o11.wp P ((A8.put o5.dst u5).put o10.dst u10) w' K (NoPanic Q))
    (s5_10_11_12 : ∀ (u5 u10 u11 : Value) w', I5_10_11_ u5 u10 u11 w' → ∀ K : Act → World → Prop, (∀ (u12 : Value) w2, I5_10_11_12_ u5 u10 u11 u12 w2 → K ((((A8.put o5.dst u5).put o10.dst u10).put o11.dst u11).put o12.dst u12) w2) → o12.wp P (((A8.put o5.dst u5).put o10.dst u10).put o11.dst u11) w' K (NoPanic Q))
    (h : ∀ (u5 u10 u11 u12 : Value) w', I5_10_11_12_ u5 u10 u11 u12 w' → Q .normal ((((A8.put o5.dst u5).put o10.dst u10).put o11.dst u11).put o12.dst u12) w') :
    (Code.region id #[o0, o1, o2, o3, o4, o5, o6, o7, o8, o9, o10, o11, o12] true).wp P Q a w := by
  subst p0 p1 p2 p3 p4 p6 p7 p8 p9
  obtain ⟨z_, z5_, z5_10_, z5_10_11_, z5_10_11_12_⟩ := hIS
  refine wp_region_noPanic ?_
  refine wp_region_held_drew (S := S) hm (z_ _ i0) (fun hH => ?_)
  show wpAnyH P .any #[o0, o1, o2, o3, o4, o5, o6, o7, o8, o9, o10, o11, o12] (NoPanic Q) S 13 #[false, false, false, false, false, false, false, false, false, false, false, false, false] a w.drew
  refine wpAnyH_take (i := 0) (oi := o0) rfl hs f0 r0 (fun _ _ _ h => h) hy0 hH ?_
  refine wpAnyH_take (i := 1) (oi := o1) rfl hs f1 r1 (fun _ _ _ h => h) hy1 hH ?_
  refine wpAnyH_take (i := 2) (oi := o2) rfl hs f2 r2 (fun _ _ _ h => h) hy2 hH ?_
  refine wpAnyH_take (i := 3) (oi := o3) rfl hs f3 r3 (fun _ _ _ h => h) hy3 hH ?_
  refine wpAnyH_take (i := 4) (oi := o4) rfl hs f4 r4 (fun _ _ _ h => h) hy4 hH ?_
  refine wpAnyH_take (i := 6) (oi := o6) rfl hs f6 r6 (fun _ _ _ h => h) hy6 hH ?_
  refine wpAnyH_take (i := 7) (oi := o7) rfl hs f7 r7 (fun _ _ _ h => h) hy7 hH ?_
  refine wpAnyH_take (i := 8) (oi := o8) rfl hs f8 r8 (fun _ _ _ h => h) hy8 hH ?_
  refine wpAnyH_take (i := 9) (oi := o9) rfl hs f9 r9 (fun _ _ _ h => h) hy9 hH ?_
  generalize (((((((((a.put o0.dst v0).put o1.dst v1).put o2.dst v2).put o3.dst v3).put o4.dst v4).put o6.dst v6).put o7.dst v7).put o8.dst v8).put o9.dst v9) = B at *
  have wa5 : ∀ y, Region.wanted o5 y = true := fun y => by unfold Region.wanted; rw [g5]
  have wa10 : ∀ y, Region.wanted o10 y = true := fun y => by unfold Region.wanted; rw [g10]
  have wa11 : ∀ y, Region.wanted o11 y = true := fun y => by unfold Region.wanted; rw [g11]
  have wa12 : ∀ y, Region.wanted o12 y = true := fun y => by unfold Region.wanted; rw [g12]
  have t5_10_11_12_ : ∀ (u5 u10 u11 u12 : Value) w', I5_10_11_12_ u5 u10 u11 u12 w' → wpAnyH P .any #[o0, o1, o2, o3, o4, o5, o6, o7, o8, o9, o10, o11, o12] (NoPanic Q) S 0 #[true, true, true, true, true, true, true, true, true, true, true, true, true] ((((B.put o5.dst u5).put o10.dst u10).put o11.dst u11).put o12.dst u12) w' := by
    intro u5 u10 u11 u12 w0 i0
    exact ⟨q5_10_11_12_, NoPanic.normal (h u5 u10 u11 u12 w0 i0)⟩
  have t5_10_11_ : ∀ (u5 u10 u11 : Value) w', I5_10_11_ u5 u10 u11 w' → wpAnyH P .any #[o0, o1, o2, o3, o4, o5, o6, o7, o8, o9, o10, o11, o12] (NoPanic Q) S 1 #[true, true, true, true, true, true, true, true, true, true, true, true, false] (((B.put o5.dst u5).put o10.dst u10).put o11.dst u11) w' := by
    intro u5 u10 u11 w0 i0
    refine wpAnyH_ready (rs := [12]) q5_10_11_ (by simp) (AllReadyH.cons (o := o12) rfl (fun K hK => ?_) AllReadyH.nil)
    · rw [if_pos (wa12 _)]
      refine s5_10_11_12 u5 u10 u11 w0 i0 K (fun u12 w1 i1 => hK.out _ _ (z5_10_11_12_ u5 u10 u11 u12 w1 i1) (fun _ => ?_))
      clear hK
      exact t5_10_11_12_ u5 u10 u11 u12 w1 i1
  have t5_10_ : ∀ (u5 u10 : Value) w', I5_10_ u5 u10 w' → wpAnyH P .any #[o0, o1, o2, o3, o4, o5, o6, o7, o8, o9, o10, o11, o12] (NoPanic Q) S 2 #[true, true, true, true, true, true, true, true, true, true, true, false, false] ((B.put o5.dst u5).put o10.dst u10) w' := by
    intro u5 u10 w0 i0
    refine wpAnyH_ready (rs := [11]) q5_10_ (by simp) (AllReadyH.cons (o := o11) rfl (fun K hK => ?_) AllReadyH.nil)
    · rw [if_pos (wa11 _)]
      refine s5_10_11 u5 u10 w0 i0 K (fun u11 w1 i1 => hK.out _ _ (z5_10_11_ u5 u10 u11 w1 i1) (fun _ => ?_))
      clear hK
      exact t5_10_11_ u5 u10 u11 w1 i1
  have t5_ : ∀ (u5 : Value) w', I5_ u5 w' → wpAnyH P .any #[o0, o1, o2, o3, o4, o5, o6, o7, o8, o9, o10, o11, o12] (NoPanic Q) S 3 #[true, true, true, true, true, true, true, true, true, true, false, false, false] (B.put o5.dst u5) w' := by
    intro u5 w0 i0
    refine wpAnyH_ready (rs := [10]) q5_ (by simp) (AllReadyH.cons (o := o10) rfl (fun K hK => ?_) AllReadyH.nil)
    · rw [if_pos (wa10 _)]
      refine s5_10 u5 w0 i0 K (fun u10 w1 i1 => hK.out _ _ (z5_10_ u5 u10 w1 i1) (fun _ => ?_))
      clear hK
      exact t5_10_ u5 u10 w1 i1
  have t_ : ∀ w', I_  w' → wpAnyH P .any #[o0, o1, o2, o3, o4, o5, o6, o7, o8, o9, o10, o11, o12] (NoPanic Q) S 4 #[true, true, true, true, true, false, true, true, true, true, false, false, false] B w' := by
    intro w0 i0
    refine wpAnyH_ready (rs := [5]) q_ (by simp) (AllReadyH.cons (o := o5) rfl (fun K hK => ?_) AllReadyH.nil)
    · rw [if_pos (wa5 _)]
      refine s_5  w0 i0 K (fun u5 w1 i1 => hK.out _ _ (z5_ u5 w1 i1) (fun _ => ?_))
      clear hK
      exact t5_ u5 w1 i1
  exact t_ w.drew i0

end
end Go.Proofs.YtecadmldnjlibaaDoor
namespace Go.Proofs.YtecadmldnjlibaaDoor
open Go.RowKit Go.BigFrame
set_option linter.unusedVariables false
set_option linter.unusedSimpArgs false

theorem RdD.fromT {w : World} {b off n c m c' off' : Nat} {ds : List (List Nat)} (h : RdD w (.slice (some ⟨b, off, none⟩) n c) ds) (hm : m ≤ n) (hc' : n - m ≤ c' ∧ c' ≤ 9223372036854775807) (ho : m < n → off' = off + m * 32) : RdD w (.slice (some ⟨b, off', none⟩) (n - m) c') (ds.drop m) := by
  obtain ⟨_, _, _, e, h1, h2, h3, h4, h5⟩ := h
  cases e
  refine ⟨_, n - m, c', rfl, by simp [h1], hc'.1, hc'.2, fun d hd => h4 d (List.mem_of_mem_drop hd), fun hp => ?_⟩
  obtain ⟨b', o', e, hc⟩ := h5 (by omega)
  cases e
  have ho2 := ho (by omega)
  subst ho2
  refine ⟨_, _, rfl, fun i hi => ?_⟩
  have h9 := hc (m + i) (by omega)
  rw [show off + (m + i) * 32 = off + m * 32 + i * 32 by omega] at h9
  rw [List.getD_eq_getElem?_getD, List.getElem?_drop, ← List.getD_eq_getElem?_getD]
  exact h9

set_option maxRecDepth 100000 in
set_option maxHeartbeats 400000 in
theorem below_any (k : Nat) (w : World) (h2 : 2 ≤ k) (hk : k < 4611686018427387904) :
    Calls Tryd.prog 39 #[.int .u64 k] w fun e w' => e = .returned (.int .u64 (belT k)) ∧ w' = w := by
  have hs : IntKind.u64.wrap ((k : Int) - 1) = ((k - 1 : Nat) : Int) := by rw [wrU]; omega
  have HB := hide (fun j (h : 2 ^ j ≤ k - 1) (h' : k - 1 < 2 ^ (j + 1)) => (by unfold belT; rw [(Nat.log2_eq_iff (by omega)).2 ⟨h, h'⟩] : belT k = 2 ^ j))
  obtain ⟨k1, hk1⟩ : ∃ k1, k - 1 = k1 := ⟨_, rfl⟩
  rw [hk1] at hs HB
  have h1 : 1 ≤ k1 := by omega
  have h3 : k1 < 4611686018427387904 := by omega
  obtain ⟨B, hBe⟩ : ∃ B, belT k = B := ⟨_, rfl⟩
  rw [hBe] at HB ⊢
  clear hBe hk1
  go_enter Tryd.func39, Tryd.ntmps39
  go_wp2_with fail
  go_loopw [3] (fun t3 wr => ∃ (m : Nat), t3 = .int .u64 (m : Int) ∧ 1 ≤ m ∧ m ≤ k1 ∧ Hid (∃ j, m = 2 ^ j) ∧ wr = w) (fun t _ => k1 - (intOf t).toNat)
  case atStart => exact ⟨1, rfl, by omega, by omega, hide ⟨0, rfl⟩, rfl⟩
  case round =>
    obtain ⟨m, rfl, hm1, hm2, HJ, rfl⟩ := hrel
    by_cases hle : 2 * m ≤ k1
    · have hle' : (m : Int) ≤ (k1 : Int) / 2 := by omega
      have hmul : IntKind.u64.wrap ((m : Int) * 2) = ((2 * m : Nat) : Int) := by rw [wrU]; omega
      have HJ2 := hide (by obtain ⟨j, hj⟩ := unhide HJ; exact ⟨j + 1, by rw [Nat.pow_succ]; omega⟩ : ∃ j, 2 * m = 2 ^ j)
      go_wp2_with (first | simp only [hs] | simp only [hmul])
      refine ⟨⟨2 * m, rfl, by omega, by omega, HJ2, by trivial⟩, ?_⟩
      simp [intOf]
      omega
    · have hle' : ¬ (m : Int) ≤ (k1 : Int) / 2 := by omega
      have HE := hide (by obtain ⟨j, hj⟩ := unhide HJ; rw [hj]; exact unhide HB j (by omega) (by rw [Nat.pow_succ]; omega) : B = m)
      go_wp2_with (simp only [hs])
      go_ret
      exact ⟨by rw [unhide HE]; rfl, rfl⟩

set_option maxRecDepth 100000 in
set_option maxHeartbeats 400000 in
theorem logR_nil (k : Nat) (hk : 1 ≤ k ∧ k ≤ 32) (v : Value) (w : World) (hv : RdD w v []) :
    Calls Tryd.prog 18 #[.int .i64 k, v] w fun e w' => e = .returned (.agg (brow (noT k))) ∧ Kept [] w w' := by
  obtain ⟨ao, len, cap, rfl, h1, h2, h3, h4, h5⟩ := hv
  simp at h1
  subst h1
  have HZ := hide (heap_alloc_new w (.cells (zb 32) 41))
  have HK := hide ((Kept.refl [] w).alloc (.cells (zb 32) 41))
  have e : noT (k : Int) = cutL k (hash []) := by unfold noT sumD; rw [if_pos (by simp [widthB]; omega), Int.toNat_natCast]
  have HNO := hide (refNoLog_any k (w.alloc (.cells (zb 32) 41)) (by omega))
  rw [← e] at HNO
  have hdl := (noT_dg (k : Int)).1
  generalize noT (k : Int) = D at HNO hdl ⊢
  clear h4 h5 e
  go_enter Tryd.func18, Tryd.ntmps18
  go_wp2_with fail
  rw [zb32]
  refine (unhide HNO).mono ?_
  rintro e w5 ⟨rfl, k5⟩
  have HZ5 := hide (k5.heap (unhide HZ) (by simp))
  have HK5 := hide (((unhide HK).trans k5 (by simp)).setRow (g := w.heap.size) (Or.inr (Nat.le_refl _)) (brow D))
  clear k5
  go_wp2_with (refine wpList_store_row rfl 41 _ _ rfl w.heap.size (brow D) rfl rfl _ (zb 32) (unhide HZ5) (by rw [brow_size, hdl]; exact Tryd.size_dig) (by rw [zb_size, brow_size, hdl]) (brow_one _) ?_)
  refine bodyPost_ret (v := .agg (brow D)) ?_ rfl ⟨rfl, unhide HK5⟩
  exact results_cell_row rfl _ _ w.heap.size _ (brow D) (0, 0) _ rfl (setRow_heap _ _ _ _ _ _ (unhide HZ5)) Tryd.underlying41 rfl (by rw [brow_size, hdl]; exact Tryd.size_dig)

set_option maxRecDepth 100000 in
set_option maxHeartbeats 400000 in
theorem logR_one (k : Nat) (v : Value) (d : List Nat) (w : World) (hv : RdD w v [d]) :
    Calls Tryd.prog 18 #[.int .i64 k, v] w fun e w' => e = .returned (.agg (brow d)) ∧ Kept [] w w' := by
  obtain ⟨ao, len, cap, rfl, h1, h2, h3, h4, h5⟩ := hv
  simp at h1
  subst h1
  obtain ⟨b, o, rfl, hcell⟩ := h5 (by omega)
  have hdl := (h4 d (by simp)).1
  have k0 := (Kept.refl [] w).alloc (.cells (zb 32) 41)
  have HRG := hide (fun j u hj => k0.cell (by have := hcell 0 (by omega) j u hj; simpa using this) (by simp) : (w.alloc (.cells (zb 32) 41)).rangeAt b o (d.map u8))
  have HZ := hide (heap_alloc_new w (.cells (zb 32) 41))
  have HK := hide (k0.setRow (g := w.heap.size) (Or.inr (Nat.le_refl _)) (brow d))
  clear h4 h5 hcell k0
  go_enter Tryd.func18, Tryd.ntmps18
  go_wp2_with (first
    | (rw [zb32]; refine wpList_load_mid rfl 41 (.tmp 15) rfl b o rfl (d.map Go.Proofs.YtecadmldnjlibaaDoor.u8) _ (unhide HRG) Tryd.underlying41 rfl (by rw [List.length_map, hdl]; exact Tryd.size_dig) ?_)
    | (refine wpList_store_row rfl 41 _ _ rfl w.heap.size (brow d) rfl rfl _ (zb 32) (unhide HZ) (by rw [brow_size, hdl]; exact Tryd.size_dig) (by rw [zb_size, brow_size, hdl]) (brow_one _) ?_))
  refine bodyPost_ret (v := .agg (brow d)) ?_ rfl ⟨rfl, unhide HK⟩
  exact results_cell_row rfl _ _ w.heap.size _ (brow d) (0, 0) _ rfl (setRow_heap _ _ _ _ _ _ (unhide HZ)) Tryd.underlying41 rfl (by rw [brow_size, hdl]; exact Tryd.size_dig)

set_option maxRecDepth 100000 in
set_option maxHeartbeats 1000000 in
theorem logR_any (k : Nat) (hk : 1 ≤ k ∧ k ≤ 32) : ∀ (f : Nat) (v : Value) (ls : List (List Nat)) (w : World), ls.length ≤ f → ls.length < 4611686018427387904 → RdD w v ls →
    Calls Tryd.prog 18 #[.int .i64 k, v] w fun e w' => e = .returned (.agg (brow (logT k (noT k) ls))) ∧ Kept [] w w' := by
  intro f
  induction f with
  | zero =>
    intro v ls w h1 _ hv
    have : ls = [] := List.eq_nil_of_length_eq_zero (by omega)
    subst this
    exact logR_nil k hk v w hv
  | succ f ih =>
    intro v ls w hf hl hv
    by_cases h0 : ls.length = 0
    · have : ls = [] := List.eq_nil_of_length_eq_zero h0
      subst this
      exact logR_nil k hk v w hv
    · by_cases h1 : ls.length = 1
      · obtain ⟨x, rfl⟩ : ∃ x, ls = [x] := by
          cases ls with
          | nil => simp at h1
          | cons x r => cases r with
            | nil => exact ⟨x, rfl⟩
            | cons y r => simp at h1
        exact logR_one k v x w hv
      · have hn2 : 2 ≤ ls.length := by omega
        have hbl := belT_lt hn2
        have HDg := hide (fun l => log_dg k (noT k) l (noT_dg k))
        have hdm : ∀ d ∈ ls, Dg d := fun d hd => hv.dg hd
        have HV := hide hv
        obtain ⟨ao, len, cap, rfl, e1, h2, h3, h4, h5⟩ := hv
        obtain ⟨b, o, rfl, _⟩ := h5 (by omega)
        have HCUT := hide (logT_cut (k : Int) (noT k) ls hn2)
        have HBE := hide (fun W => below_any ls.length W hn2 hl)
        have d1 := log_dg (k : Int) (noT k) (ls.take (belT ls.length)) (noT_dg k) (fun d hd => hdm d (List.mem_of_mem_take hd))
        have d2 := log_dg (k : Int) (noT k) (ls.drop (belT ls.length)) (noT_dg k) (fun d hd => hdm d (List.mem_of_mem_drop hd))
        have HR1 := hide (fun W (kk : Kept [] w W) => ih (.slice (some ⟨b, o, none⟩) (belT ls.length) cap) (ls.take (belT ls.length)) W (by rw [List.length_take]; omega) (by rw [List.length_take]; omega) ((RdD.upto (unhide HV) (belT ls.length) (by omega)).old kk))
        have HR2 := hide (fun W (kk : Kept [] w W) => ih (.slice (some ⟨b, o + belT ls.length * 32, none⟩) (ls.length - belT ls.length) (cap - belT ls.length)) (ls.drop (belT ls.length)) W (by rw [List.length_drop]; omega) (by rw [List.length_drop]; omega) ((by have h9 := RdD.fromT (m := belT ls.length) (off' := o + belT ls.length * 32) (c' := cap - belT ls.length) (unhide HV) (by omega) (by omega) (fun _ => rfl); rw [← e1] at h9; exact h9 : RdD w _ _).old kk))
        have HND := hide (fun W => refNode_any k _ _ W hk d1 d2)
        have hD := (nodS_dg (k : Int) (logT k (noT k) (ls.take (belT ls.length))) (logT k (noT k) (ls.drop (belT ls.length)))).1
        have HE := hide (unhide HCUT : logT (k : Int) (noT k) ls = nodS k (logT k (noT k) (ls.take (belT ls.length))) (logT k (noT k) (ls.drop (belT ls.length))))
        rw [unhide HE]
        generalize nodS (k : Int) (logT k (noT k) (ls.take (belT ls.length))) (logT k (noT k) (ls.drop (belT ls.length))) = D at HND hD ⊢
        generalize logT (k : Int) (noT k) (ls.take (belT ls.length)) = D1 at HR1 HND d1
        generalize logT (k : Int) (noT k) (ls.drop (belT ls.length)) = D2 at HR2 HND d2
        generalize belT ls.length = m at HR1 HR2 HBE hbl
        subst e1
        obtain ⟨n, hn⟩ : ∃ n, ls.length = n := ⟨_, rfl⟩
        rw [hn] at HR2 HBE hbl h2 hl hn2 h0 h1 ⊢
        have hwn : IntKind.u64.wrap (n : Int) = (n : Int) := by rw [wrU]; omega
        have k0 := (Kept.refl [] w).alloc (.cells (zb 32) 41)
        have HZ := hide (heap_alloc_new w (.cells (zb 32) 41))
        have HK := hide k0
        have hSZ := hide (by rw [brow_size, hD]; exact Tryd.size_dig : (Tryd.prog.info? 41).map (·.size) = some (brow D).size)
        have q0 : ¬ (n : Int) = 0 := by omega
        have q1 : ¬ (n : Int) = 1 := by omega
        have q2 : ¬ (m : Int) < 0 := by omega
        have q3 : ¬ (cap : Int) < m := by omega
        have q4 : ¬ (n : Int) < m := by omega
        have q5 : ¬ cap = m := by omega
        have q6 : ¬ (cap : Int) = m := by omega
        have q7 : ¬ m = cap := by omega
        clear h4 h5 HV HDg hdm HCUT HE ih k0 h0 h1 hf
        go_enter Tryd.func18, Tryd.ntmps18
        go_wp2_with (simp only [hwn])
        rw [zb32]
        refine (unhide HBE _).mono ?_
        rintro e w1 ⟨rfl, rfl⟩
        go_wp2_with fail
        obtain ⟨X, hX⟩ : ∃ X, w.alloc (.cells (zb 32) 41) = X := ⟨_, rfl⟩
        rw [hX] at HZ HK ⊢
        clear hX
        refine wp_lo13 (by kernel_rfl) (by kernel_rfl) (by kernel_rfl) (by kernel_rfl) (by kernel_rfl) (by kernel_rfl) (by kernel_rfl) (by kernel_rfl) (by kernel_rfl) (by kernel_rfl) (by kernel_rfl) (by kernel_rfl) (by kernel_rfl) (by kernel_rfl) (by kernel_rfl) (by kernel_rfl) (by kernel_rfl) (by kernel_rfl) (by kernel_rfl) (by kernel_rfl) (by kernel_rfl) (by kernel_rfl) (by kernel_rfl) (by kernel_rfl) (by kernel_rfl) rfl rfl rfl rfl
          (.int .i64 (k : Int)) (.int .i64 (k : Int)) (.slice (some ⟨b, o, none⟩) n cap) (.int .u64 (m : Int)) (.slice (some ⟨b, o, none⟩) m cap) (.int .i64 (k : Int)) (.slice (some ⟨b, o, none⟩) n cap) (.int .u64 (m : Int)) (.slice (some ⟨b, o + m * 32, none⟩) (n - m) (cap - m)) _ _ _ _ _ _ _ _ _
          (fun w' => Kept [w.heap.size] X w')
          (fun w' => Kept [] X w')
          (fun u w' => u = .agg (brow D1) ∧ Kept [] X w')
          (fun u y w' => u = .agg (brow D1) ∧ y = .agg (brow D2) ∧ Kept [] X w')
          (fun u y x w' => u = .agg (brow D1) ∧ y = .agg (brow D2) ∧ x = .agg (brow D) ∧ Kept [] X w')
          (fun u y x q w' => w'.heap[w.heap.size]? = some (.cells (brow D) 41 (0, 0)) ∧ Kept [w.heap.size] X w')
          (by simp only [Act.put, List.setIfInBounds_toArray, List.set_cons_zero, List.set_cons_succ]; rfl) (by exact Or.inl ⟨by rfl, fun W' hW' => by go_simp⟩)
          (by simp only [Act.put, List.setIfInBounds_toArray, List.set_cons_zero, List.set_cons_succ]; rfl) (by exact Or.inl ⟨by rfl, fun W' hW' => by go_simp⟩)
          (by simp only [Act.put, List.setIfInBounds_toArray, List.set_cons_zero, List.set_cons_succ]; rfl) (by exact Or.inl ⟨by rfl, fun W' hW' => by go_simp⟩)
          (by simp only [Act.put, List.setIfInBounds_toArray, List.set_cons_zero, List.set_cons_succ]; rfl) (by exact Or.inl ⟨by rfl, fun W' hW' => by go_simp⟩)
          (by simp only [Act.put, List.setIfInBounds_toArray, List.set_cons_zero, List.set_cons_succ]; rfl) (by exact Or.inl ⟨by rfl, fun W' hW' => by go_simp⟩)
          (by simp only [Act.put, List.setIfInBounds_toArray, List.set_cons_zero, List.set_cons_succ]; rfl) (by exact Or.inl ⟨by rfl, fun W' hW' => by go_simp⟩)
          (by simp only [Act.put, List.setIfInBounds_toArray, List.set_cons_zero, List.set_cons_succ]; rfl) (by exact Or.inl ⟨by rfl, fun W' hW' => by go_simp⟩)
          (by simp only [Act.put, List.setIfInBounds_toArray, List.set_cons_zero, List.set_cons_succ]; rfl) (by exact Or.inl ⟨by rfl, fun W' hW' => by go_simp⟩)
          (by simp only [Act.put, List.setIfInBounds_toArray, List.set_cons_zero, List.set_cons_succ]; rfl) (by exact Or.inl ⟨by rfl, fun W' hW' => by go_simp⟩)
          (Kept.refl [] X).drew
          ⟨fun w' h => h.mono (by simp), fun u w' h => h.2.mono (by simp), fun u y w' h => h.2.2.mono (by simp), fun u y x w' h => h.2.2.2.mono (by simp), fun u y x q w' h => h.2⟩
          (by intro w' i K hK; exact wp_callN rfl Tryd.call18 [.int .i64 (k : Int), .slice (some ⟨b, o, none⟩) m cap] rfl (unhide HR1 w' ((unhide HK).trans i (by simp))) (fun e w2 h => ⟨_, h.1, hK _ _ ⟨rfl, i.trans h.2 (by simp)⟩⟩))
          (by rintro u w' ⟨rfl, i⟩ K hK; exact wp_callN rfl Tryd.call18 [.int .i64 (k : Int), .slice (some ⟨b, o + m * 32, none⟩) (n - m) (cap - m)] rfl (unhide HR2 w' ((unhide HK).trans i (by simp))) (fun e w2 h => ⟨_, h.1, hK _ _ ⟨rfl, rfl, i.trans h.2 (by simp)⟩⟩))
          (by
            intro u y w' hh K hK
            simp only [Act.put, List.setIfInBounds_toArray, List.set_cons_zero, List.set_cons_succ] at hK ⊢
            obtain ⟨rfl, rfl, i⟩ := hh
            exact wp_callN rfl Tryd.call30 [.int .i64 (k : Int), .agg (brow D1), .agg (brow D2)] rfl (unhide HND w') (fun e w2 h => ⟨_, h.1, hK _ _ ⟨rfl, rfl, rfl, i.trans h.2 (by simp)⟩⟩))
          (by
            intro u y x w' hh K hK
            simp only [Act.put, List.setIfInBounds_toArray, List.set_cons_zero, List.set_cons_succ] at hK ⊢
            obtain ⟨rfl, rfl, rfl, i⟩ := hh
            exact wp_store_row 41 _ _ rfl w.heap.size (brow D) rfl rfl _ (zb 32) (i.heap (unhide HZ) (by simp)) (unhide hSZ) (by rw [zb_size, brow_size, hD]) (brow_one _) (hK undef _ ⟨setRow_heap _ _ _ _ _ _ (i.heap (unhide HZ) (by simp)), (i.mono (by simp)).setRow (Or.inl (by simp)) _⟩))
          ?_
        rintro u y x1 q Y ⟨hrow, kY⟩
        simp only [Act.put, List.setIfInBounds_toArray, List.set_cons_zero, List.set_cons_succ]
        have HRY := hide hrow
        have HKY := hide ((unhide HK).trans kY (by simp))
        clear hrow kY
        go_wp2_with fail
        refine bodyPost_ret (v := .agg (brow D)) ?_ rfl ⟨rfl, unhide HKY⟩
        exact results_cell_row rfl _ _ w.heap.size _ (brow D) (0, 0) _ rfl (unhide HRY) Tryd.underlying41 rfl (unhide hSZ)

set_option maxRecDepth 100000 in
set_option maxHeartbeats 400000 in
theorem docRange_bad (k : Nat) (v : Value) (ls : List (List Nat)) (lo hi : Nat) (w : World) (hv : RdD w v ls) (hbad : hi < lo ∨ ls.length < hi) (hl : ls.length < 4611686018427387904) :
    Calls Tryd.prog 33 #[.int .i64 k, v, .int .u64 lo, .int .u64 hi] w fun e w' => e = .returned (.tuple #[.agg (zb 32), .int .i64 4]) ∧ Kept [] w w' := by
  obtain ⟨ao, len, cap, rfl, rfl, h2, h3, h4, h5⟩ := hv
  have HZ := hide (heap_alloc_new w (.cells (zb 32) 41))
  have HK := hide (((Kept.refl [] w).alloc (.cells (zb 32) 41)).setRow (g := w.heap.size) (Or.inr (Nat.le_refl _)) (zb 32))
  have hwn : IntKind.u64.wrap (ls.length : Int) = (ls.length : Int) := by rw [wrU]; omega
  clear h4 h5
  by_cases h1 : hi < lo
  · have h1' : (hi : Int) < lo := by omega
    go_enter Tryd.func33, Tryd.ntmps33
    go_wp2_with (first | simp only [hwn] | (rw [zb32]; refine wpList_store_row rfl 41 _ _ rfl w.heap.size (zb 32) rfl rfl _ (zb 32) (unhide HZ) (by rw [zb_size]; exact Tryd.size_dig) rfl (brow_one _) ?_))
    refine bodyPost_ret (v := .tuple #[.agg (zb 32), .int .i64 4]) ?_ rfl ⟨rfl, unhide HK⟩
    exact results_cell_tmp rfl _ _ w.heap.size _ (zb 32) (0, 0) _ rfl (setRow_heap _ _ _ _ _ _ (unhide HZ)) Tryd.underlying41 rfl (by rw [zb_size]; exact Tryd.size_dig) _ rfl
  · have h1' : ¬ (hi : Int) < lo := by omega
    have h2' : (ls.length : Int) < hi := by omega
    go_enter Tryd.func33, Tryd.ntmps33
    go_wp2_with (first | simp only [hwn] | (rw [zb32]; refine wpList_store_row rfl 41 _ _ rfl w.heap.size (zb 32) rfl rfl _ (zb 32) (unhide HZ) (by rw [zb_size]; exact Tryd.size_dig) rfl (brow_one _) ?_))
    refine bodyPost_ret (v := .tuple #[.agg (zb 32), .int .i64 4]) ?_ rfl ⟨rfl, unhide HK⟩
    exact results_cell_tmp rfl _ _ w.heap.size _ (zb 32) (0, 0) _ rfl (setRow_heap _ _ _ _ _ _ (unhide HZ)) Tryd.underlying41 rfl (by rw [zb_size]; exact Tryd.size_dig) _ rfl

/-- A piece of a list of digests: where it begins counts only if it is not empty. -/
theorem RdD.piece {w : World} {ao : Option Addr} {n c lo hi c' : Nat} {ds : List (List Nat)} (h : RdD w (.slice ao n c) ds) (h1 : lo ≤ hi) (h2 : hi ≤ n) (hc' : hi - lo ≤ c' ∧ c' ≤ 9223372036854775807) (ao' : Option Addr) (ho : lo < hi → ∀ b off, ao = some ⟨b, off, none⟩ → ao' = some ⟨b, off + lo * 32, none⟩) : RdD w (.slice ao' (hi - lo) c') ((ds.drop lo).take (hi - lo)) := by
  obtain ⟨_, _, _, e, e1, e2, e3, h4, h5⟩ := h
  cases e
  refine ⟨_, hi - lo, c', rfl, by rw [List.length_take, List.length_drop]; omega, hc'.1, hc'.2, fun d hd => h4 d (List.mem_of_mem_drop (List.mem_of_mem_take hd)), fun hp => ?_⟩
  obtain ⟨b', o', e, hc⟩ := h5 (by omega)
  refine ⟨b', o' + lo * 32, ho (by omega) b' o' e, fun i hi => ?_⟩
  have h9 := hc (lo + i) (by omega)
  rw [show o' + (lo + i) * 32 = o' + lo * 32 + i * 32 by omega] at h9
  rw [List.getD_eq_getElem?_getD, List.getElem?_take_of_lt hi, List.getElem?_drop, ← List.getD_eq_getElem?_getD]
  exact h9

set_option maxRecDepth 100000 in
set_option maxHeartbeats 400000 in
theorem docRange_any (k : Nat) (hk : 1 ≤ k ∧ k ≤ 32) (v : Value) (ls : List (List Nat)) (lo hi : Nat) (w : World) (hv : RdD w v ls) (h1 : lo ≤ hi) (h2 : hi ≤ ls.length) (hl : ls.length < 4611686018427387904) :
    Calls Tryd.prog 33 #[.int .i64 k, v, .int .u64 lo, .int .u64 hi] w fun e w' => e = .returned (.tuple #[.agg (brow (rngD k (noT k) ls lo hi)), .int .i64 0]) ∧ Kept [] w w' := by
  have HV := hide hv
  have hdl := (log_dg (k : Int) (noT k) ((ls.drop lo).take (hi - lo)) (noT_dg k) (fun d hd => hv.dg (List.mem_of_mem_drop (List.mem_of_mem_take hd)))).1
  obtain ⟨ao, len, cap, rfl, rfl, e2, e3, h4, h5⟩ := hv
  have HZ := hide (heap_alloc_new w (.cells (zb 32) 41))
  have k0 := (Kept.refl [] w).alloc (.cells (zb 32) 41)
  have HK := hide k0
  have hwn : IntKind.u64.wrap (ls.length : Int) = (ls.length : Int) := by rw [wrU]; omega
  have q1 : ¬ (hi : Int) < lo := by omega
  have q2 : ¬ (ls.length : Int) < hi := by omega
  have q3 : ¬ (cap : Int) < hi := by omega
  have q4 : ¬ (lo : Int) < 0 := by omega
  have q5 : ¬ (hi : Int) < 0 := by omega
  have HLG := hide (fun (ao' : Option Addr) (ho : lo < hi → ∀ b off, ao = some ⟨b, off, none⟩ → ao' = some ⟨b, off + lo * 32, none⟩) => logR_any k hk (hi - lo) (.slice ao' (hi - lo) (cap - lo)) ((ls.drop lo).take (hi - lo)) (w.alloc (.cells (zb 32) 41)) (by rw [List.length_take]; omega) (by rw [List.length_take]; omega) ((RdD.piece (c' := cap - lo) (unhide HV) h1 h2 (by omega) ao' ho).old k0))
  have hlog : logT (k : Int) (noT k) ((ls.drop lo).take (hi - lo)) = rngD k (noT k) ls lo hi := rfl
  rw [hlog] at HLG hdl
  generalize rngD (k : Int) (noT k) ls lo hi = D at HLG hdl ⊢
  clear h4 h5 hlog HV k0
  generalize ls.length = n at *
  by_cases hcl : cap = lo
  · have HLG2 := hide (unhide HLG ao (fun h => by omega))
    rw [show cap - lo = 0 by omega] at HLG2
    have hcl' : (cap : Int) = lo := by omega
    go_enter Tryd.func33, Tryd.ntmps33
    go_wp2_with (simp only [hwn])
    rw [zb32]
    refine (unhide HLG2).mono ?_
    rintro e w5 ⟨rfl, k5⟩
    have HZ5 := hide (k5.heap (unhide HZ) (by simp))
    have HK5 := hide (((unhide HK).trans k5 (by simp)).setRow (g := w.heap.size) (Or.inr (Nat.le_refl _)) (brow D))
    clear k5
    go_wp2_with (refine wpList_store_row rfl 41 _ _ rfl w.heap.size (brow D) rfl rfl _ (zb 32) (unhide HZ5) (by rw [brow_size, hdl]; exact Tryd.size_dig) (by rw [zb_size, brow_size, hdl]) (brow_one _) ?_)
    refine bodyPost_ret (v := .tuple #[.agg (brow D), .int .i64 0]) ?_ rfl ⟨rfl, unhide HK5⟩
    exact results_cell_tmp rfl _ _ w.heap.size _ (brow D) (0, 0) _ rfl (setRow_heap _ _ _ _ _ _ (unhide HZ5)) Tryd.underlying41 rfl (by rw [brow_size, hdl]; exact Tryd.size_dig) _ rfl
  · have HLG2 := hide (unhide HLG (Option.map (fun x => x.add (lo * 32)) ao) (fun _ b off e => by rw [e]; simp [Addr.add_mid]))
    have hcl' : ¬ (cap : Int) = lo := by omega
    have hcl2 : ¬ lo = cap := by omega
    go_enter Tryd.func33, Tryd.ntmps33
    go_wp2_with (simp only [hwn])
    rw [zb32]
    refine (unhide HLG2).mono ?_
    rintro e w5 ⟨rfl, k5⟩
    have HZ5 := hide (k5.heap (unhide HZ) (by simp))
    have HK5 := hide (((unhide HK).trans k5 (by simp)).setRow (g := w.heap.size) (Or.inr (Nat.le_refl _)) (brow D))
    clear k5
    go_wp2_with (refine wpList_store_row rfl 41 _ _ rfl w.heap.size (brow D) rfl rfl _ (zb 32) (unhide HZ5) (by rw [brow_size, hdl]; exact Tryd.size_dig) (by rw [zb_size, brow_size, hdl]) (brow_one _) ?_)
    refine bodyPost_ret (v := .tuple #[.agg (brow D), .int .i64 0]) ?_ rfl ⟨rfl, unhide HK5⟩
    exact results_cell_tmp rfl _ _ w.heap.size _ (brow D) (0, 0) _ rfl (setRow_heap _ _ _ _ _ _ (unhide HZ5)) Tryd.underlying41 rfl (by rw [brow_size, hdl]; exact Tryd.size_dig) _ rfl

/-- What DocRange answers. -/
theorem docRange_all (k : Nat) (hk : 1 ≤ k ∧ k ≤ 32) (v : Value) (ls : List (List Nat)) (lo hi : Nat) (w : World) (hv : RdD w v ls) (hl : ls.length < 4611686018427387904) :
    Calls Tryd.prog 33 #[.int .i64 k, v, .int .u64 lo, .int .u64 hi] w fun e w' => e = .returned (.tuple #[.agg (brow (rgD k ls lo hi)), .int .i64 (rgE ls lo hi)]) ∧ Kept [] w w' := by
  unfold rgD rgE
  by_cases h : hi < lo ∨ ls.length < hi
  · rw [if_pos h, if_pos h]
    exact docRange_bad k v ls lo hi w hv h hl
  · rw [if_neg h, if_neg h]
    exact docRange_any k hk v ls lo hi w hv (by omega) (by omega) hl

set_option maxRecDepth 100000 in
set_option maxHeartbeats 400000 in
theorem docLeaf_all (v : Value) (ls : List (List Nat)) (i : Nat) (w : World) (hv : RdD w v ls) (hl : ls.length < 4611686018427387904) :
    Calls Tryd.prog 32 #[v, .int .u64 i] w fun e w' => e = .returned (.tuple #[.agg (brow (lfD ls i)), .int .i64 (lfE ls i)]) ∧ Kept [] w w' := by
  have HV := hide hv
  obtain ⟨ao, len, cap, rfl, rfl, e2, e3, h4, h5⟩ := hv
  have HZ := hide (heap_alloc_new w (.cells (zb 32) 41))
  have k0 := (Kept.refl [] w).alloc (.cells (zb 32) 41)
  have HK := hide k0
  have hwn : IntKind.u64.wrap (ls.length : Int) = (ls.length : Int) := by rw [wrU]; omega
  by_cases h : ls.length ≤ i
  · have e1 : lfD ls i = List.replicate 32 0 := if_pos h
    have e2 : lfE ls i = 4 := if_pos h
    rw [e1, e2]
    have h' : (ls.length : Int) ≤ i := by omega
    clear e1 e2 h h4 h5 k0
    show Calls Tryd.prog 32 #[.slice ao ls.length cap, .int .u64 i] w fun e w' => e = .returned (.tuple #[.agg (zb 32), .int .i64 4]) ∧ Kept [] w w'
    go_enter Tryd.func32, Tryd.ntmps32
    go_wp2_with (first | simp only [hwn] | (rw [zb32]; refine wpList_store_row rfl 41 _ _ rfl w.heap.size (zb 32) rfl rfl _ (zb 32) (unhide HZ) (by rw [zb_size]; exact Tryd.size_dig) rfl (brow_one _) ?_))
    refine bodyPost_ret (v := .tuple #[.agg (zb 32), .int .i64 4]) ?_ rfl ⟨rfl, (unhide HK).setRow (g := w.heap.size) (Or.inr (Nat.le_refl _)) (zb 32)⟩
    exact results_cell_tmp rfl _ _ w.heap.size _ (zb 32) (0, 0) _ rfl (setRow_heap _ _ _ _ _ _ (unhide HZ)) Tryd.underlying41 rfl (by rw [zb_size]; exact Tryd.size_dig) _ rfl
  · have e2 : lfE ls i = 0 := if_neg h
    have e1 : lfD ls i = ls.getD i [] := if_neg h
    rw [e1, e2]
    have h' : ¬ (ls.length : Int) ≤ i := by omega
    obtain ⟨b, o, rfl, hcell⟩ := h5 (by omega)
    have hdl := (h4 (ls.getD i []) (by rw [List.getD_eq_getElem?_getD, List.getElem?_eq_getElem (by omega)]; exact List.getElem_mem _)).1
    have HRG := hide (fun j u hj => k0.cell (hcell i (by omega) j u hj) (by simp) : (w.alloc (.cells (zb 32) 41)).rangeAt b (o + i * 32) ((ls.getD i []).map Go.Proofs.YtecadmldnjlibaaDoor.u8))
    generalize ls.getD i [] = d at HRG hdl ⊢
    clear e1 e2 h h4 h5 k0 hcell
    go_enter Tryd.func32, Tryd.ntmps32
    go_wp2_with (first
      | (simp only [hwn])
      | (rw [zb32]; refine wpList_load_mid rfl 41 _ rfl b (o + i * 32) rfl (d.map Go.Proofs.YtecadmldnjlibaaDoor.u8) _ (unhide HRG) Tryd.underlying41 rfl (by rw [List.length_map, hdl]; exact Tryd.size_dig) ?_)
      | (refine wpList_store_row rfl 41 _ _ rfl w.heap.size (brow d) rfl rfl _ (zb 32) (unhide HZ) (by rw [brow_size, hdl]; exact Tryd.size_dig) (by rw [zb_size, brow_size, hdl]) (brow_one _) ?_))
    refine bodyPost_ret (v := .tuple #[.agg (brow d), .int .i64 0]) ?_ rfl ⟨rfl, (unhide HK).setRow (g := w.heap.size) (Or.inr (Nat.le_refl _)) (brow d)⟩
    exact results_cell_tmp rfl _ _ w.heap.size _ (brow d) (0, 0) _ rfl (setRow_heap _ _ _ _ _ _ (unhide HZ)) Tryd.underlying41 rfl (by rw [brow_size, hdl]; exact Tryd.size_dig) _ rfl
end Go.Proofs.YtecadmldnjlibaaDoor
namespace Go.Proofs.YtecadmldnjlibaaDoor
open Go.RowKit Go.BigFrame
set_option linter.unusedVariables false
set_option linter.unusedSimpArgs false

set_option maxRecDepth 100000 in
set_option maxHeartbeats 4000000 in
theorem push_any (z : Int) (t N base : Nat) (v : Value) (ps : List Pk) (leaf : List Nat) (w : World) (hrow : w.heap[t]? = some (.cells #[.int .i64 z, .int .u64 (N : Int), v] 65 (0, 0))) (hown0 : w.ownsRow base 75 33 v ps.length (cellsK ps)) (hpk : PKs z w ps) (hNl : N = (leavesK ps).length) (hN : N ≤ 1000000000) (hbw : base ≤ w.heap.size) (hw : widthB z = true) (hfar : Far t v) (hl : Dg leaf) (hf : formB z leaf = true) (hT : Tabs w) (h6 : Tab6 w) :
    Calls Tryd.prog 36 #[.pointer (some ⟨t, 0, none⟩), .agg (brow leaf)] w fun e w' => e = .returned (.tuple #[]) ∧ PushD z t N base v ps leaf w w' := by
  have hnp : ps.length ≤ N := by have := len_le_sum (ps.reverse.map (·.h)); rw [hNl, leavesK_len hpk.ok]; simpa using this
  obtain ⟨n, hn0⟩ : ∃ n, ps.length = n := ⟨_, rfl⟩
  obtain ⟨xs, hxs0⟩ : ∃ xs, cellsK ps = xs := ⟨_, rfl⟩
  have hown : w.ownsRow base 75 33 v n xs := by rw [← hn0, ← hxs0]; exact hown0
  have hn : n ≤ 1000000000 := by omega
  have HV0 := hide (by
    intro b hb
    rcases hown.2 with ⟨h9, _⟩ | ⟨g, cap, cur, h1, h2, h3, _⟩
    · rw [h9] at hb; simp [Value.ownBlock] at hb
    · rw [h1] at hb; simp [Value.ownBlock] at hb; subst hb; exact ⟨_, _, h3⟩ : ∀ b, v.ownBlock = some b → ∃ cs m, w.heap[b]? = some (.cells cs 75 m))
  have hvb : ∀ b, v.ownBlock = some b → b < w.heap.size ∧ ¬ b = t := fun b hb => ⟨(hown.lt b hb).2, fun e => by
    obtain ⟨cs, m, h9⟩ := unhide HV0 b hb
    rw [e, hrow] at h9; simp at h9⟩
  have HT0 := hide (⟨_, _, hrow⟩ : ∃ cs m, w.heap[t]? = some (.cells cs 65 m))
  have HST := hide (fun (wr : World) g1 cap1 => PuRel.start (t := t) (v := v) (wr := wr) (g1 := g1) (cap1 := cap1) (base := base) hpk hNl hl hf)
  rw [hn0, hxs0] at HST
  have HTw := hide (fun (W : World) (k : Kept (t :: v.ownBlock.toList) w W) => hfar.tabs hT k)
  have H6w := hide (fun (W : World) (k : Kept (t :: v.ownBlock.toList) w W) => hfar.tab6 h6 k)
  clear hnp hn0 hxs0 hown0 hpk hNl hf hT h6 hfar
  have kX := (Kept.refl [] w).alloc (.cells (brow leaf) 41)
  have HGX := hide (heap_alloc_new w (.cells (brow leaf) 41))
  have HRX := hide (kX.heap hrow (by simp))
  have HOX := hide (kX.owns hown (by simp))
  have hXs : (w.alloc (.cells (brow leaf) 41)).heap.size = w.heap.size + 1 := by simp
  go_enter Tryd.func36, Tryd.ntmps36
  go_wp2_with fail
  obtain ⟨X, hX⟩ : ∃ X, w.alloc (.cells (brow leaf) 41) = X := ⟨_, rfl⟩
  rw [hX] at HGX HRX HOX hXs kX ⊢
  have HKX := hide kX
  clear hX kX
  have cq : X.cell? ⟨t, 2, none⟩ = some v := cell_of_row _ _ 2 _ _ _ (unhide HRX)
  have hlb : (brow leaf).size = 32 := by rw [brow_size, hl.1]
  refine wp_pu12 (by kernel_rfl) (by kernel_rfl) (by kernel_rfl) (by kernel_rfl) (by kernel_rfl) (by kernel_rfl) (by kernel_rfl) (by kernel_rfl) (by kernel_rfl) (by kernel_rfl) (by kernel_rfl) (by kernel_rfl) (by kernel_rfl) (by kernel_rfl) (by kernel_rfl) (by kernel_rfl) (by kernel_rfl) (by kernel_rfl) (by kernel_rfl) (by kernel_rfl) (by kernel_rfl) (by kernel_rfl) (by kernel_rfl) (by kernel_rfl) rfl (by kernel_rfl) rfl (by kernel_rfl) rfl (by kernel_rfl) rfl (by kernel_rfl) rfl (by kernel_rfl)
    (.pointer (some ⟨t, 0, none⟩)) (.pointer (some ⟨t, 0, none⟩)) (.pointer (some ⟨t, 0, none⟩)) (.pointer (some ⟨t, 2, none⟩)) v (.agg (brow leaf)) (.agg (partC leaf (.pointer none)).toArray) _ _ _ _ _ _ _
    (fun w' => Kept v.ownBlock.toList X w')
    (fun w' => Kept [] X w')
    (fun u0 w' => (∃ H, u0 = .slice (some ⟨H, 0, none⟩) 1 1 ∧ w'.heap[H]? = some (.cells (partC leaf (.pointer none)).toArray 75 (0, 0))) ∧ Kept [] X w')
    (fun u0 u1 w' => (∃ g cap, u1 = .slice (some ⟨g, 0, none⟩) (n + 1) cap ∧ w'.ownsRow base 75 33 (.slice (some ⟨g, 0, none⟩) (n + 1) cap) (n + 1) (xs ++ partC leaf (.pointer none)) ∧ (v.ownBlock = some g ∨ w.heap.size ≤ g)) ∧ Kept v.ownBlock.toList X w')
    (fun u0 u1 u2 w' => u2 = .pointer (some ⟨t, 0, none⟩) ∧ (∃ g cap, u1 = .slice (some ⟨g, 0, none⟩) (n + 1) cap ∧ w'.ownsRow base 75 33 (.slice (some ⟨g, 0, none⟩) (n + 1) cap) (n + 1) (xs ++ partC leaf (.pointer none)) ∧ (v.ownBlock = some g ∨ w.heap.size ≤ g)) ∧ Kept v.ownBlock.toList X w')
    (fun u0 u1 u2 u3 w' => u3 = .pointer (some ⟨t, 2, none⟩) ∧ u2 = .pointer (some ⟨t, 0, none⟩) ∧ (∃ g cap, u1 = .slice (some ⟨g, 0, none⟩) (n + 1) cap ∧ w'.ownsRow base 75 33 (.slice (some ⟨g, 0, none⟩) (n + 1) cap) (n + 1) (xs ++ partC leaf (.pointer none)) ∧ (v.ownBlock = some g ∨ w.heap.size ≤ g)) ∧ Kept v.ownBlock.toList X w')
    (fun u0 u1 u2 u3 w' => (∃ g cap, u1 = .slice (some ⟨g, 0, none⟩) (n + 1) cap ∧ w'.ownsRow base 75 33 (.slice (some ⟨g, 0, none⟩) (n + 1) cap) (n + 1) (xs ++ partC leaf (.pointer none)) ∧ (v.ownBlock = some g ∨ w.heap.size ≤ g) ∧ w'.heap[t]? = some (.cells #[.int .i64 z, .int .u64 (N : Int), .slice (some ⟨g, 0, none⟩) (n + 1) cap] 65 (0, 0))) ∧ Kept (t :: v.ownBlock.toList) X w')
    (by simp only [Act.put, List.setIfInBounds_toArray, List.set_cons_zero, List.set_cons_succ]; rfl) (by exact Or.inl ⟨by rfl, fun W' hW' => by go_simp⟩)
    (by simp only [Act.put, List.setIfInBounds_toArray, List.set_cons_zero, List.set_cons_succ]; rfl) (by exact Or.inl ⟨by rfl, fun W' hW' => by go_simp⟩)
    (by simp only [Act.put, List.setIfInBounds_toArray, List.set_cons_zero, List.set_cons_succ]; rfl) (by exact Or.inl ⟨by rfl, fun W' hW' => by go_simp⟩)
    (by simp only [Act.put, List.setIfInBounds_toArray, List.set_cons_zero, List.set_cons_succ]; rfl) (by exact Or.inl ⟨by rfl, fun W' hW' => by go_simp⟩)
    (by simp only [Act.put, List.setIfInBounds_toArray, List.set_cons_zero, List.set_cons_succ]; rfl) (by exact Or.inl ⟨by rfl, fun W' hW' => by have h9 := hW'.cell cq (by intro hm; simp only [Option.mem_toList] at hm; have := hvb _ hm; omega); go_simp⟩)
    (by simp only [Act.put, List.setIfInBounds_toArray, List.set_cons_zero, List.set_cons_succ]; rfl) (by
      refine Or.inl ⟨by rfl, fun W' hW' => ?_⟩
      have h9 := run_loadVar_row (P := Tryd.prog) W' w.heap.size 41 41 (brow leaf) (0, 0) _ (hW'.heap (unhide HGX) (by intro hm; simp only [Option.mem_toList] at hm; have := hvb _ hm; omega)) Tryd.underlying41 rfl (by rw [hlb]; exact Tryd.size_dig)
      unfold execOp
      simp only [Instr.loadAt, Instr.sureAddr, Sem.run_bind, Sem.run_pure, Result.andThen_ok]
      change ((Sem.run Tryd.prog (loadVar 41 ⟨w.heap.size, 0, none⟩) W').andThen fun a w' => Result.ok (Next.value a) w') = _
      rw [h9]
      rfl)
    (by simp only [Act.put, List.setIfInBounds_toArray, List.set_cons_zero, List.set_cons_succ]; rfl) (by
      refine Or.inl ⟨by rfl, fun W' hW' => ?_⟩
      unfold execOp
      go_simp
      exact build_part leaf hl.1)
    (Kept.refl [] X).drew
    ⟨fun w' h => h.mono (by simp), fun u0 w' h => h.2.mono (by simp), fun u0 u1 w' h => h.2, fun u0 u1 u2 w' h => h.2.2, fun u0 u1 u2 u3 w' h => h.2.2.2⟩
    (by
      intro w' i K hK
      have hp33 := partC_len (k := .pointer none) hl.1
      have hb1 := hide (build_one leaf (.pointer none) hl.1)
      unfold Oper.wp execOp
      go_simp
      exact hK _ _ ⟨⟨_, rfl, (heap_alloc_new w' _).trans (by rw [← unhide hb1]; rfl)⟩, i.alloc _⟩)
    (by
      rintro u0 w' ⟨⟨H, rfl, hH⟩, i⟩ K hK
      obtain ⟨g, cap, w1, hrun, h3, h4, h5⟩ := pushK w' base v n xs leaf (.pointer none) H (i.owns (unhide HOX) (by simp)) hH hl.1 rfl (by omega) (by have := i.size; omega)
      exact wp_appendT rfl rfl rfl rfl hrun (hK _ _ ⟨⟨_, _, rfl, h3, h5.elim Or.inl (fun e => Or.inr (by have := i.size; omega))⟩, (i.mono (by simp)).grown h4 (by intro k hk; left; simp [hk])⟩))
    (by rintro u0 u1 w' ⟨⟨g, cap, rfl, h3, h8⟩, i⟩ K hK; unfold Oper.wp execOp; go_simp; exact hK _ _ ⟨rfl, ⟨_, _, rfl, h3, h8⟩, i⟩)
    (by rintro u0 u1 u2 w' ⟨rfl, ⟨g, cap, rfl, h3, h8⟩, i⟩ K hK; unfold Oper.wp execOp; go_simp; exact hK _ _ ⟨rfl, rfl, ⟨_, _, rfl, h3, h8⟩, i⟩)
    (by
      rintro u0 u1 u2 u3 w' ⟨rfl, rfl, ⟨g, cap, rfl, h3, h8⟩, i⟩ K hK
      have hq := i.heap (unhide HRX) (by intro hm; simp only [Option.mem_toList] at hm; have := hvb _ hm; omega)
      have cq9 := cell_of_row _ _ 2 _ _ _ hq
      have fz9 : w'.frozen? ⟨t, 2, none⟩ = false := by simp [World.frozen?, hq]
      have hset := heap_setCell_same w' t 2 _ 65 (.slice (some ⟨g, 0, none⟩) (n + 1) cap) hq
      have kS := (Kept.refl [t] w').setCell (p := ⟨t, 2, none⟩) (Or.inl (by simp)) (.slice (some ⟨g, 0, none⟩) (n + 1) cap)
      unfold Oper.wp execOp
      go_simp
      exact hK _ ⟨⟨_, _, rfl, kS.owns h3 (by intro b hb hm; simp [Value.ownBlock] at hb hm; subst hb; exact owns_ne h3 hq (by decide) hm.symm), h8, hset⟩, (i.mono (by simp; intro x hx; right; exact hx)).setCell (Or.inl (by simp)) _⟩)
    ?_
  rintro u0 u1 u2 u3 Y ⟨⟨g, cap, rfl, hO, hlie, hq⟩, kY⟩
  simp only [Act.put, List.setIfInBounds_toArray, List.set_cons_zero, List.set_cons_succ]
  have HO := hide hO
  have HLie := hide hlie
  have HQ := hide hq
  have HKY := hide kY
  have d1 := cell_of_row _ _ 1 _ _ _ hq
  have y1 := frozen_of_row _ _ 1 _ _ hq
  simp at d1
  clear hO hq kY cq hlb HGX HRX HOX hlie
  have hN' : (N : Int) + 1 < 18446744073709551616 := by omega
  have HQ2 := hide (heap_setCell_same _ _ 1 _ _ (.int .u64 ((N : Int) + 1)) (unhide HQ))
  have HK2 := hide ((unhide HKY).setCell (p := ⟨t, 1, none⟩) (Or.inl (by simp)) (.int .u64 ((N : Int) + 1)))
  have HOY := hide ((((Kept.refl [t] Y).setCell (p := ⟨t, 1, none⟩) (Or.inl (by simp)) (.int .u64 ((N : Int) + 1))).owns (unhide HO) (by intro b hb hm; simp [Value.ownBlock] at hb hm; subst hb; exact owns_ne (unhide HO) (unhide HQ) (by decide) hm.symm)))
  go_wp2_with fail
  obtain ⟨Z, hZ⟩ : ∃ Z, Y.setCell ⟨t, 1, none⟩ (.int .u64 ((N : Int) + 1)) = Z := ⟨_, rfl⟩
  rw [hZ] at HQ2 HK2 HOY ⊢
  clear hZ
  have e1 : (N : Int) + 1 = ((N + 1 : Nat) : Int) := by omega
  rw [e1] at HQ2 ⊢
  clear e1
  have HKZ := hide (((unhide HKX).mono (by simp)).trans (unhide HK2) (by intro x hx; left; exact hx) : Kept (t :: v.ownBlock.toList) w Z)
  obtain ⟨m, hcm⟩ := ctz_form (M := N + 1) (by omega) (by omega)
  have HR0 := hide (unhide HST Z g cap (unhide HKZ) (unhide HV0) (unhide HT0) (by simpa using unhide HQ2) (unhide HOY) (unhide HLie))
  have HFI := hide (fun front top g1 cap1 wr (h : PuRel z t (N + 1) base v ps leaf w (Lib.ctz 64 (N + 1)) front top g1 cap1 wr) => h.fin hcm)
  refine (tz64_any (N + 1) Z (by omega) (by omega) (unhide H6w Z ((unhide HKX).mono (by simp) |>.trans (unhide HK2) (by intro x hx; left; exact hx)))).mono ?_
  rintro e w3 ⟨rfl, rfl⟩
  clear hN' d1 y1 HQ HKY HO
  clear HST HOY HQ2 HLie HV0 HT0
  have hc64 := (Lib.lowest_bit 64 (N + 1) (by omega) (by omega)).2
  generalize Lib.ctz 64 (N + 1) = c at hcm HFI hc64 ⊢
  have HCM := hide hcm
  clear hcm
  have hMb : N + 1 ≤ 1000000001 := by omega
  generalize N + 1 = M at HCM HR0 HFI hMb ⊢
  go_wp2_with fail
  go_loopw [30] (fun t30 wr => ∃ (i : Nat) (front : List Pk) (top : Pk) (g1 cap1 : Nat), i ≤ c ∧ t30 = .int .i64 i ∧ Hid (PuRel z t M base v ps leaf w i front top g1 cap1 wr)) (fun t _ => c - (intOf t).toNat)
  case atStart => exact ⟨0, _, _, _, _, Nat.zero_le _, rfl, HR0⟩
  case round =>
    obtain ⟨i, front, top, g1, cap1, hi, rfl, HRL⟩ := hrel
    by_cases hlt : i < c
    · have hlt' : (i : Int) < c := by omega
      obtain ⟨front2, pa, hfr, HF0⟩ := (unhide HRL).facts hw (unhide HCM) hlt
      subst hfr
      have HF := hide HF0
      have cq := HF0.cq
      have cz := HF0.cz
      have htg := HF0.tg
      have hjM := HF0.jM
      have hjc0 := HF0.jc
      have hg1w := HF0.gw
      have hbg1 := HF0.bw
      have Hpa := hide HF0.ra
      have Htop := hide HF0.rt
      have HDGpa := hide HF0.la
      have HDGtop := hide HF0.lt
      have HOpa := hide HF0.oa
      have HOtop := hide HF0.ot
      clear HF0
      obtain ⟨j, hj⟩ : ∃ j, front2.length = j := ⟨_, rfl⟩
      rw [hj] at cq Hpa Htop hjM hjc0
      have hcap : (j : Int) + 2 ≤ 1000000001 := by omega
      have ix0 : ¬ (j : Int) + 1 < 0 := by omega
      have ix1 : ¬ (j : Int) + 2 ≤ j := by omega
      have ix2 : ¬ (j : Int) + 2 ≤ (j : Int) + 1 := by omega
      have wj : IntKind.i64.wrap ((j : Int) + 1) = (j : Int) + 1 := by simp [IntKind.wrap, IntKind.signed, IntKind.bits]; omega
      go_wp2_with fail
      refine wp_pu19 (by kernel_rfl) (by kernel_rfl) (by kernel_rfl) (by kernel_rfl) (by kernel_rfl) (by kernel_rfl) (by kernel_rfl) (by kernel_rfl) (by kernel_rfl) (by kernel_rfl) (by kernel_rfl) (by kernel_rfl) (by kernel_rfl) (by kernel_rfl) (by kernel_rfl) (by kernel_rfl) (by kernel_rfl) (by kernel_rfl) (by kernel_rfl) (by kernel_rfl) (by kernel_rfl) (by kernel_rfl) (by kernel_rfl) (by kernel_rfl) (by kernel_rfl) (by kernel_rfl) (by kernel_rfl) (by kernel_rfl) (by kernel_rfl) (by kernel_rfl) (by kernel_rfl) (by kernel_rfl) (by kernel_rfl) (by kernel_rfl) (by kernel_rfl) (by kernel_rfl) (by kernel_rfl) (by kernel_rfl) rfl rfl rfl rfl (by simp)
        (Value.pointer (some ⟨t, 0, none⟩)) (Value.pointer (some ⟨t, 0, none⟩)) (Value.pointer (some ⟨t, 2, none⟩)) (Value.slice (some ⟨g1, 0, none⟩) (j + 2) cap1) (.int .i64 (j : Int)) (.pointer (some ⟨g1, j * 33, none⟩)) (Value.agg (partC pa.s pa.k).toArray) (Value.pointer (some ⟨t, 0, none⟩)) (Value.pointer (some ⟨t, 0, none⟩)) (Value.pointer (some ⟨t, 2, none⟩)) (Value.slice (some ⟨g1, 0, none⟩) (j + 2) cap1) (.int .i64 (j : Int)) (.int .i64 ((j : Int) + 1)) (.pointer (some ⟨g1, (j + 1) * 33, none⟩)) (Value.agg (partC top.s top.k).toArray) _ _ _ _ _ _ _ _ _ _ _ _ _ _ _
        (fun w' => Kept [] wr w')
        (fun w' => Kept [] wr w')
        (fun u w' => ∃ gl, u = .pointer (some ⟨gl, 0, none⟩) ∧ wr.heap.size ≤ gl ∧ w'.heap[gl]? = some (.cells zP 75 (0, 0)) ∧ Kept [] wr w')
        (fun u w' => ∃ gl, u = .pointer (some ⟨gl, 0, none⟩) ∧ wr.heap.size ≤ gl ∧ w'.heap[gl]? = some (.cells zP 75 (0, 0)) ∧ Kept [] wr w')
        (fun u u' w' => ∃ gl gr, u = .pointer (some ⟨gl, 0, none⟩) ∧ u' = .pointer (some ⟨gr, 0, none⟩) ∧ gl ≠ gr ∧ wr.heap.size ≤ gl ∧ wr.heap.size ≤ gr ∧ w'.heap[gl]? = some (.cells zP 75 (0, 0)) ∧ w'.heap[gr]? = some (.cells zP 75 (0, 0)) ∧ Kept [] wr w')
        (fun u u' _ w' => ∃ gl gr, u = .pointer (some ⟨gl, 0, none⟩) ∧ u' = .pointer (some ⟨gr, 0, none⟩) ∧ gl ≠ gr ∧ wr.heap.size ≤ gl ∧ wr.heap.size ≤ gr ∧ w'.heap[gl]? = some (.cells (partC pa.s pa.k).toArray 75 (0, 0)) ∧ w'.heap[gr]? = some (.cells zP 75 (0, 0)) ∧ Kept [] wr w')
        (fun u u' _ _ w' => ∃ gl gr, u = .pointer (some ⟨gl, 0, none⟩) ∧ u' = .pointer (some ⟨gr, 0, none⟩) ∧ gl ≠ gr ∧ wr.heap.size ≤ gl ∧ wr.heap.size ≤ gr ∧ w'.heap[gl]? = some (.cells (partC pa.s pa.k).toArray 75 (0, 0)) ∧ w'.heap[gr]? = some (.cells (partC top.s top.k).toArray 75 (0, 0)) ∧ Kept [] wr w')
        (by simp only [Act.put, List.setIfInBounds_toArray, List.set_cons_zero, List.set_cons_succ]; rfl) (by exact Or.inl ⟨by rfl, fun W' hW' => by go_simp⟩)
        (by simp only [Act.put, List.setIfInBounds_toArray, List.set_cons_zero, List.set_cons_succ]; rfl) (by exact Or.inl ⟨by rfl, fun W' hW' => by go_simp⟩)
        (by simp only [Act.put, List.setIfInBounds_toArray, List.set_cons_zero, List.set_cons_succ]; rfl) (by exact Or.inl ⟨by rfl, fun W' hW' => by go_simp⟩)
        (by simp only [Act.put, List.setIfInBounds_toArray, List.set_cons_zero, List.set_cons_succ]; rfl) (by exact Or.inl ⟨by rfl, fun W' hW' => by have h9 := hW'.cell cq (by simp); go_simp⟩)
        (by simp only [Act.put, List.setIfInBounds_toArray, List.set_cons_zero, List.set_cons_succ]; rfl) (by exact Or.inl ⟨by rfl, fun W' hW' => by go_simp⟩)
        (by simp only [Act.put, List.setIfInBounds_toArray, List.set_cons_zero, List.set_cons_succ]; rfl) (by exact Or.inl ⟨by rfl, fun W' hW' => by go_simp⟩)
        (by simp only [Act.put, List.setIfInBounds_toArray, List.set_cons_zero, List.set_cons_succ]; rfl) (by
          refine Or.inl ⟨by rfl, fun W' hW' => ?_⟩
          have h9 := run_loadVar_mid (P := Tryd.prog) W' g1 (j * 33) 75 (partC pa.s pa.k) _ (fun k u hk => hW'.cell (unhide Hpa k u hk) (by simp)) Tryd.underlying75 rfl (by rw [partC_len (unhide HDGpa)]; exact size_part)
          unfold execOp
          simp only [Instr.loadAt, Instr.sureAddr, Sem.run_bind, Sem.run_pure, Result.andThen_ok]
          change ((Sem.run Tryd.prog (loadVar 75 ⟨g1, j * 33, none⟩) W').andThen fun a w' => Result.ok (Next.value a) w') = _
          rw [h9]
          rfl)
        (by simp only [Act.put, List.setIfInBounds_toArray, List.set_cons_zero, List.set_cons_succ]; rfl) (by exact Or.inl ⟨by rfl, fun W' hW' => by go_simp⟩)
        (by simp only [Act.put, List.setIfInBounds_toArray, List.set_cons_zero, List.set_cons_succ]; rfl) (by exact Or.inl ⟨by rfl, fun W' hW' => by go_simp⟩)
        (by simp only [Act.put, List.setIfInBounds_toArray, List.set_cons_zero, List.set_cons_succ]; rfl) (by exact Or.inl ⟨by rfl, fun W' hW' => by go_simp⟩)
        (by simp only [Act.put, List.setIfInBounds_toArray, List.set_cons_zero, List.set_cons_succ]; rfl) (by exact Or.inl ⟨by rfl, fun W' hW' => by have h9 := hW'.cell cq (by simp); go_simp⟩)
        (by simp only [Act.put, List.setIfInBounds_toArray, List.set_cons_zero, List.set_cons_succ]; rfl) (by exact Or.inl ⟨by rfl, fun W' hW' => by go_simp⟩)
        (by simp only [Act.put, List.setIfInBounds_toArray, List.set_cons_zero, List.set_cons_succ]; rfl) (by exact Or.inl ⟨by rfl, fun W' hW' => by go_simp⟩)
        (by simp only [Act.put, List.setIfInBounds_toArray, List.set_cons_zero, List.set_cons_succ]; rfl) (by exact Or.inl ⟨by rfl, fun W' hW' => by go_simp⟩)
        (by simp only [Act.put, List.setIfInBounds_toArray, List.set_cons_zero, List.set_cons_succ]; rfl) (by
          refine Or.inl ⟨by rfl, fun W' hW' => ?_⟩
          have h9 := run_loadVar_mid (P := Tryd.prog) W' g1 ((j + 1) * 33) 75 (partC top.s top.k) _ (fun k u hk => hW'.cell (unhide Htop k u hk) (by simp)) Tryd.underlying75 rfl (by rw [partC_len (unhide HDGtop)]; exact size_part)
          unfold execOp
          simp only [Instr.loadAt, Instr.sureAddr, Sem.run_bind, Sem.run_pure, Result.andThen_ok]
          change ((Sem.run Tryd.prog (loadVar 75 ⟨g1, (j + 1) * 33, none⟩) W').andThen fun a w' => Result.ok (Next.value a) w') = _
          rw [h9]
          rfl)
        (Kept.refl [] wr).drew
        ⟨fun w' h => h, fun u w' ⟨gl, _, _, _, k⟩ => k, fun u w' ⟨gl, _, _, _, k⟩ => k, fun u u' w' ⟨gl, gr, _, _, _, _, _, _, _, k⟩ => k, fun u u' _ w' ⟨gl, gr, _, _, _, _, _, _, _, k⟩ => k, fun u u' _ _ w' ⟨gl, gr, _, _, _, _, _, _, _, k⟩ => k⟩
        (by intro w' i K hK; unfold Oper.wp execOp; go_simp; exact hK _ _ ⟨_, rfl, i.size, heap_alloc_new w' (.cells zP 75), i.alloc _⟩)
        (by intro w' i K hK; unfold Oper.wp execOp; go_simp; exact hK _ _ ⟨_, rfl, i.size, heap_alloc_new w' (.cells zP 75), i.alloc _⟩)
        (by rintro u w' ⟨gl, rfl, h1, h2, i⟩ K hK; unfold Oper.wp execOp; go_simp; exact hK _ _ ⟨gl, _, rfl, rfl, by have := lt_of_block h2; omega, h1, i.size, ((Kept.refl [] w').alloc (.cells zP 75)).heap h2 (by simp), heap_alloc_new w' (.cells zP 75), i.alloc _⟩)
        (by rintro u w' ⟨gr, rfl, h1, h2, i⟩ K hK; unfold Oper.wp execOp; go_simp; exact hK _ _ ⟨_, gr, rfl, rfl, by have := lt_of_block h2; omega, i.size, h1, heap_alloc_new w' (.cells zP 75), ((Kept.refl [] w').alloc (.cells zP 75)).heap h2 (by simp), i.alloc _⟩)
        (by
          rintro u u' w' ⟨gl, gr, rfl, rfl, hne, h1, h2, h3, h4, i⟩ K hK
          exact wp_store_row 75 _ _ rfl gl (partC pa.s pa.k).toArray rfl rfl _ zP h3 (by rw [List.size_toArray, partC_len (unhide HDGpa)]; exact size_part) (by rw [zP_size, List.size_toArray, partC_len (unhide HDGpa)]) (unhide HOpa) (hK _ _ ⟨gl, gr, rfl, rfl, hne, h1, h2, setRow_heap _ _ _ _ _ _ h3, (setRow_other w' gl gr _ (fun e => hne e.symm)).trans h4, i.setRow (Or.inr h1) _⟩))
        (by
          rintro u u' u17 w' ⟨gl, gr, rfl, rfl, hne, h1, h2, h3, h4, i⟩ K hK
          exact wp_store_row 75 _ _ rfl gr (partC top.s top.k).toArray rfl rfl _ zP h4 (by rw [List.size_toArray, partC_len (unhide HDGtop)]; exact size_part) (by rw [zP_size, List.size_toArray, partC_len (unhide HDGtop)]) (unhide HOtop) (hK _ _ ⟨gl, gr, rfl, rfl, hne, h1, h2, (setRow_other w' gr gl _ hne).trans h3, setRow_heap _ _ _ _ _ _ h4, i.setRow (Or.inr h2) _⟩))
        ?_
      rintro u15 u16 u17 u18 W6 ⟨gl, gr, rfl, rfl, hne, hgl, hgr, hL6, hR6, k6⟩
      simp only [Act.put, List.setIfInBounds_toArray, List.set_cons_zero, List.set_cons_succ]
      go_wp2_with fail
      have cq6 : W6.cell? ⟨t, 2, none⟩ = some (Value.slice (some ⟨g1, 0, none⟩) (j + 2) cap1) := k6.cell cq (by simp)
      have cz6 : W6.cell? ⟨t, 0, none⟩ = some (.int .i64 z) := k6.cell cz (by simp)
      have hgl1 : ¬ gl = g1 := by omega
      have hgr1 : ¬ gr = g1 := by omega
      have hg1W : g1 < W6.heap.size := Nat.lt_of_lt_of_le hg1w k6.size
      have HLp := hide (range_rowV hL6 : W6.rangeAt gl 0 (partC pa.s pa.k))
      have HRp := hide (range_rowV hR6 : W6.rangeAt gr 0 (partC top.s top.k))
      have HLs := hide (range_part (unhide HLp) : W6.rangeAt gl 0 (pa.s.map u8))
      have HRs := hide (range_part (unhide HRp) : W6.rangeAt gr 0 (top.s.map u8))
      have HT6 := hide (k6.heap (unhide HRL).row (by simp))
      have HO6 := hide (k6.owns (owns_front (unhide HRL).own hj (unhide HF).la (unhide HF).lt (fun p hp => ((unhide HRL).pa p (by simp [hp])).dg.1)) (by simp))
      simp only [List.length_append, List.length_cons, List.length_nil, Nat.zero_add, hj, Nat.add_assoc, Nat.reduceAdd] at HT6
      have hbW : base ≤ W6.heap.size := by omega
      have HK6 := hide k6
      have HOV := hide (fun (w' : World) (k : Kept [] W6 w') => overT_any z pa.s top.s w' hw (unhide HF).da (unhide HF).dt (unhide HF).fa (unhide HF).ft (unhide HTw w' (((unhide HRL).kept.trans k6 (by simp)).trans k (by simp))))
      clear k6 hL6 hR6
      have hjc : (j : Int) ≤ cap1 := by omega
      have hj0 : ¬ (j : Int) < 0 := by omega
      refine wp_pu26 (by kernel_rfl) (by kernel_rfl) (by kernel_rfl) (by kernel_rfl) (by kernel_rfl) (by kernel_rfl) (by kernel_rfl) (by kernel_rfl) (by kernel_rfl) (by kernel_rfl) (by kernel_rfl) (by kernel_rfl) (by kernel_rfl) (by kernel_rfl) (by kernel_rfl) (by kernel_rfl) (by kernel_rfl) (by kernel_rfl) (by kernel_rfl) (by kernel_rfl) (by kernel_rfl) (by kernel_rfl) (by kernel_rfl) (by kernel_rfl) (by kernel_rfl) (by kernel_rfl) (by kernel_rfl) (by kernel_rfl) (by kernel_rfl) (by kernel_rfl) (by kernel_rfl) (by kernel_rfl) (by kernel_rfl) (by kernel_rfl) (by kernel_rfl) (by kernel_rfl) (by kernel_rfl) (by kernel_rfl) (by kernel_rfl) (by kernel_rfl) (by kernel_rfl) (by kernel_rfl) (by kernel_rfl) (by kernel_rfl) (by kernel_rfl) (by kernel_rfl) (by kernel_rfl) (by kernel_rfl) (by kernel_rfl) (by kernel_rfl) (by kernel_rfl) (by kernel_rfl) (by kernel_rfl) (by kernel_rfl) (by kernel_rfl) (by kernel_rfl) (by kernel_rfl) (by kernel_rfl) (by kernel_rfl) rfl rfl (by simp) (by kernel_rfl) rfl (by kernel_rfl) rfl (by kernel_rfl) rfl (by kernel_rfl) rfl (by kernel_rfl) rfl (by kernel_rfl) rfl (by kernel_rfl)
        (Value.pointer (some ⟨t, 0, none⟩)) (Value.pointer (some ⟨t, 0, none⟩)) (Value.pointer (some ⟨t, 0, none⟩)) (Value.pointer (some ⟨t, 2, none⟩)) (Value.slice (some ⟨g1, 0, none⟩) (j + 2) cap1) (.int .i64 (j : Int)) (.slice (some ⟨g1, 0, none⟩) j cap1) (Value.pointer (some ⟨t, 0, none⟩)) (Value.pointer (some ⟨t, 0, none⟩)) (.pointer (some ⟨t, 0, none⟩)) (.int .i64 z) (.pointer (some ⟨gl, 0, none⟩)) (.agg (brow pa.s)) (.pointer (some ⟨gr, 0, none⟩)) (.agg (brow top.s)) (.agg (partC pa.s pa.k).toArray) (.agg (partC top.s top.k).toArray) (.agg (partC pa.s pa.k ++ partC top.s top.k).toArray) _ _ _ _ _ _ _ _ _ _ _ _ _ _ _ _ _ _
        (fun w' => Kept [g1] W6 w')
        (fun w' => Kept [] W6 w')
        (fun u0 w' => u0 = .agg (brow (nodT z pa.s top.s)) ∧ Kept [] W6 w')
        (fun u1 w' => (∃ gk, u1 = .pointer (some ⟨gk, 0, none⟩) ∧ W6.heap.size ≤ gk ∧ w'.heap[gk]? = some (.cells (partC pa.s pa.k ++ partC top.s top.k).toArray 90 (0, 0))) ∧ Kept [] W6 w')
        (fun u0 u1 w' => u0 = .agg (brow (nodT z pa.s top.s)) ∧ (∃ gk, u1 = .pointer (some ⟨gk, 0, none⟩) ∧ W6.heap.size ≤ gk ∧ w'.heap[gk]? = some (.cells (partC pa.s pa.k ++ partC top.s top.k).toArray 90 (0, 0))) ∧ Kept [] W6 w')
        (fun u0 u1 u2 w' => (∃ gk, u1 = .pointer (some ⟨gk, 0, none⟩) ∧ W6.heap.size ≤ gk ∧ w'.heap[gk]? = some (.cells (partC pa.s pa.k ++ partC top.s top.k).toArray 90 (0, 0)) ∧ u2 = .agg (partC (nodT z pa.s top.s) (.pointer (some ⟨gk, 0, none⟩))).toArray) ∧ Kept [] W6 w')
        (fun u0 u1 u2 u3 w' => (∃ gk, u1 = .pointer (some ⟨gk, 0, none⟩) ∧ W6.heap.size ≤ gk ∧ w'.heap[gk]? = some (.cells (partC pa.s pa.k ++ partC top.s top.k).toArray 90 (0, 0)) ∧ ∃ H, u3 = .slice (some ⟨H, 0, none⟩) 1 1 ∧ w'.heap[H]? = some (.cells (partC (nodT z pa.s top.s) (.pointer (some ⟨gk, 0, none⟩))).toArray 75 (0, 0))) ∧ Kept [] W6 w')
        (fun u0 u1 u2 u3 u4 w' => (∃ gk, u1 = .pointer (some ⟨gk, 0, none⟩) ∧ W6.heap.size ≤ gk ∧ w'.heap[gk]? = some (.cells (partC pa.s pa.k ++ partC top.s top.k).toArray 90 (0, 0)) ∧ (∃ g2 cap2, u4 = .slice (some ⟨g2, 0, none⟩) (j + 1) cap2 ∧ w'.ownsRow base 75 33 (.slice (some ⟨g2, 0, none⟩) (j + 1) cap2) (j + 1) (cellsK front2 ++ partC (nodT z pa.s top.s) (.pointer (some ⟨gk, 0, none⟩))) ∧ (g2 = g1 ∨ W6.heap.size ≤ g2))) ∧ Kept [g1] W6 w')
        (fun u0 u1 u2 u3 u4 u5 w' => u5 = (Value.pointer (some ⟨t, 0, none⟩)) ∧ (∃ gk, u1 = .pointer (some ⟨gk, 0, none⟩) ∧ W6.heap.size ≤ gk ∧ w'.heap[gk]? = some (.cells (partC pa.s pa.k ++ partC top.s top.k).toArray 90 (0, 0)) ∧ (∃ g2 cap2, u4 = .slice (some ⟨g2, 0, none⟩) (j + 1) cap2 ∧ w'.ownsRow base 75 33 (.slice (some ⟨g2, 0, none⟩) (j + 1) cap2) (j + 1) (cellsK front2 ++ partC (nodT z pa.s top.s) (.pointer (some ⟨gk, 0, none⟩))) ∧ (g2 = g1 ∨ W6.heap.size ≤ g2))) ∧ Kept [g1] W6 w')
        (fun u0 u1 u2 u3 u4 u5 u6 w' => u6 = (Value.pointer (some ⟨t, 2, none⟩)) ∧ u5 = (Value.pointer (some ⟨t, 0, none⟩)) ∧ (∃ gk, u1 = .pointer (some ⟨gk, 0, none⟩) ∧ W6.heap.size ≤ gk ∧ w'.heap[gk]? = some (.cells (partC pa.s pa.k ++ partC top.s top.k).toArray 90 (0, 0)) ∧ (∃ g2 cap2, u4 = .slice (some ⟨g2, 0, none⟩) (j + 1) cap2 ∧ w'.ownsRow base 75 33 (.slice (some ⟨g2, 0, none⟩) (j + 1) cap2) (j + 1) (cellsK front2 ++ partC (nodT z pa.s top.s) (.pointer (some ⟨gk, 0, none⟩))) ∧ (g2 = g1 ∨ W6.heap.size ≤ g2))) ∧ Kept [g1] W6 w')
        (fun u0 u1 u2 u3 u4 u5 u6 w' => (∃ gk, u1 = .pointer (some ⟨gk, 0, none⟩) ∧ W6.heap.size ≤ gk ∧ w'.heap[gk]? = some (.cells (partC pa.s pa.k ++ partC top.s top.k).toArray 90 (0, 0)) ∧ (∃ g2 cap2, u4 = .slice (some ⟨g2, 0, none⟩) (j + 1) cap2 ∧ w'.ownsRow base 75 33 (.slice (some ⟨g2, 0, none⟩) (j + 1) cap2) (j + 1) (cellsK front2 ++ partC (nodT z pa.s top.s) (.pointer (some ⟨gk, 0, none⟩))) ∧ (g2 = g1 ∨ W6.heap.size ≤ g2) ∧ w'.heap[t]? = some (.cells #[.int .i64 z, .int .u64 (M : Int), .slice (some ⟨g2, 0, none⟩) (j + 1) cap2] 65 (0, 0)))) ∧ Kept [t, g1] W6 w')
        (by simp only [Act.put, List.setIfInBounds_toArray, List.set_cons_zero, List.set_cons_succ]; rfl) (by exact Or.inl ⟨by rfl, fun W' hW' => by go_simp⟩)
        (by simp only [Act.put, List.setIfInBounds_toArray, List.set_cons_zero, List.set_cons_succ]; rfl) (by exact Or.inl ⟨by rfl, fun W' hW' => by go_simp⟩)
        (by simp only [Act.put, List.setIfInBounds_toArray, List.set_cons_zero, List.set_cons_succ]; rfl) (by exact Or.inl ⟨by rfl, fun W' hW' => by go_simp⟩)
        (by simp only [Act.put, List.setIfInBounds_toArray, List.set_cons_zero, List.set_cons_succ]; rfl) (by exact Or.inl ⟨by rfl, fun W' hW' => by go_simp⟩)
        (by simp only [Act.put, List.setIfInBounds_toArray, List.set_cons_zero, List.set_cons_succ]; rfl) (by exact Or.inl ⟨by rfl, fun W' hW' => by have h9 := hW'.cell cq6 (by simpa using htg); go_simp⟩)
        (by simp only [Act.put, List.setIfInBounds_toArray, List.set_cons_zero, List.set_cons_succ]; rfl) (by exact Or.inl ⟨by rfl, fun W' hW' => by go_simp⟩)
        (by simp only [Act.put, List.setIfInBounds_toArray, List.set_cons_zero, List.set_cons_succ]; rfl) (by exact Or.inl ⟨by rfl, fun W' hW' => by go_simp⟩)
        (by simp only [Act.put, List.setIfInBounds_toArray, List.set_cons_zero, List.set_cons_succ]; rfl) (by exact Or.inl ⟨by rfl, fun W' hW' => by go_simp⟩)
        (by simp only [Act.put, List.setIfInBounds_toArray, List.set_cons_zero, List.set_cons_succ]; rfl) (by exact Or.inl ⟨by rfl, fun W' hW' => by go_simp⟩)
        (by simp only [Act.put, List.setIfInBounds_toArray, List.set_cons_zero, List.set_cons_succ]; rfl) (by exact Or.inl ⟨by rfl, fun W' hW' => by go_simp⟩)
        (by simp only [Act.put, List.setIfInBounds_toArray, List.set_cons_zero, List.set_cons_succ]; rfl) (by exact Or.inl ⟨by rfl, fun W' hW' => by have h9 := hW'.cell cz6 (by simpa using htg); go_simp⟩)
        (by simp only [Act.put, List.setIfInBounds_toArray, List.set_cons_zero, List.set_cons_succ]; rfl) (by exact Or.inl ⟨by rfl, fun W' hW' => by go_simp⟩)
        (by simp only [Act.put, List.setIfInBounds_toArray, List.set_cons_zero, List.set_cons_succ]; rfl) (by
          refine Or.inl ⟨by rfl, fun W' hW' => ?_⟩
          have h9 := run_loadVar_mid (P := Tryd.prog) W' gl 0 41 (pa.s.map u8) _ (fun k u hk => hW'.cell (unhide HLs k u hk) (by simpa using hgl1)) Tryd.underlying41 rfl (by rw [List.length_map, unhide HDGpa]; exact Tryd.size_dig)
          unfold execOp
          simp only [Instr.loadAt, Instr.sureAddr, Sem.run_bind, Sem.run_pure, Result.andThen_ok]
          change ((Sem.run Tryd.prog (loadVar 41 ⟨gl, 0, none⟩) W').andThen fun a w' => Result.ok (Next.value a) w') = _
          rw [h9]
          rfl)
        (by simp only [Act.put, List.setIfInBounds_toArray, List.set_cons_zero, List.set_cons_succ]; rfl) (by exact Or.inl ⟨by rfl, fun W' hW' => by go_simp⟩)
        (by simp only [Act.put, List.setIfInBounds_toArray, List.set_cons_zero, List.set_cons_succ]; rfl) (by
          refine Or.inl ⟨by rfl, fun W' hW' => ?_⟩
          have h9 := run_loadVar_mid (P := Tryd.prog) W' gr 0 41 (top.s.map u8) _ (fun k u hk => hW'.cell (unhide HRs k u hk) (by simpa using hgr1)) Tryd.underlying41 rfl (by rw [List.length_map, unhide HDGtop]; exact Tryd.size_dig)
          unfold execOp
          simp only [Instr.loadAt, Instr.sureAddr, Sem.run_bind, Sem.run_pure, Result.andThen_ok]
          change ((Sem.run Tryd.prog (loadVar 41 ⟨gr, 0, none⟩) W').andThen fun a w' => Result.ok (Next.value a) w') = _
          rw [h9]
          rfl)
        (by simp only [Act.put, List.setIfInBounds_toArray, List.set_cons_zero, List.set_cons_succ]; rfl) (by
          refine Or.inl ⟨by rfl, fun W' hW' => ?_⟩
          have h9 := run_loadVar_mid (P := Tryd.prog) W' gl 0 75 (partC pa.s pa.k) _ (fun k u hk => hW'.cell (unhide HLp k u hk) (by simpa using hgl1)) Tryd.underlying75 rfl (by rw [partC_len (unhide HDGpa)]; exact size_part)
          unfold execOp
          simp only [Instr.loadAt, Instr.sureAddr, Sem.run_bind, Sem.run_pure, Result.andThen_ok]
          change ((Sem.run Tryd.prog (loadVar 75 ⟨gl, 0, none⟩) W').andThen fun a w' => Result.ok (Next.value a) w') = _
          rw [h9]
          rfl)
        (by simp only [Act.put, List.setIfInBounds_toArray, List.set_cons_zero, List.set_cons_succ]; rfl) (by
          refine Or.inl ⟨by rfl, fun W' hW' => ?_⟩
          have h9 := run_loadVar_mid (P := Tryd.prog) W' gr 0 75 (partC top.s top.k) _ (fun k u hk => hW'.cell (unhide HRp k u hk) (by simpa using hgr1)) Tryd.underlying75 rfl (by rw [partC_len (unhide HDGtop)]; exact size_part)
          unfold execOp
          simp only [Instr.loadAt, Instr.sureAddr, Sem.run_bind, Sem.run_pure, Result.andThen_ok]
          change ((Sem.run Tryd.prog (loadVar 75 ⟨gr, 0, none⟩) W').andThen fun a w' => Result.ok (Next.value a) w') = _
          rw [h9]
          rfl)
        (by simp only [Act.put, List.setIfInBounds_toArray, List.set_cons_zero, List.set_cons_succ]; rfl) (by
          refine Or.inl ⟨by rfl, fun W' hW' => ?_⟩
          have l1 := partC_len (k := pa.k) (unhide HDGpa)
          have l2 := partC_len (k := top.k) (unhide HDGtop)
          have hf := pair_fold (partC pa.s pa.k) (partC top.s top.k) l1 l2
          have hz : ¬ (List.foldl (fun cs x => cs.setIfInBounds x.snd x.fst) Tryd.zeroCells90 (partC pa.s pa.k).zipIdx).size < 66 := by rw [fold_size, z87_size]; omega
          unfold execOp
          go_simp)
        (Kept.refl [] W6).drew
        ⟨fun w' h => h.mono (by simp), fun u0 w' h => h.2.mono (by simp), fun u1 w' h => h.2.mono (by simp), fun u0 u1 w' h => h.2.2.mono (by simp), fun u0 u1 u2 w' h => h.2.mono (by simp), fun u0 u1 u2 u3 w' h => h.2.mono (by simp), fun u0 u1 u2 u3 u4 w' h => h.2, fun u0 u1 u2 u3 u4 u5 w' h => h.2.2, fun u0 u1 u2 u3 u4 u5 u6 w' h => h.2.2.2⟩
        (by intro w' i K hK; exact wp_callN rfl Tryd.call53 [.int .i64 z, .agg (brow pa.s), .agg (brow top.s)] rfl (unhide HOV w' i) (fun e w2 h => ⟨_, h.1, hK _ _ ⟨rfl, i.trans h.2 (by simp)⟩⟩))
        (by intro w' i K hK; unfold Oper.wp execOp; go_simp; exact hK _ _ ⟨⟨_, rfl, i.size, heap_alloc_new _ _⟩, i.alloc _⟩)
        (by rintro u0 w' ⟨rfl, i⟩ K hK; unfold Oper.wp execOp; go_simp; exact hK _ _ ⟨rfl, ⟨_, rfl, i.size, heap_alloc_new _ _⟩, i.alloc _⟩)
        (by rintro u1 w' ⟨⟨gk, rfl, h1, h2⟩, i⟩ K hK; exact wp_callN rfl Tryd.call53 [.int .i64 z, .agg (brow pa.s), .agg (brow top.s)] rfl (unhide HOV w' i) (fun e w2 h => ⟨_, h.1, hK _ _ ⟨rfl, ⟨gk, rfl, h1, h.2.heap h2 (by simp)⟩, i.trans h.2 (by simp)⟩⟩))
        (by
          intro u0 u1 w' hh K hK
          simp only [Act.put, List.setIfInBounds_toArray, List.set_cons_zero, List.set_cons_succ] at hK ⊢
          obtain ⟨rfl, ⟨gk, rfl, h1, h2⟩, i⟩ := hh
          exact wp_build_part _ _ rfl (nodT z pa.s top.s) (.pointer (some ⟨gk, 0, none⟩)) (nodS_dg z pa.s top.s).1 rfl rfl rfl (hK _ _ ⟨⟨gk, rfl, h1, h2, rfl⟩, i⟩))
        (by
          intro u0 u1 u2 w' hh K hK
          simp only [Act.put, List.setIfInBounds_toArray, List.set_cons_zero, List.set_cons_succ] at hK ⊢
          obtain ⟨⟨gk, rfl, h1, h2, rfl⟩, i⟩ := hh
          have hnl : (nodT z pa.s top.s).length = 32 := (nodS_dg z pa.s top.s).1
          have hp33 := partC_len (k := .pointer (some ⟨gk, 0, none⟩)) hnl
          have hb1 := hide (build_one (nodT z pa.s top.s) (.pointer (some ⟨gk, 0, none⟩)) hnl)
          unfold Oper.wp execOp
          go_simp
          exact hK _ _ ⟨⟨gk, rfl, h1, ((Kept.refl [] w').alloc _).heap h2 (by simp), _, rfl, (heap_alloc_new w' _).trans (by rw [← unhide hb1]; rfl)⟩, i.alloc _⟩)
        (by
          intro u0 u1 u2 u3 w' hh K hK
          simp only [Act.put, List.setIfInBounds_toArray, List.set_cons_zero, List.set_cons_succ] at hK ⊢
          obtain ⟨⟨gk, rfl, h1, h2, H, rfl, hH⟩, i⟩ := hh
          have hnl : (nodT z pa.s top.s).length = 32 := (nodS_dg z pa.s top.s).1
          obtain ⟨g2, cap2, w1, hrun, h3, h4, h5⟩ := pushK w' base (.slice (some ⟨g1, 0, none⟩) j cap1) j (cellsK front2) (nodT z pa.s top.s) (.pointer (some ⟨gk, 0, none⟩)) H (i.owns (unhide HO6) (by simp)) hH hnl rfl (by omega) (Nat.le_trans hbW i.size)
          have k4 : Kept [g1] w' w1 := (Kept.refl [g1] w').grown h4 (by intro k hk; left; simp [Value.ownBlock] at hk; simp [hk])
          exact wp_appendT rfl rfl rfl rfl hrun (hK _ _ ⟨⟨gk, rfl, h1, k4.heap h2 (by simp; omega), g2, cap2, rfl, h3, h5.elim (fun e => Or.inl (by simp [Value.ownBlock] at e; exact e.symm)) (fun e => Or.inr (by have := i.size; omega))⟩, (i.mono (by simp)).trans k4 (by simp)⟩))
        (by
          intro u0 u1 u2 u3 u4 w' hh K hK
          simp only [Act.put, List.setIfInBounds_toArray, List.set_cons_zero, List.set_cons_succ] at hK ⊢
          obtain ⟨⟨gk, rfl, h1, h2, g2, cap2, rfl, h3, h8⟩, i⟩ := hh
          unfold Oper.wp execOp; go_simp; exact hK _ _ ⟨rfl, ⟨gk, rfl, h1, h2, g2, cap2, rfl, h3, h8⟩, i⟩)
        (by
          intro u0 u1 u2 u3 u4 u5 w' hh K hK
          simp only [Act.put, List.setIfInBounds_toArray, List.set_cons_zero, List.set_cons_succ] at hK ⊢
          obtain ⟨rfl, ⟨gk, rfl, h1, h2, g2, cap2, rfl, h3, h8⟩, i⟩ := hh
          unfold Oper.wp execOp; go_simp; exact hK _ _ ⟨rfl, rfl, ⟨gk, rfl, h1, h2, g2, cap2, rfl, h3, h8⟩, i⟩)
        (by
          intro u0 u1 u2 u3 u4 u5 u6 w' hh K hK
          simp only [Act.put, List.setIfInBounds_toArray, List.set_cons_zero, List.set_cons_succ] at hK ⊢
          obtain ⟨rfl, rfl, ⟨gk, rfl, h1, h2, g2, cap2, rfl, h3, h8⟩, i⟩ := hh
          have hq := i.heap (unhide HT6) (by simpa using htg)
          have kS := (Kept.refl [t] w').setCell (p := ⟨t, 2, none⟩) (Or.inl (by simp)) (.slice (some ⟨g2, 0, none⟩) (j + 1) cap2)
          have htW := lt_of_block (unhide HT6)
          exact wp_store_t2 _ _ rfl t _ _ ⟨_, _, _, rfl⟩ rfl rfl hq (by simp) (hK _ ⟨⟨gk, rfl, h1, kS.heap h2 (by simp; omega), g2, cap2, rfl, kS.owns h3 (by intro b hb hm; simp [Value.ownBlock] at hb hm; subst hb; exact owns_ne h3 hq (by decide) hm.symm), h8, heap_setCell_same w' t 2 _ 65 (.slice (some ⟨g2, 0, none⟩) (j + 1) cap2) hq⟩, (i.mono (by simp)).setCell (Or.inl (by simp)) _⟩))
        ?_
      rintro u0 u1 u2 u3 u4 u5 u6 W7 ⟨⟨gk, rfl, h1, h2, g2, cap2, rfl, h3, h8, h9⟩, k7⟩
      simp only [Act.put, List.setIfInBounds_toArray, List.set_cons_zero, List.set_cons_succ]
      rw [← hj] at h3 h9
      have HR1 := hide ((unhide HRL).step (unhide HF) (unhide HK6) k7 h1 h2 h3 h9 h8)
      clear h1 h2 h3 h9 h8 k7 HT6 HO6 HOV HLs HRs HLp HRp HK6 HF HRL Hpa Htop cq6 cz6 cq cz
      have hi1 : (i : Int) + 1 < 9223372036854775808 := by omega
      go_wp2_with fail
      refine ⟨⟨i + 1, _, _, _, _, by omega, by simp, HR1⟩, ?_⟩
      simp [intOf]
      omega
    · have hie : i = c := by omega
      subst hie
      have HE := hide (unhide HFI _ _ _ _ _ (unhide HRL))
      go_wp2_with fail
      exact ⟨rfl, _, results_none rfl _ _ _, rfl, unhide HE⟩

end Go.Proofs.YtecadmldnjlibaaDoor
namespace Go.Proofs.YtecadmldnjlibaaDoor
open Go.RowKit Go.BigFrame
set_option linter.unusedVariables false
set_option linter.unusedSimpArgs false

theorem owns_baseK {w : World} {b b' e s n : Nat} {v : Value} {xs : List Value} (h : w.ownsRow b e s v n xs) (hb : b' ≤ b) : w.ownsRow b' e s v n xs := by
  refine ⟨h.1, ?_⟩
  rcases h.2 with h9 | ⟨g, cap, cur, h1, h2, h3⟩
  · exact .inl h9
  · exact .inr ⟨g, cap, cur, h1, Nat.le_trans hb h2, h3⟩
/-- Append within: so many leaves are laid behind. -/
structure AppI (z : Int) (ps : List Pk) (ls : List (List Nat)) (w : World) (t base i : Nat) (v : Value) (qs : List Pk) (wr : World) : Prop where
  row : wr.heap[t]? = some (.cells #[.int .i64 z, .int .u64 (((leavesK ps).length + i : Nat) : Int), v] 65 (0, 0))
  own : wr.ownsRow base 75 33 v qs.length (cellsK qs)
  pk : PKs z wr qs
  lv : leavesK qs = leavesK ps ++ ls.take i
  nil : qs = [] → v = .slice none 0 0
  kept : Kept [] w wr
  bw : w.heap.size ≤ base
  bt : w.heap.size ≤ t
  br : base ≤ wr.heap.size
theorem AppI.far {z : Int} {ps : List Pk} {ls : List (List Nat)} {w : World} {t base i : Nat} {v : Value} {qs : List Pk} {wr : World} (h : AppI z ps ls w t base i v qs wr) (hT : Tabs w) (h6 : Tab6 w) : Far t v := by
  have e1 := block_lt_of_cell (hT.1 0 (by decide))
  have e2 := block_lt_of_cell (hT.2 0 (by decide))
  have e3 := block_lt_of_cell (h6 0 (by decide))
  simp only at e1 e2 e3
  intro b hb
  have hbb : w.heap.size ≤ b := by
    simp only [List.mem_cons, Option.mem_toList] at hb
    rcases hb with rfl | hb
    · exact h.bt
    · exact Nat.le_trans h.bw (h.own.lt b hb).1
  refine ⟨?_, ?_, ?_⟩ <;> omega
theorem AppI.len {z : Int} {ps : List Pk} {ls : List (List Nat)} {w : World} {t base i : Nat} {v : Value} {qs : List Pk} {wr : World} (h : AppI z ps ls w t base i v qs wr) (hi : i ≤ ls.length) : (leavesK ps).length + i = (leavesK qs).length := by
  rw [h.lv, List.length_append, List.length_take, Nat.min_eq_left hi]
theorem AppI.step {z : Int} {ps : List Pk} {ls : List (List Nat)} {w : World} {t base i : Nat} {v : Value} {qs : List Pk} {wr wa w' : World} (h : AppI z ps ls w t base i v qs wr) (hi : i < ls.length) (ka : Kept [] wr wa) (hp : PushD z t ((leavesK ps).length + i) base v qs (ls.getD i []) wa w') : ∃ v' rs, AppI z ps ls w t base (i + 1) v' rs w' := by
  obtain ⟨g, cap, rs, h1, h2, h3, h4, h5, h6, h7⟩ := hp
  refine ⟨_, rs, h1, h2, h3, ?_, fun e => absurd e h5, ?_, h.bw, h.bt, Nat.le_trans h.br (Nat.le_trans ka.size h6.size)⟩
  · rw [h4, h.lv, List.append_assoc, List.take_succ_eq_append_getElem hi, List.getD_eq_getElem?_getD, List.getElem?_eq_getElem hi]; rfl
  · refine (h.kept.trans ka (by simp)).trans h6 ?_
    intro x hx
    right
    simp only [List.mem_cons, Option.mem_toList] at hx
    rcases hx with rfl | hx
    · exact h.bt
    · exact Nat.le_trans h.bw (h.own.lt x hx).1
theorem owns_rdK {w : World} {base : Nat} {v : Value} {ps : List Pk} (h : w.ownsRow base 75 33 v ps.length (cellsK ps)) : RdK3 w v ps := by
  rcases id h.2 with ⟨h9, h1⟩ | ⟨g, cap, cur, h1, h2⟩
  · subst h9
    exact ⟨none, 0, by rw [h1], by omega, by omega, fun h => by omega⟩
  · subst h1
    exact owns_rd h rfl
theorem AppI.fin {z : Int} {ps : List Pk} {ls : List (List Nat)} {w : World} {t base : Nat} {v : Value} {qs : List Pk} {wr : World} (h : AppI z ps ls w t base ls.length v qs wr) (hw : widthB z = true) : TreeAt z wr t v qs ∧ leavesK qs = leavesK ps ++ ls := by
  have h1 := h.len (Nat.le_refl _)
  have h2 := h.row
  rw [h1] at h2
  exact ⟨⟨h2, hw, owns_rdK h.own, h.pk⟩, by rw [h.lv, List.take_length]⟩
end Go.Proofs.YtecadmldnjlibaaDoor
namespace Go.Proofs.YtecadmldnjlibaaDoor
open Go.RowKit Go.BigFrame
set_option linter.unusedVariables false
set_option linter.unusedSimpArgs false

/-- Peaks behind an empty row that is owned. -/
theorem appendK (w : World) (base : Nat) (v : Value) (ps : List Pk) (b off c : Nat) (h : w.ownsRow base 75 33 v 0 []) (hr : RdK3 w (.slice (some ⟨b, off, none⟩) ps.length c) ps) (hp : 0 < ps.length) (hlen : (cellsK ps).length = ps.length * 33) (h1 : ∀ u ∈ cellsK ps, u.oneCell' = true) (hl : ps.length ≤ 1000000000) (hb : base ≤ w.heap.size) :
    ∃ g cap w1, (Builtin.append_ #[63, 63] 63 #[v, .slice (some ⟨b, off, none⟩) ps.length c]).run Tryd.prog w = .ok (.slice (some ⟨g, 0, none⟩) ps.length cap) w1 ∧
      w1.ownsRow base 75 33 (.slice (some ⟨g, 0, none⟩) ps.length cap) ps.length (cellsK ps) ∧ w.grownBy w1 v.ownBlock ∧ (v.ownBlock = some g ∨ g = w.heap.size) := by
  obtain ⟨i0, hi, hz0, hz1, hz2⟩ := info_parts Tryd.infoP
  obtain ⟨ao, cap, he, h2, h3, h4⟩ := hr
  cases he
  obtain ⟨b', off', e, hc⟩ := h4 hp
  cases e
  obtain ⟨g, cap, w1, hrun, hown, hgrow, hat, hlt⟩ := run_append_lies (P := Tryd.prog) w 63 63 base 75 i0 (.agg zP) 33 40 Tryd.underlying63 hi hz0 hz1 hz2 rfl (by decide)
    v 0 [] h ⟨b, off, none⟩ ps.length c (cellsK ps) hlen (fun j u hj => by rw [Addr.add_mid]; exact hc j u hj) h1 hp (by unfold maxLen; omega) (by omega) hb _ rfl
  simp only [Nat.zero_add, List.nil_append] at hrun hown
  exact ⟨g, cap, w1, hrun, hown, hgrow, hat⟩

set_option maxRecDepth 100000 in
set_option maxHeartbeats 1000000 in
theorem cloneK_any (z : Int) (v : Value) (ps : List Pk) (w : World) (h : RdK3 w v ps) (hpk : PKs z w ps) (hnil : ps = [] → v = .slice none 0 0) (hl : ps.length ≤ 1000000000) :
    Calls Tryd.prog 35 #[v] w fun e w' => ∃ v', e = .returned v' ∧ w'.ownsRow w.heap.size 75 33 v' ps.length (cellsK ps) ∧ (ps = [] → v' = .slice none 0 0) ∧ Kept [] w w' := by
  by_cases hp : ps = []
  · subst hp
    obtain rfl := hnil rfl
    have hq : ∀ W : World, (binOp .eql 63 (.slice none 0 0) (.slice none 0 0)).run Tryd.prog W = .ok (.bool true) W := by
      intro W
      simp only [binOp]
      simp [run_equal_slice_nil W 63 75 none 0 0 Tryd.underlying63]
    go_enter Tryd.func35, Tryd.ntmps35
    go_wp2_with fail
    go_ret
    exact ⟨_, rfl, ⟨rfl, Or.inl ⟨rfl, rfl⟩⟩, rfl, Kept.refl _ _⟩
  · have hp0 : 0 < ps.length := List.length_pos_iff.2 hp
    have H := hide h
    obtain ⟨a1, c1, rfl, hc1, hc2, hc3⟩ := id h
    obtain ⟨b, off, rfl, _⟩ := hc3 hp0
    clear h hc3
    have HL := hide (cellsK_len' (fun p hp => (hpk.ok p hp).dg.1))
    have H1 := hide (cellsK_one hpk.ok)
    have HO := hide (World.ownsRow_made (base := w.heap.size) (e := 75) (size := 33) w #[] 0 (Nat.le_refl _) (by unfold maxLen; omega) (by simp))
    have hq : ∀ W : World, (binOp .eql 63 (.slice (some ⟨b, off, none⟩) ps.length c1) (.slice none 0 0)).run Tryd.prog W = .ok (.bool false) W := by
      intro W
      simp only [binOp]
      simp [run_equal_slice_nil W 63 75 (some ⟨b, off, none⟩) ps.length c1 Tryd.underlying63]
    obtain ⟨g, cap, w1, hrun, h3, h4, h5⟩ := appendK (w.alloc (.cells #[] 75)) w.heap.size (.slice (some ⟨w.heap.size, 0, none⟩) 0 0) ps b off c1 (unhide HO) ((unhide H).old ((Kept.refl [] w).alloc _)) hp0 (unhide HL) (unhide H1) hl (by simp)
    have HR := hide hrun
    have HO1 := hide h3
    have HK1 := hide (((Kept.refl [] w).alloc _).grown h4 (by intro k hk; right; simp [Value.ownBlock] at hk; omega))
    clear hrun h3 h4 h5 HO hpk hnil
    go_enter Tryd.func35, Tryd.ntmps35
    go_wp2_with (at_builtin; refine wpList_plain rfl fun K hK' => ?_; refine wp_appendT rfl rfl rfl rfl (unhide HR) (hK' _ _ ?_))
    go_ret
    exact ⟨_, rfl, unhide HO1, fun e => absurd e hp, unhide HK1⟩

end Go.Proofs.YtecadmldnjlibaaDoor
/-
  Laws for drawn regions, by genreg.py. No program.
-/
namespace Go.Proofs.YtecadmldnjlibaaDoor
open Go Go.RowKit Go.BigFrame
set_option linter.unusedVariables false
set_option linter.unusedSimpArgs false
section
variable {P : Program} {Q : Exit → Act → World → Prop}
theorem wp_ap16 {id : Nat} {o0 o1 o2 o3 o4 o5 o6 o7 o8 o9 o10 o11 o12 o13 o14 o15 : Oper} {a : Act} {w : World} (hm : P.follows .mixedOrders = true) (hs : Region.noSelect #[o0, o1, o2, o3, o4, o5, o6, o7, o8, o9, o10, o11, o12, o13, o14, o15] = true)
    (f0 : Region.free .any #[o0, o1, o2, o3, o4, o5, o6, o7, o8, o9, o10, o11, o12, o13, o14, o15] #[false, false, false, false, false, false, false, false, false, false, false, false, false, false, false, false] 0 = true) (r0 : (Region.ready .any #[o0, o1, o2, o3, o4, o5, o6, o7, o8, o9, o10, o11, o12, o13, o14, o15] #[false, false, false, false, false, false, false, false, false, false, false, false, false, false, false, false]).contains 0 = true)
    (f1 : Region.free .any #[o0, o1, o2, o3, o4, o5, o6, o7, o8, o9, o10, o11, o12, o13, o14, o15] #[true, false, false, false, false, false, false, false, false, false, false, false, false, false, false, false] 1 = true) (r1 : (Region.ready .any #[o0, o1, o2, o3, o4, o5, o6, o7, o8, o9, o10, o11, o12, o13, o14, o15] #[true, false, false, false, false, false, false, false, false, false, false, false, false, false, false, false]).contains 1 = true)
    (f2 : Region.free .any #[o0, o1, o2, o3, o4, o5, o6, o7, o8, o9, o10, o11, o12, o13, o14, o15] #[true, true, false, false, false, false, false, false, false, false, false, false, false, false, false, false] 2 = true) (r2 : (Region.ready .any #[o0, o1, o2, o3, o4, o5, o6, o7, o8, o9, o10, o11, o12, o13, o14, o15] #[true, true, false, false, false, false, false, false, false, false, false, false, false, false, false, false]).contains 2 = true)
    (f3 : Region.free .any #[o0, o1, o2, o3, o4, o5, o6, o7, o8, o9, o10, o11, o12, o13, o14, o15] #[true, true, true, false, false, false, false, false, false, false, false, false, false, false, false, false] 3 = true) (r3 : (Region.ready .any #[o0, o1, o2, o3, o4, o5, o6, o7, o8, o9, o10, o11, o12, o13, o14, o15] #[true, true, true, false, false, false, false, false, false, false, false, false, false, false, false, false]).contains 3 = true)
    (f4 : Region.free .any #[o0, o1, o2, o3, o4, o5, o6, o7, o8, o9, o10, o11, o12, o13, o14, o15] #[true, true, true, true, false, false, false, false, false, false, false, false, false, false, false, false] 4 = true) (r4 : (Region.ready .any #[o0, o1, o2, o3, o4, o5, o6, o7, o8, o9, o10, o11, o12, o13, o14, o15] #[true, true, true, true, false, false, false, false, false, false, false, false, false, false, false, false]).contains 4 = true)
    (f5 : Region.free .any #[o0, o1, o2, o3, o4, o5, o6, o7, o8, o9, o10, o11, o12, o13, o14, o15] #[true, true, true, true, true, false, false, false, false, false, false, false, false, false, false, false] 5 = true) (r5 : (Region.ready .any #[o0, o1, o2, o3, o4, o5, o6, o7, o8, o9, o10, o11, o12, o13, o14, o15] #[true, true, true, true, true, false, false, false, false, false, false, false, false, false, false, false]).contains 5 = true)
    (f6 : Region.free .any #[o0, o1, o2, o3, o4, o5, o6, o7, o8, o9, o10, o11, o12, o13, o14, o15] #[true, true, true, true, true, true, false, false, false, false, false, false, false, false, false, false] 6 = true) (r6 : (Region.ready .any #[o0, o1, o2, o3, o4, o5, o6, o7, o8, o9, o10, o11, o12, o13, o14, o15] #[true, true, true, true, true, true, false, false, false, false, false, false, false, false, false, false]).contains 6 = true)
    (f7 : Region.free .any #[o0, o1, o2, o3, o4, o5, o6, o7, o8, o9, o10, o11, o12, o13, o14, o15] #[true, true, true, true, true, true, true, false, false, false, false, false, false, false, false, false] 7 = true) (r7 : (Region.ready .any #[o0, o1, o2, o3, o4, o5, o6, o7, o8, o9, o10, o11, o12, o13, o14, o15] #[true, true, true, true, true, true, true, false, false, false, false, false, false, false, false, false]).contains 7 = true)
    (f8 : Region.free .any #[o0, o1, o2, o3, o4, o5, o6, o7, o8, o9, o10, o11, o12, o13, o14, o15] #[true, true, true, true, true, true, true, true, false, false, false, false, false, false, false, false] 8 = true) (r8 : (Region.ready .any #[o0, o1, o2, o3, o4, o5, o6, o7, o8, o9, o10, o11, o12, o13, o14, o15] #[true, true, true, true, true, true, true, true, false, false, false, false, false, false, false, false]).contains 8 = true)
    (f9 : Region.free .any #[o0, o1, o2, o3, o4, o5, o6, o7, o8, o9, o10, o11, o12, o13, o14, o15] #[true, true, true, true, true, true, true, true, true, false, false, false, false, false, false, false] 9 = true) (r9 : (Region.ready .any #[o0, o1, o2, o3, o4, o5, o6, o7, o8, o9, o10, o11, o12, o13, o14, o15] #[true, true, true, true, true, true, true, true, true, false, false, false, false, false, false, false]).contains 9 = true)
    (f10 : Region.free .any #[o0, o1, o2, o3, o4, o5, o6, o7, o8, o9, o10, o11, o12, o13, o14, o15] #[true, true, true, true, true, true, true, true, true, true, false, false, false, false, false, false] 10 = true) (r10 : (Region.ready .any #[o0, o1, o2, o3, o4, o5, o6, o7, o8, o9, o10, o11, o12, o13, o14, o15] #[true, true, true, true, true, true, true, true, true, true, false, false, false, false, false, false]).contains 10 = true)
    (f11 : Region.free .any #[o0, o1, o2, o3, o4, o5, o6, o7, o8, o9, o10, o11, o12, o13, o14, o15] #[true, true, true, true, true, true, true, true, true, true, true, false, false, false, false, false] 11 = true) (r11 : (Region.ready .any #[o0, o1, o2, o3, o4, o5, o6, o7, o8, o9, o10, o11, o12, o13, o14, o15] #[true, true, true, true, true, true, true, true, true, true, true, false, false, false, false, false]).contains 11 = true)
    (q_ : Region.ready .any #[o0, o1, o2, o3, o4, o5, o6, o7, o8, o9, o10, o11, o12, o13, o14, o15] #[true, true, true, true, true, true, true, true, true, true, true, true, false, false, false, false] = [12])
    (f_12_13 : Region.free .any #[o0, o1, o2, o3, o4, o5, o6, o7, o8, o9, o10, o11, o12, o13, o14, o15] #[true, true, true, true, true, true, true, true, true, true, true, true, true, false, false, false] 13 = true) (r_12_13 : (Region.ready .any #[o0, o1, o2, o3, o4, o5, o6, o7, o8, o9, o10, o11, o12, o13, o14, o15] #[true, true, true, true, true, true, true, true, true, true, true, true, true, false, false, false]).contains 13 = true)
    (q12_ : Region.ready .any #[o0, o1, o2, o3, o4, o5, o6, o7, o8, o9, o10, o11, o12, o13, o14, o15] #[true, true, true, true, true, true, true, true, true, true, true, true, true, true, false, false] = [14])
    (f12_14_15 : Region.free .any #[o0, o1, o2, o3, o4, o5, o6, o7, o8, o9, o10, o11, o12, o13, o14, o15] #[true, true, true, true, true, true, true, true, true, true, true, true, true, true, true, false] 15 = true) (r12_14_15 : (Region.ready .any #[o0, o1, o2, o3, o4, o5, o6, o7, o8, o9, o10, o11, o12, o13, o14, o15] #[true, true, true, true, true, true, true, true, true, true, true, true, true, true, true, false]).contains 15 = true)
    (q12_14_ : Region.ready .any #[o0, o1, o2, o3, o4, o5, o6, o7, o8, o9, o10, o11, o12, o13, o14, o15] #[true, true, true, true, true, true, true, true, true, true, true, true, true, true, true, true] = [])
    (g12 : o12.guard = none)    (g14 : o14.guard = none)
    (v0 v1 v2 v3 v4 v5 v6 v7 v8 v9 v10 v11 : Value) (A0 A1 A2 A3 A4 A5 A6 A7 A8 A9 A10 A11 : Act)
    (S : World → Prop)
    (I_ : World → Prop)
    (I12_ : Value → World → Prop)
    (I12_14_ : Value → Value → World → Prop)
    (v13 : Value → Value)
    (v15 : Value → Value)
    (p0 : a.put o0.dst v0 = A0) (hy0 : YieldsIf P #[o0, o1, o2, o3, o4, o5, o6, o7, o8, o9, o10, o11, o12, o13, o14, o15] S o0 v0 a)
    (p1 : A0.put o1.dst v1 = A1) (hy1 : YieldsIf P #[o0, o1, o2, o3, o4, o5, o6, o7, o8, o9, o10, o11, o12, o13, o14, o15] S o1 v1 A0)
    (p2 : A1.put o2.dst v2 = A2) (hy2 : YieldsIf P #[o0, o1, o2, o3, o4, o5, o6, o7, o8, o9, o10, o11, o12, o13, o14, o15] S o2 v2 A1)
    (p3 : A2.put o3.dst v3 = A3) (hy3 : YieldsIf P #[o0, o1, o2, o3, o4, o5, o6, o7, o8, o9, o10, o11, o12, o13, o14, o15] S o3 v3 A2)
    (p4 : A3.put o4.dst v4 = A4) (hy4 : YieldsIf P #[o0, o1, o2, o3, o4, o5, o6, o7, o8, o9, o10, o11, o12, o13, o14, o15] S o4 v4 A3)
    (p5 : A4.put o5.dst v5 = A5) (hy5 : YieldsIf P #[o0, o1, o2, o3, o4, o5, o6, o7, o8, o9, o10, o11, o12, o13, o14, o15] S o5 v5 A4)
    (p6 : A5.put o6.dst v6 = A6) (hy6 : YieldsIf P #[o0, o1, o2, o3, o4, o5, o6, o7, o8, o9, o10, o11, o12, o13, o14, o15] S o6 v6 A5)
    (p7 : A6.put o7.dst v7 = A7) (hy7 : YieldsIf P #[o0, o1, o2, o3, o4, o5, o6, o7, o8, o9, o10, o11, o12, o13, o14, o15] S o7 v7 A6)
    (p8 : A7.put o8.dst v8 = A8) (hy8 : YieldsIf P #[o0, o1, o2, o3, o4, o5, o6, o7, o8, o9, o10, o11, o12, o13, o14, o15] S o8 v8 A7)
    (p9 : A8.put o9.dst v9 = A9) (hy9 : YieldsIf P #[o0, o1, o2, o3, o4, o5, o6, o7, o8, o9, o10, o11, o12, o13, o14, o15] S o9 v9 A8)
    (p10 : A9.put o10.dst v10 = A10) (hy10 : YieldsIf P #[o0, o1, o2, o3, o4, o5, o6, o7, o8, o9, o10, o11, o12, o13, o14, o15] S o10 v10 A9)
    (p11 : A10.put o11.dst v11 = A11) (hy11 : YieldsIf P #[o0, o1, o2, o3, o4, o5, o6, o7, o8, o9, o10, o11, o12, o13, o14, o15] S o11 v11 A10)
    (i0 : I_ w.drew)
    (hIS : (∀ w', I_  w' → S w') ∧ (∀ (u12 : Value) w', I12_ u12 w' → S w') ∧ (∀ (u12 u14 : Value) w', I12_14_ u12 u14 w' → S w'))
    (s_12 : ∀ w', I_  w' → ∀ K : Act → World → Prop, (∀ (u12 : Value) w2, I12_ u12 w2 → K (A11.put o12.dst u12) w2) → o12.wp P A11 w' K (NoPanic Q))
    (s12_14 : ∀ (u12 : Value) w', I12_ u12 w' → ∀ K : Act → World → Prop, (∀ (u14 : Value) w2, I12_14_ u12 u14 w2 → K (((A11.put o12.dst u12).put o13.dst (v13 u12)).put o14.dst u14) w2) → o14.wp P ((A11.put o12.dst u12).put o13.dst (v13 u12)) w' K (NoPanic Q))
    (y_12_13 : ∀ (u12 : Value) w', I12_ u12 w' → YieldsIf P #[o0, o1, o2, o3, o4, o5, o6, o7, o8, o9, o10, o11, o12, o13, o14, o15] S o13 (v13 u12) (A11.put o12.dst u12))
    (y12_14_15 : ∀ (u12 u14 : Value) w', I12_14_ u12 u14 w' → YieldsIf P #[o0, o1, o2, o3, o4, o5, o6, o7, o8, o9, o10, o11, o12, o13, o14, o15] S o15 (v15 u14) (((A11.put o12.dst u12).put o13.dst (v13 u12)).put o14.dst u14))
    (h : ∀ (u12 u14 : Value) w', I12_14_ u12 u14 w' → Q .normal ((((A11.put o12.dst u12).put o13.dst (v13 u12)).put o14.dst u14).put o15.dst (v15 u14)) w') :
    (Code.region id #[o0, o1, o2, o3, o4, o5, o6, o7, o8, o9, o10, o11, o12, o13, o14, o15] true).wp P Q a w := by
  subst p0 p1 p2 p3 p4 p5 p6 p7 p8 p9 p10 p11
  obtain ⟨z_, z12_, z12_14_⟩ := hIS
  refine wp_region_noPanic ?_
  refine wp_region_held_drew (S := S) hm (z_ _ i0) (fun hH => ?_)
  show wpAnyH P .any #[o0, o1, o2, o3, o4, o5, o6, o7, o8, o9, o10, o11, o12, o13, o14, o15] (NoPanic Q) S 16 #[false, false, false, false, false, false, false, false, false, false, false, false, false, false, false, false] a w.drew
  refine wpAnyH_take (i := 0) (oi := o0) rfl hs f0 r0 (fun _ _ _ h => h) hy0 hH ?_
  refine wpAnyH_take (i := 1) (oi := o1) rfl hs f1 r1 (fun _ _ _ h => h) hy1 hH ?_
  refine wpAnyH_take (i := 2) (oi := o2) rfl hs f2 r2 (fun _ _ _ h => h) hy2 hH ?_
  refine wpAnyH_take (i := 3) (oi := o3) rfl hs f3 r3 (fun _ _ _ h => h) hy3 hH ?_
  refine wpAnyH_take (i := 4) (oi := o4) rfl hs f4 r4 (fun _ _ _ h => h) hy4 hH ?_
  refine wpAnyH_take (i := 5) (oi := o5) rfl hs f5 r5 (fun _ _ _ h => h) hy5 hH ?_
  refine wpAnyH_take (i := 6) (oi := o6) rfl hs f6 r6 (fun _ _ _ h => h) hy6 hH ?_
  refine wpAnyH_take (i := 7) (oi := o7) rfl hs f7 r7 (fun _ _ _ h => h) hy7 hH ?_
  refine wpAnyH_take (i := 8) (oi := o8) rfl hs f8 r8 (fun _ _ _ h => h) hy8 hH ?_
  refine wpAnyH_take (i := 9) (oi := o9) rfl hs f9 r9 (fun _ _ _ h => h) hy9 hH ?_
  refine wpAnyH_take (i := 10) (oi := o10) rfl hs f10 r10 (fun _ _ _ h => h) hy10 hH ?_
  refine wpAnyH_take (i := 11) (oi := o11) rfl hs f11 r11 (fun _ _ _ h => h) hy11 hH ?_
  generalize ((((((((((((a.put o0.dst v0).put o1.dst v1).put o2.dst v2).put o3.dst v3).put o4.dst v4).put o5.dst v5).put o6.dst v6).put o7.dst v7).put o8.dst v8).put o9.dst v9).put o10.dst v10).put o11.dst v11) = B at *
  have wa12 : ∀ y, Region.wanted o12 y = true := fun y => by unfold Region.wanted; rw [g12]
  have wa14 : ∀ y, Region.wanted o14 y = true := fun y => by unfold Region.wanted; rw [g14]
  have t12_14_ : ∀ (u12 u14 : Value) w', I12_14_ u12 u14 w' → wpAnyH P .any #[o0, o1, o2, o3, o4, o5, o6, o7, o8, o9, o10, o11, o12, o13, o14, o15] (NoPanic Q) S 0 #[true, true, true, true, true, true, true, true, true, true, true, true, true, true, true, true] ((((B.put o12.dst u12).put o13.dst (v13 u12)).put o14.dst u14).put o15.dst (v15 u14)) w' := by
    intro u12 u14 w0 i0
    exact ⟨q12_14_, NoPanic.normal (h u12 u14 w0 i0)⟩
  have t12_ : ∀ (u12 : Value) w', I12_ u12 w' → wpAnyH P .any #[o0, o1, o2, o3, o4, o5, o6, o7, o8, o9, o10, o11, o12, o13, o14, o15] (NoPanic Q) S 2 #[true, true, true, true, true, true, true, true, true, true, true, true, true, true, false, false] ((B.put o12.dst u12).put o13.dst (v13 u12)) w' := by
    intro u12 w0 i0
    refine wpAnyH_ready (rs := [14]) q12_ (by simp) (AllReadyH.cons (o := o14) rfl (fun K hK => ?_) AllReadyH.nil)
    · rw [if_pos (wa14 _)]
      refine s12_14 u12 w0 i0 K (fun u14 w1 i1 => hK.out _ _ (z12_14_ u12 u14 w1 i1) (fun _ => ?_))
      clear hK
      refine wpAnyH_take (i := 15) (oi := o15) rfl hs f12_14_15 r12_14_15 (fun _ _ _ h => h) (y12_14_15 u12 u14 w1 i1) (z12_14_ u12 u14 w1 i1) ?_
      exact t12_14_ u12 u14 w1 i1
  have t_ : ∀ w', I_  w' → wpAnyH P .any #[o0, o1, o2, o3, o4, o5, o6, o7, o8, o9, o10, o11, o12, o13, o14, o15] (NoPanic Q) S 4 #[true, true, true, true, true, true, true, true, true, true, true, true, false, false, false, false] B w' := by
    intro w0 i0
    refine wpAnyH_ready (rs := [12]) q_ (by simp) (AllReadyH.cons (o := o12) rfl (fun K hK => ?_) AllReadyH.nil)
    · rw [if_pos (wa12 _)]
      refine s_12  w0 i0 K (fun u12 w1 i1 => hK.out _ _ (z12_ u12 w1 i1) (fun _ => ?_))
      clear hK
      refine wpAnyH_take (i := 13) (oi := o13) rfl hs f_12_13 r_12_13 (fun _ _ _ h => h) (y_12_13 u12 w1 i1) (z12_ u12 w1 i1) ?_
      exact t12_ u12 w1 i1
  exact t_ w.drew i0

end
end Go.Proofs.YtecadmldnjlibaaDoor
namespace Go.Proofs.YtecadmldnjlibaaDoor
open Go.RowKit Go.BigFrame
set_option linter.unusedVariables false
set_option linter.unusedSimpArgs false

theorem appendT_nil (lv : Value) (w : World) : Calls Tryd.prog 12 #[.pointer none, lv] w fun e w' => e = .returned (.tuple #[.pointer none, .int .i64 5]) ∧ w' = w := by
  go_enter Tryd.func12, Tryd.ntmps12
  go_wp2
  exact bodyPost_ret (results_tmp2 rfl _ _ _) rfl ⟨rfl, rfl⟩

/-- What Append answers. -/
def AppD (z : Int) (ps : List Pk) (ls : List (List Nat)) (w : World) (e : Ending) (w' : World) : Prop :=
  (ls.all (formB z) = true → ∃ t' v' qs, e = .returned (.tuple #[.pointer (some ⟨t', 0, none⟩), .int .i64 0]) ∧ w.heap.size ≤ t' ∧ TreeAt z w' t' v' qs ∧ leavesK qs = leavesK ps ++ ls ∧ (qs = [] → v' = .slice none 0 0)) ∧
  (ls.all (formB z) = false → e = .returned (.tuple #[.pointer none, .int .i64 3])) ∧ Kept [] w w'
/-- What Append answers, and that its peaks lie in new memory of their own. -/
def AppO (z : Int) (ps : List Pk) (ls : List (List Nat)) (w : World) (e : Ending) (w' : World) : Prop :=
  (ls.all (formB z) = true → ∃ t' v' qs, e = .returned (.tuple #[.pointer (some ⟨t', 0, none⟩), .int .i64 0]) ∧ w.heap.size ≤ t' ∧ TreeAt z w' t' v' qs ∧ leavesK qs = leavesK ps ++ ls ∧ (qs = [] → v' = .slice none 0 0) ∧ w'.ownsRow w.heap.size 75 33 v' qs.length (cellsK qs)) ∧
  (ls.all (formB z) = false → e = .returned (.tuple #[.pointer none, .int .i64 3])) ∧ Kept [] w w'

set_option maxRecDepth 100000 in
set_option maxHeartbeats 1000000 in
theorem appendT_own (z : Int) (t : Nat) (v lv : Value) (ps : List Pk) (ls : List (List Nat)) (w : World) (h : TreeAt z w t v ps) (hnil : ps = [] → v = .slice none 0 0) (hl : RdD w lv ls) (hN : (leavesK ps).length + ls.length ≤ 1000000000) (hT : Tabs w) (h6 : Tab6 w) :
    Calls Tryd.prog 12 #[.pointer (some ⟨t, 0, none⟩), lv] w (AppO z ps ls w) := by
  have hz : 1 ≤ z ∧ z ≤ 32 := by simpa [widthB] using h.wid
  have hz2 : -9223372036854775808 ≤ z ∧ z ≤ 9223372036854775807 := by omega
  have HT := hide h
  have HL := hide hl
  obtain ⟨ao, len, cap, rfl, h1, h2, h3, h4, h5⟩ := hl
  subst h1
  clear h4 h5 h
  have cz := cell_of_row _ _ 0 _ _ _ (unhide HT).row
  simp at cz
  have HTB := hide hT
  have H6B := hide h6
  have HNL := hide hnil
  clear hT h6 hnil
  go_enter Tryd.func12, Tryd.ntmps12
  go_wp2_with fail
  go_loopw [15] (fun t15 wr => ∃ (i : Nat), i ≤ ls.length ∧ t15 = .int .i64 i ∧ Hid ((ls.take i).all (formB z) = true) ∧ Hid (Kept [] w wr)) (fun t _ => ls.length - (intOf t).toNat)
  case atStart => exact ⟨0, Nat.zero_le _, rfl, hide (by simp), hide (Kept.refl _ _)⟩
  case round =>
    obtain ⟨j, hj, rfl, HAJ, HKJ⟩ := hrel
    by_cases hjl : j < ls.length
    · have hjl' : (j : Int) < ls.length := by omega
      obtain ⟨ra, rl, rc, re, r1, r2, r3, r4, r5⟩ := unhide HL
      cases re
      obtain ⟨b, o, rfl, hcell⟩ := r5 (by omega)
      have HD := hide (r4 (ls.getD j []) (by rw [List.getD_eq_getElem?_getD, List.getElem?_eq_getElem hjl]; exact List.getElem_mem hjl))
      have HRG := hide (fun u v hv => (unhide HKJ).cell (hcell j hjl u v hv) (by simp) : wr.rangeAt b (o + j * 32) ((ls.getD j []).map Go.Proofs.YtecadmldnjlibaaDoor.u8))
      have HN := hide (by rw [List.take_succ_eq_append_getElem hjl, List.all_append, unhide HAJ, List.getD_eq_getElem?_getD, List.getElem?_eq_getElem hjl]; simp : (ls.take (j + 1)).all (formB z) = formB z (ls.getD j []))
      have HM := hide (fun (h : formB z (ls.getD j []) = false) => by
        rw [List.all_eq_false]
        exact ⟨ls.getD j [], by rw [List.getD_eq_getElem?_getD, List.getElem?_eq_getElem hjl]; exact List.getElem_mem hjl, by rw [h]; decide⟩ : formB z (ls.getD j []) = false → ls.all (formB z) = false)
      clear hcell r4 r5
      obtain ⟨d, hd⟩ : ∃ d, ls.getD j [] = d := ⟨_, rfl⟩
      rw [hd] at HD HRG HN HM
      clear hd
      have hdl := (unhide HD).1
      have HSZ := hide (by rw [brow_size, hdl]; exact Tryd.size_dig : (Tryd.prog.info? 41).map (·.size) = some (brow d).size)
      have HNW := hide (setRow_heap (wr.alloc (.cells (zb 32) 41)) wr.heap.size (zb 32) (brow d) 41 (0, 0) (heap_alloc_new _ _))
      have HKN := hide (((unhide HKJ).alloc (.cells (zb 32) 41)).setRow (g := wr.heap.size) (Or.inr (unhide HKJ).size) (brow d))
      go_wp2_with (first
        | (refine wpList_load_mid rfl 41 (.tmp 17) rfl b (o + j * 32) rfl (d.map Go.Proofs.YtecadmldnjlibaaDoor.u8) _ (unhide HRG) Tryd.underlying41 rfl (by rw [List.length_map, hdl]; exact Tryd.size_dig) ?_)
        | (rw [zb32]; refine wpList_store_row rfl 41 (.tmp 7) _ rfl wr.heap.size (brow d) rfl rfl _ (zb 32) (heap_alloc_new _ _) (unhide HSZ) (by rw [zb_size, brow_size, hdl]) (brow_one _) ?_))
      obtain ⟨W, hW⟩ : ∃ W, (wr.alloc (.cells (zb 32) 41)).setRow wr.heap.size (brow d) = W := ⟨_, rfl⟩
      rw [hW] at HNW HKN ⊢
      clear hW
      have cz4 := (unhide HKN).cell cz (by simp)
      have HFO := hide (fun w' (hw' : Kept [] W w') => (form_any z d w' hz2 hdl (unhide HD).2).mono (fun e w2 (h2 : _ ∧ _) => (⟨h2.1, hw'.trans h2.2 (by simp)⟩ : _ ∧ Kept [] W w2)))
      cases hf : formB z d with
      | true =>
        rw [hf] at HN HFO
        clear hf
        have hne : ∀ p : Prop, (∀ w', Kept [] W w' → p) = p := fun p => propext ⟨fun h => h W (Kept.refl [] W), fun h _ _ => h⟩
        refine wp_region_keep (by kernel_rfl) (by kernel_rfl) ?_
        iterate 3 (go_big_quiet_step (fail))
        refine wpQuiet_val rfl (.int .i64 z) (fun w' hw' => run_load1 3 (.tmp 21) rfl ⟨t, 0, none⟩ rfl w' _ .i64 Tryd.underlying3 (hw'.cell cz4 (by simp))) ?_
        simp only [Act.put, List.setIfInBounds_toArray, List.set_cons_succ, List.set_cons_zero]
        refine wpQuiet_row rfl 41 (.tmp 7) rfl wr.heap.size rfl _ (brow d) (0, 0) _ (fun w' hw' => hw'.heap (unhide HNW) (by simp)) Tryd.underlying41 rfl (unhide HSZ) ?_
        simp only [Act.put, List.setIfInBounds_toArray, List.set_cons_succ, List.set_cons_zero]
        go_big_quiet_want
        go_big_quiet_op
        apply Exists.intro
        refine ⟨fun w' hw' => ?_, ?_⟩
        · exact unhide HFO w' hw'
        go_big_quiet_on
        repeat (go_big_quiet_step (fail))
        refine wpQuiet_nil ?_
        intro w6 hw6
        have HK6 := hide ((unhide HKN).trans hw6 (by simp))
        clear hw6
        go_wp2_with fail
        refine ⟨⟨j + 1, by omega, by go_num, HN, HK6⟩, ?_⟩
        simp [intOf]; omega
      | false =>
        have HF := hide (unhide HM hf)
        rw [hf] at HFO
        clear hf
        have hne : ∀ p : Prop, (∀ w', Kept [] W w' → p) = p := fun p => propext ⟨fun h => h W (Kept.refl [] W), fun h _ _ => h⟩
        refine wp_region_keep (by kernel_rfl) (by kernel_rfl) ?_
        iterate 3 (go_big_quiet_step (fail))
        refine wpQuiet_val rfl (.int .i64 z) (fun w' hw' => run_load1 3 (.tmp 21) rfl ⟨t, 0, none⟩ rfl w' _ .i64 Tryd.underlying3 (hw'.cell cz4 (by simp))) ?_
        simp only [Act.put, List.setIfInBounds_toArray, List.set_cons_succ, List.set_cons_zero]
        refine wpQuiet_row rfl 41 (.tmp 7) rfl wr.heap.size rfl _ (brow d) (0, 0) _ (fun w' hw' => hw'.heap (unhide HNW) (by simp)) Tryd.underlying41 rfl (unhide HSZ) ?_
        simp only [Act.put, List.setIfInBounds_toArray, List.set_cons_succ, List.set_cons_zero]
        go_big_quiet_want
        go_big_quiet_op
        apply Exists.intro
        refine ⟨fun w' hw' => ?_, ?_⟩
        · exact unhide HFO w' hw'
        go_big_quiet_on
        repeat (go_big_quiet_step (fail))
        refine wpQuiet_nil ?_
        intro w6 hw6
        have HK6 := hide ((unhide HKN).trans hw6 (by simp))
        clear hw6
        go_wp2_with fail
        exact bodyPost_ret (results_tmp2 rfl _ _ _) rfl ⟨fun h => absurd h (by rw [unhide HF]; decide), fun _ => rfl, unhide HK6⟩
    · have hjl' : ¬ (j : Int) < ls.length := by omega
      have hje : j = ls.length := by omega
      subst hje
      rw [List.take_length] at HAJ
      go_wp2_with fail
      have hN0 : (leavesK ps).length ≤ 1000000000 := by omega
      obtain ⟨va, vn, vc, rfl⟩ : ∃ a n c, v = .slice a n c := by obtain ⟨a, c, h9, _⟩ := (unhide HT).rd; exact ⟨_, _, _, h9⟩
      have c0 := (unhide HKJ).cell cz (by simp)
      have c1 : wr.cell? ⟨t, 1, none⟩ = some (.int .u64 ((leavesK ps).length : Int)) := (unhide HKJ).cell (by have := cell_of_row _ _ 1 _ _ _ (unhide HT).row; simpa using this) (by simp)
      have c2 : wr.cell? ⟨t, 2, none⟩ = some (.slice va vn vc) := (unhide HKJ).cell (by have := cell_of_row _ _ 2 _ _ _ (unhide HT).row; simpa using this) (by simp)
      have hpl : ps.length ≤ 1000000000 := by
        have h8 := len_le_sum (ps.reverse.map (·.h)); rw [← leavesK_len (unhide HT).pk.ok] at h8; simp at h8; omega
      have HCL := hide (fun w' (k : Kept [] wr w') => cloneK_any z (.slice va vn vc) ps w' (((unhide HT).rd.old (unhide HKJ)).old k) (((unhide HT).pk.old (unhide HKJ)).old k) (unhide HNL) hpl)
      refine wp_ap16 (by kernel_rfl) (by kernel_rfl) (by kernel_rfl) (by kernel_rfl) (by kernel_rfl) (by kernel_rfl) (by kernel_rfl) (by kernel_rfl) (by kernel_rfl) (by kernel_rfl) (by kernel_rfl) (by kernel_rfl) (by kernel_rfl) (by kernel_rfl) (by kernel_rfl) (by kernel_rfl) (by kernel_rfl) (by kernel_rfl) (by kernel_rfl) (by kernel_rfl) (by kernel_rfl) (by kernel_rfl) (by kernel_rfl) (by kernel_rfl) (by kernel_rfl) (by kernel_rfl) (by kernel_rfl) (by kernel_rfl) (by kernel_rfl) (by kernel_rfl) (by kernel_rfl) (by kernel_rfl) (by kernel_rfl) rfl rfl
        (.pointer (some ⟨t, 0, none⟩)) (.pointer (some ⟨t, 0, none⟩)) (.pointer (some ⟨t, 0, none⟩)) (.int .i64 z) (.pointer (some ⟨t, 0, none⟩)) (.pointer (some ⟨t, 0, none⟩)) (.pointer (some ⟨t, 1, none⟩)) (.int .u64 ((leavesK ps).length : Int)) (.pointer (some ⟨t, 0, none⟩)) (.pointer (some ⟨t, 0, none⟩)) (.pointer (some ⟨t, 2, none⟩)) (.slice va vn vc) _ _ _ _ _ _ _ _ _ _ _ _
        (fun w' => Kept [] wr w')
        (fun w' => Kept [] wr w')
        (fun u w' => (∃ a n c, u = .slice a n c ∧ w'.ownsRow wr.heap.size 75 33 (.slice a n c) ps.length (cellsK ps) ∧ (ps = [] → Value.slice a n c = .slice none 0 0)) ∧ Kept [] wr w')
        (fun u x w' => (∃ a n c t', u = .slice a n c ∧ w'.ownsRow wr.heap.size 75 33 (.slice a n c) ps.length (cellsK ps) ∧ (ps = [] → Value.slice a n c = .slice none 0 0) ∧ x = .pointer (some ⟨t', 0, none⟩) ∧ wr.heap.size ≤ t' ∧ w'.heap[t']? = some (.cells #[.int .i64 z, .int .u64 ((leavesK ps).length : Int), .slice a n c] 65 (0, 0))) ∧ Kept [] wr w')
        (fun u => .agg #[.int .i64 z, .int .u64 ((leavesK ps).length : Int), u]) (fun x => x)
        (by simp only [Act.put, List.setIfInBounds_toArray, List.set_cons_zero, List.set_cons_succ]; rfl) (by exact Or.inl ⟨by rfl, fun W' hW' => by go_simp⟩)
        (by simp only [Act.put, List.setIfInBounds_toArray, List.set_cons_zero, List.set_cons_succ]; rfl) (by exact Or.inl ⟨by rfl, fun W' hW' => by go_simp⟩)
        (by simp only [Act.put, List.setIfInBounds_toArray, List.set_cons_zero, List.set_cons_succ]; rfl) (by exact Or.inl ⟨by rfl, fun W' hW' => by go_simp⟩)
        (by simp only [Act.put, List.setIfInBounds_toArray, List.set_cons_zero, List.set_cons_succ]; rfl) (by exact Or.inl ⟨by rfl, fun W' hW' => by have h9 := hW'.cell c0 (by simp); go_simp⟩)
        (by simp only [Act.put, List.setIfInBounds_toArray, List.set_cons_zero, List.set_cons_succ]; rfl) (by exact Or.inl ⟨by rfl, fun W' hW' => by go_simp⟩)
        (by simp only [Act.put, List.setIfInBounds_toArray, List.set_cons_zero, List.set_cons_succ]; rfl) (by exact Or.inl ⟨by rfl, fun W' hW' => by go_simp⟩)
        (by simp only [Act.put, List.setIfInBounds_toArray, List.set_cons_zero, List.set_cons_succ]; rfl) (by exact Or.inl ⟨by rfl, fun W' hW' => by go_simp⟩)
        (by simp only [Act.put, List.setIfInBounds_toArray, List.set_cons_zero, List.set_cons_succ]; rfl) (by exact Or.inl ⟨by rfl, fun W' hW' => by have h9 := hW'.cell c1 (by simp); go_simp⟩)
        (by simp only [Act.put, List.setIfInBounds_toArray, List.set_cons_zero, List.set_cons_succ]; rfl) (by exact Or.inl ⟨by rfl, fun W' hW' => by go_simp⟩)
        (by simp only [Act.put, List.setIfInBounds_toArray, List.set_cons_zero, List.set_cons_succ]; rfl) (by exact Or.inl ⟨by rfl, fun W' hW' => by go_simp⟩)
        (by simp only [Act.put, List.setIfInBounds_toArray, List.set_cons_zero, List.set_cons_succ]; rfl) (by exact Or.inl ⟨by rfl, fun W' hW' => by go_simp⟩)
        (by simp only [Act.put, List.setIfInBounds_toArray, List.set_cons_zero, List.set_cons_succ]; rfl) (by exact Or.inl ⟨by rfl, fun W' hW' => by have h9 := hW'.cell c2 (by simp); go_simp⟩)
        (Kept.refl [] wr).drew
        ⟨fun w' h => h, fun u w' h => h.2, fun u x w' h => h.2⟩
        (by intro w' i K hK; refine wp_callN rfl Tryd.call35 [.slice va vn vc] rfl (unhide HCL w' i) ?_; rintro e w2 ⟨v', rfl, ho, hn, k2⟩; obtain ⟨a, n, c, rfl⟩ : ∃ a n c, v' = .slice a n c := by (rcases ho.2 with ⟨h9, _⟩ | ⟨g, cp, cur, h9, _⟩ <;> exact ⟨_, _, _, h9⟩)
            exact ⟨_, rfl, hK _ _ ⟨⟨a, n, c, rfl, owns_baseK ho i.size, hn⟩, i.trans k2 (by simp)⟩⟩)
        (by
          intro u w' hh K hK
          simp only [Act.put, List.setIfInBounds_toArray, List.set_cons_zero, List.set_cons_succ] at hK ⊢
          obtain ⟨⟨a, n, c, rfl, ho, hn⟩, i⟩ := hh
          unfold Oper.wp execOp
          go_simp
          exact hK _ _ ⟨⟨a, n, c, _, rfl, ((Kept.refl [] w').alloc _).owns ho (by simp), hn, rfl, i.size, heap_alloc_new _ _⟩, i.alloc _⟩)
        (by rintro u w' ⟨⟨a, n, c, rfl, _⟩, _⟩; exact Or.inl ⟨by rfl, fun W' hW' => by unfold execOp; go_simp⟩)
        (by rintro u x w' ⟨⟨a, n, c, t', rfl, _, _, rfl, _⟩, _⟩; exact Or.inl ⟨by rfl, fun W' hW' => by go_simp⟩)
        ?_
      rintro u x Y ⟨⟨a, n, c, t', rfl, ho, hn, rfl, ht', hrow⟩, kY⟩
      simp only [Act.put, List.setIfInBounds_toArray, List.set_cons_zero, List.set_cons_succ]
      have HO := hide ho
      have HNN := hide hn
      have HRW := hide hrow
      have HKY := hide ((unhide HKJ).trans kY (by simp))
      have HPK := hide ((unhide HT).pk.old ((unhide HKJ).trans kY (by simp)))
      have hszw := (unhide HKJ).size
      clear ho hn hrow kY HCL c0 c1 c2
      go_wp2_with fail
      have HI0 := hide (⟨by simpa using unhide HRW, unhide HO, unhide HPK, by simp, unhide HNN, unhide HKY, hszw, Nat.le_trans hszw ht', by have := (unhide HO).lt; have := lt_of_block (unhide HRW); omega⟩ : AppI z ps ls w t' wr.heap.size 0 (.slice a n c) ps Y)
      have hwid := hide (unhide HT).wid
      clear HO HNN HRW HKY HPK hpl HNL
      obtain ⟨base, hbase⟩ : ∃ base, base = wr.heap.size := ⟨_, rfl⟩
      rw [← hbase] at HI0
      clear hszw ht' hbase
      go_loopw [44] (fun t44 wq => ∃ (i : Nat) (v' : Value) (qs : List Pk), i ≤ ls.length ∧ t44 = .int .i64 i ∧ Hid (AppI z ps ls w t' base i v' qs wq)) (fun t _ => ls.length - (intOf t).toNat)
      case atStart => exact ⟨0, _, _, Nat.zero_le _, rfl, HI0⟩
      case round =>
        obtain ⟨i, v', qs, hi, rfl, HI⟩ := hrel
        by_cases hil : i < ls.length
        · have hil' : (i : Int) < ls.length := by omega
          obtain ⟨ra, rl, rc, re, r1, r2, r3, r4, r5⟩ := unhide HL
          cases re
          obtain ⟨b, o, rfl, hcell⟩ := r5 (by omega)
          have hmem : ls.getD i [] ∈ ls := by rw [List.getD_eq_getElem?_getD, List.getElem?_eq_getElem hil]; exact List.getElem_mem hil
          have HD := hide (r4 (ls.getD i []) hmem)
          have HFD := hide (List.all_eq_true.1 (unhide HAJ) _ hmem)
          have HRG := hide (fun u v hv => (unhide HI).kept.cell (hcell i hil u v hv) (by simp) : wr.rangeAt b (o + i * 32) ((ls.getD i []).map Go.Proofs.YtecadmldnjlibaaDoor.u8))
          clear hcell r4 r5 hmem
          obtain ⟨d, hd⟩ : ∃ d, ls.getD i [] = d := ⟨_, rfl⟩
          have HDD := hide hd
          rw [hd] at HD HRG HFD
          clear hd
          have hdl := (unhide HD).1
          have HSZ := hide (by rw [brow_size, hdl]; exact Tryd.size_dig : (Tryd.prog.info? 41).map (·.size) = some (brow d).size)
          have HNW := hide (setRow_heap (wr.alloc (.cells (zb 32) 41)) wr.heap.size (zb 32) (brow d) 41 (0, 0) (heap_alloc_new _ _))
          have HKN := hide (((Kept.refl [] wr).alloc (.cells (zb 32) 41)).setRow (g := wr.heap.size) (Or.inr (Nat.le_refl _)) (brow d))
          go_wp2_with (first
            | (refine wpList_load_mid rfl 41 (.tmp 46) rfl b (o + i * 32) rfl (d.map Go.Proofs.YtecadmldnjlibaaDoor.u8) _ (unhide HRG) Tryd.underlying41 rfl (by rw [List.length_map, hdl]; exact Tryd.size_dig) ?_)
            | (rw [zb32]; refine wpList_store_row rfl 41 (.tmp 10) _ rfl wr.heap.size (brow d) rfl rfl _ (zb 32) (heap_alloc_new _ _) (unhide HSZ) (by rw [zb_size, brow_size, hdl]) (brow_one _) ?_)
            | (refine wpList_load_row rfl 41 (.tmp 10) rfl wr.heap.size rfl _ (brow d) (0, 0) _ (unhide HNW) Tryd.underlying41 rfl (unhide HSZ) ?_))
          obtain ⟨W, hW⟩ : ∃ W, (wr.alloc (.cells (zb 32) 41)).setRow wr.heap.size (brow d) = W := ⟨_, rfl⟩
          rw [hW] at HKN ⊢
          clear hW HNW
          refine Calls.mono (push_any z t' ((leavesK ps).length + i) base v' qs d W ((unhide HKN).heap (unhide HI).row (by simp)) ((unhide HKN).owns (unhide HI).own (by simp)) ((unhide HI).pk.old (unhide HKN)) ((unhide HI).len hi) (by omega) (Nat.le_trans (unhide HI).br (unhide HKN).size) (unhide hwid) ((unhide HI).far (unhide HTB) (unhide H6B)) ⟨hdl, (unhide HD).2⟩ (unhide HFD) ((unhide HTB).kept ((unhide HI).kept.trans (unhide HKN) (by simp)) (by simp) (by simp)) ((unhide H6B).kept ((unhide HI).kept.trans (unhide HKN) (by simp)))) ?_
          rintro e w4 ⟨rfl, hpd⟩
          obtain ⟨v2, rs, hi2⟩ := (unhide HI).step hil (unhide HKN) (by rw [unhide HDD]; exact hpd)
          have HI2 := hide hi2
          clear hpd hi2 HI HKN
          go_wp2_with fail
          refine ⟨⟨i + 1, _, _, by omega, by go_num, HI2⟩, ?_⟩
          simp [intOf]; omega
        · have hil' : ¬ (i : Int) < ls.length := by omega
          have hie : i = ls.length := by omega
          subst hie
          have HF := hide ((unhide HI).fin (unhide hwid))
          go_wp2_with fail
          exact bodyPost_ret (results_tmp2 rfl _ _ _) rfl ⟨fun _ => ⟨t', v', qs, rfl, (unhide HI).bt, (unhide HF).1, (unhide HF).2, (unhide HI).nil, owns_baseK (unhide HI).own (unhide HI).bw⟩, fun h => absurd h (by rw [unhide HAJ]; decide), (unhide HI).kept⟩

theorem appendT_any (z : Int) (t : Nat) (v lv : Value) (ps : List Pk) (ls : List (List Nat)) (w : World) (h : TreeAt z w t v ps) (hnil : ps = [] → v = .slice none 0 0) (hl : RdD w lv ls) (hN : (leavesK ps).length + ls.length ≤ 1000000000) (hT : Tabs w) (h6 : Tab6 w) :
    Calls Tryd.prog 12 #[.pointer (some ⟨t, 0, none⟩), lv] w (AppD z ps ls w) :=
  (appendT_own z t v lv ps ls w h hnil hl hN hT h6).mono fun e w' h9 => ⟨fun ha => by
    obtain ⟨t', v', qs, h1, h2, h3, h4, h5, _⟩ := h9.1 ha
    exact ⟨t', v', qs, h1, h2, h3, h4, h5⟩, h9.2⟩

end Go.Proofs.YtecadmldnjlibaaDoor
namespace Go.Proofs.YtecadmldnjlibaaDoor
open Go.RowKit Go.BigFrame
set_option linter.unusedVariables false
set_option linter.unusedSimpArgs false

def d7 : List Nat := 7 :: List.replicate 31 0
def d9 : List Nat := 9 :: List.replicate 31 0
theorem d7_dg : Dg d7 := ⟨rfl, by decide⟩
theorem d9_dg : Dg d9 := ⟨rfl, by decide⟩
theorem d79_form : [d7, d9].all (formB 1) = true := by decide +kernel
theorem rg79 : rgD 1 [d7, d9] 0 2 = nodS 1 d7 d9 := by
  unfold rgD
  rw [if_neg (by decide)]
  rw [rngD_cut (by decide) (by decide)]
  rfl

set_option maxRecDepth 100000 in
set_option maxHeartbeats 1000000 in
theorem mtawake_any (w : World) (hT : Tabs w) (h6 : Tab6 w) :
    Calls Tryd.prog 8 #[] w fun e w' => e = .returned (.bool true) ∧ Kept [] w w' := by
  have HTB := hide hT
  have H6 := hide h6
  clear hT h6
  go_enter Tryd.func8, Tryd.ntmps8
  go_wp2_with fail
  refine (newT_any 1 w (by decide)).mono ?_
  rintro e w1 ⟨t, rfl, ht, htr, k1⟩
  have HT1 := hide htr
  have HK1 := hide k1
  clear htr k1 ht
  go_wp2_with fail
  have HG := hide (heap_alloc_new w1 (.cells (d7.map Go.Proofs.YtecadmldnjlibaaDoor.u8 ++ d9.map Go.Proofs.YtecadmldnjlibaaDoor.u8).toArray 41))
  have kA := (Kept.refl [] w1).alloc (.cells (d7.map Go.Proofs.YtecadmldnjlibaaDoor.u8 ++ d9.map Go.Proofs.YtecadmldnjlibaaDoor.u8).toArray 41)
  have kB := (unhide HK1).trans kA (by simp)
  refine Calls.mono (appendT_any 1 t (.slice none 0 0) (.slice (some ⟨w1.heap.size, 0, none⟩) 2 2) [] [d7, d9] (w1.alloc (.cells (d7.map Go.Proofs.YtecadmldnjlibaaDoor.u8 ++ d9.map Go.Proofs.YtecadmldnjlibaaDoor.u8).toArray 41)) ((unhide HT1).old kA) (fun _ => rfl) (RdD.two (unhide HG) d7_dg.1 d9_dg.1 d7_dg.2 d9_dg.2) (by decide) ((unhide HTB).kept kB (by simp) (by simp)) ((unhide H6).kept kB)) ?_
  rintro e w2 ⟨ha, _, k2⟩
  obtain ⟨t2, v2, qs, rfl, ht2, htr2, hlv, _⟩ := ha d79_form
  have hlv2 : leavesK qs = [d7, d9] := hlv
  have HT2 := hide htr2
  have HT1b := hide (((unhide HT1).old kA).old k2)
  have HK2 := hide (kB.trans k2 (by simp))
  have HLV := hide hlv2
  clear htr2 k2 ha hlv hlv2 HG kA kB HK1 HT1 ht2
  have HL1 := hide (by rw [unhide HLV]; rfl : ((leavesK qs).length : Int) = 2)
  have HB := hide (by rw [unhide HLV]; decide : (leavesK qs).length < 32768)
  go_wp2_with fail
  refine (sizeT_any t2 1 v2 qs w2 (unhide HT2)).mono ?_
  rintro e _ ⟨rfl, rfl⟩
  rw [unhide HL1]
  go_wp2_with fail
  refine (sizeT_any t 1 (.slice none 0 0) [] _ (unhide HT1b)).mono ?_
  rintro e _ ⟨rfl, rfl⟩
  rw [show ((leavesK []).length : Int) = 0 from rfl]
  go_wp2_with fail
  refine (widthT_any t2 1 v2 qs _ (unhide HT2)).mono ?_
  rintro e _ ⟨rfl, rfl⟩
  go_wp2_with fail
  refine (leafT_all 1 t2 v2 qs 1 _ (unhide HT2) (unhide HB)).mono ?_
  rintro e w3 ⟨rfl, k3⟩
  rw [show lfD (leavesK qs) 1 = d9 from by rw [unhide HLV]; rfl, show lfE (leavesK qs) 1 = 0 from by rw [unhide HLV]; rfl]
  have HT3 := hide ((unhide HT2).old k3)
  have HK3 := hide ((unhide HK2).trans k3 (by simp))
  clear k3 HT2 HT1b HK2
  have HN3 := hide (cell_new w3 d9)
  have HO3 := hide (kept_old w3 d9)
  have h9l : d9.length = 32 := rfl
  go_wp2_with (rw [zb32]; refine wpList_store_row rfl 41 (.tmp 5) _ rfl w3.heap.size (brow d9) rfl rfl _ (zb 32) (heap_alloc_new _ _) (Tryd.szD h9l) rfl (brow_one _) ?_)
  obtain ⟨w4, hw4⟩ : ∃ w4, (w3.alloc (.cells (zb 32) 41)).setRow w3.heap.size (brow d9) = w4 := ⟨_, rfl⟩
  rw [hw4] at HN3 HO3 ⊢
  clear hw4
  have HT4 := hide ((unhide HT3).old (unhide HO3))
  have HK4 := hide ((unhide HK3).trans (unhide HO3) (by simp))
  refine (rootT_all 1 t2 v2 qs 2 _ (unhide HT4) (unhide HB) ((unhide HTB).kept (unhide HK4) (by simp) (by simp)) ((unhide H6).kept (unhide HK4))).mono ?_
  rintro e w5 ⟨rfl, k5⟩
  rw [show rgD 1 (leavesK qs) 0 2 = nodS 1 d7 d9 from by rw [unhide HLV]; exact rg79, show rgE (leavesK qs) 0 2 = 0 from by rw [unhide HLV]; rfl]
  have HR := hide (fun W => refNode_any 1 d7 d9 W (by omega) d7_dg d9_dg)
  have hnl := (nodS_dg 1 d7 d9).1
  have HR2 := hide (fun W => (unhide HR W : Calls Tryd.prog 30 #[.int .i64 1, .agg (brow d7), .agg (brow d9)] W fun e w' => e = .returned (.agg (brow (nodS 1 d7 d9))) ∧ Kept [] W w'))
  generalize nodS 1 d7 d9 = D at HR2 hnl ⊢
  have HN5 := hide (k5.heap (unhide HN3) (by simp))
  have HK5 := hide ((unhide HK4).trans k5 (by simp))
  clear k5 HR HN3 HO3 HT3 HT4 HK4
  have HN6 := hide (cell_new w5 D)
  have HO6 := hide (kept_old w5 D)
  go_wp2_with (rw [zb32]; refine wpList_store_row rfl 41 (.tmp 7) _ rfl w5.heap.size (brow D) rfl rfl _ (zb 32) (heap_alloc_new _ _) (Tryd.szD hnl) (by rw [zb_size, brow_size, hnl]) (brow_one _) ?_)
  obtain ⟨w6, hw6⟩ : ∃ w6, (w5.alloc (.cells (zb 32) 41)).setRow w5.heap.size (brow D) = w6 := ⟨_, rfl⟩
  rw [hw6] at HN6 HO6 ⊢
  clear hw6
  have HM6 := hide ((unhide HO6).heap (unhide HN5) (by simp))
  have HK6 := hide ((unhide HK5).trans (unhide HO6) (by simp))
  clear HN5 HK5 HO6
  have hne : ∀ p : Prop, (∀ w', Kept [] w6 w' → p) = p := fun p => propext ⟨fun h => h w6 (Kept.refl [] w6), fun h _ _ => h⟩
  refine wp_region_keep (by kernel_rfl) (by kernel_rfl) ?_
  iterate 3 (go_big_quiet_step (fail))
  have HCT := hide (fun w' (hw' : Kept [] w6 w') => (unhide HR2 w').mono (fun e w2 (h2 : _ ∧ _) => (⟨h2.1, hw'.trans h2.2 (by simp)⟩ : _ ∧ Kept [] w6 w2)))
  refine wpQuiet_row rfl 41 (.tmp 5) rfl w3.heap.size rfl _ (brow d9) (0, 0) _ (fun w' hw' => hw'.heap (unhide HM6) (by simp)) Tryd.underlying41 rfl (Tryd.szD h9l) ?_
  simp only [Act.put, List.setIfInBounds_toArray, List.set_cons_succ, List.set_cons_zero]
  go_big_quiet_step (fail)
  refine wpQuiet_val rfl (.bool true) (fun w' _ => run_eql 41 (.tmp 61) (.tmp 62) 41 rfl (brow d9) (brow d9) rfl rfl w' true (by kernel_rfl) (by rw [dig_eq w' d9 d9 rfl rfl]; simp)) ?_
  simp only [Act.put, List.setIfInBounds_toArray, List.set_cons_succ, List.set_cons_zero]
  iterate 6 (go_big_quiet_step (fail))
  refine wpQuiet_row rfl 41 (.tmp 7) rfl w5.heap.size rfl _ (brow D) (0, 0) _ (fun w' hw' => hw'.heap (unhide HN6) (by simp)) Tryd.underlying41 rfl (Tryd.szD hnl) ?_
  simp only [Act.put, List.setIfInBounds_toArray, List.set_cons_succ, List.set_cons_zero]
  iterate 2 (go_big_quiet_step (fail))
  go_big_quiet_want
  go_big_quiet_op
  apply Exists.intro
  refine ⟨fun w' hw' => ?_, ?_⟩
  · exact unhide HCT w' hw'
  go_big_quiet_on
  refine wpQuiet_val rfl (.bool true) (fun w' _ => run_eql 41 (.tmp 70) (.tmp 73) 41 rfl (brow D) (brow D) rfl rfl w' true (by kernel_rfl) (by rw [dig_eq w' D D hnl hnl]; simp)) ?_
  simp only [Act.put, List.setIfInBounds_toArray, List.set_cons_succ, List.set_cons_zero]
  repeat (go_big_quiet_step (fail))
  refine wpQuiet_nil ?_
  intro w7 hw7
  have HK7 := hide ((unhide HK6).trans hw7 (by simp))
  clear hw7 hne
  go_wp2_with fail
  go_ret
  exact ⟨rfl, unhide HK7⟩
end Go.Proofs.YtecadmldnjlibaaDoor
namespace Go.Proofs.YtecadmldnjlibaaDoor
open Go.RowKit Go.BigFrame
set_option linter.unusedVariables false
set_option linter.unusedSimpArgs false

set_option maxRecDepth 100000 in
set_option maxHeartbeats 1000000 in
theorem reads_any (k : Nat) (hk : 1 ≤ k ∧ k ≤ 32) (t : Nat) (v lv : Value) (ps : List Pk) (w : World) (hT : TreeAt k w t v ps) (hl : RdD w lv (leavesK ps)) (hb : (leavesK ps).length < 4000) (hTb : Tabs w) (h6 : Tab6 w) :
    Calls Tryd.prog 11 #[.pointer (some ⟨t, 0, none⟩), .int .i64 k, lv] w fun e w' => e = .returned (.bool true) ∧ Kept [] w w' := by
  have HT := hide hT
  have HL := hide hl
  have HTB := hide hTb
  have H6 := hide h6
  have HPK := hide hT.pk
  obtain ⟨ao, len, cap, rfl, h1, h2, h3, h4, h5⟩ := hl
  obtain ⟨n, hn⟩ : ∃ n, (leavesK ps).length = n := ⟨_, rfl⟩
  have hnl : len = n := by rw [← h1, hn]
  subst hnl
  have HN := hide hn
  rw [hn] at hb
  have hwn : IntKind.u64.wrap (len : Int) = (len : Int) := by rw [wrU]; omega
  clear h4 h5 hT hTb h6 h1 hn
  go_enter Tryd.func11, Tryd.ntmps11
  go_wp2_with (simp only [hwn])
  refine (widthT_any t k v ps w (unhide HT)).mono ?_
  rintro e _ ⟨rfl, rfl⟩
  go_wp2_with fail
  refine (sizeT_any t k v ps _ (unhide HT)).mono ?_
  rintro e w0 ⟨rfl, rfl⟩
  rw [unhide HN]
  go_wp2_with fail
  have hn2 : IntKind.u64.wrap ((len : Int) + 2) = (len : Int) + 2 := by rw [wrU]; omega
  go_loopw [8] (fun t8 wr => ∃ (i : Nat), i ≤ len + 2 ∧ t8 = .int .u64 (i : Int) ∧ Hid (Kept [] w0 wr)) (fun t _ => len + 2 - (intOf t).toNat)
  case atStart => exact ⟨0, by omega, rfl, hide (Kept.refl _ _)⟩
  case round =>
    obtain ⟨i, hi, rfl, HKR⟩ := hrel
    by_cases hlt : i < len + 2
    · have hlt' : (i : Int) < (len : Int) + 2 := by omega
      have hadd : IntKind.u64.wrap ((i : Int) + 1) = ((i + 1 : Nat) : Int) := by rw [wrU]; omega
      have hdl := (lfD_dg (unhide HPK) i).1
      have HLF := hide (fun W (kk : Kept [] w0 W) => leafT_all k t v ps i W ((unhide HT).old kk) (by rw [unhide HN]; omega))
      have HDL := hide (fun W (kk : Kept [] w0 W) => docLeaf_all (.slice ao len cap) (leavesK ps) i W ((unhide HL).old kk) (by rw [unhide HN]; omega))
      generalize lfD (leavesK ps) i = D at HLF HDL hdl
      generalize lfE (leavesK ps) i = E at HLF HDL
      have hqd : ∀ W, (Op.equalIn 10000 41 (.agg (brow D)) (.agg (brow D))).run Tryd.prog W = .ok true W := dig_same D hdl
      go_wp2_with (simp only [hn2])
      refine (unhide HLF wr (unhide HKR)).mono ?_
      rintro e w3 ⟨rfl, k3⟩
      have HK3 := hide ((unhide HKR).trans k3 (by simp))
      clear k3
      have HN3 := hide (cell_new w3 D)
      have HO3 := hide (kept_old w3 D)
      go_wp2_with (rw [zb32]; refine wpList_store_row rfl 41 (.tmp 9) _ rfl w3.heap.size (brow D) rfl rfl _ (zb 32) (heap_alloc_new _ _) (Tryd.szD hdl) (by rw [zb_size, brow_size, hdl]) (brow_one _) ?_)
      obtain ⟨w4, hw4⟩ : ∃ w4, (w3.alloc (.cells (zb 32) 41)).setRow w3.heap.size (brow D) = w4 := ⟨_, rfl⟩
      rw [hw4] at HN3 HO3 ⊢
      clear hw4
      have HK4 := hide ((unhide HK3).trans (unhide HO3) (by simp))
      refine (unhide HDL w4 (unhide HK4)).mono ?_
      rintro e w5 ⟨rfl, k5⟩
      have HN5 := hide (k5.heap (unhide HN3) (by simp))
      have HK5 := hide ((unhide HK4).trans k5 (by simp))
      clear k5 HN3 HO3 HK4 HK3
      have HN6 := hide (cell_new w5 D)
      have HO6 := hide (kept_old w5 D)
      have HM6 := hide ((unhide HO6).heap (unhide HN5) (by simp))
      have HK6 := hide ((unhide HK5).trans (unhide HO6) (by simp))
      go_wp2_with (first
        | (rw [zb32]; refine wpList_store_row rfl 41 (.tmp 11) _ rfl w5.heap.size (brow D) rfl rfl _ (zb 32) (heap_alloc_new _ _) (Tryd.szD hdl) (by rw [zb_size, brow_size, hdl]) (brow_one _) ?_)
        | (refine wpList_load_row rfl 41 (.tmp 9) rfl w3.heap.size rfl _ (brow D) (0, 0) _ (unhide HM6) Tryd.underlying41 rfl (Tryd.szD hdl) ?_)
        | (refine wpList_load_row rfl 41 (.tmp 11) rfl w5.heap.size rfl _ (brow D) (0, 0) _ (unhide HN6) Tryd.underlying41 rfl (Tryd.szD hdl) ?_))
      go_wp2_with (simp only [hadd])
      refine ⟨⟨i + 1, by omega, by simp, HK6⟩, ?_⟩
      simp [intOf]
      omega
    · have hlt' : ¬ (i : Int) < (len : Int) + 2 := by omega
      go_wp2_with (simp only [hn2])
      have HG0 := hide (heap_alloc_new wr (.cells #[.int .u64 0, .int .u64 1, .int .u64 ((len : Int) / 2), .int .u64 (IntKind.u64.wrap ((len : Int) - 1)), .int .u64 (len : Int), .int .u64 ((len : Int) + 1), .int .u64 18446744073709551615] 49))
      have HKW := hide ((unhide HKR).alloc (.cells #[.int .u64 0, .int .u64 1, .int .u64 ((len : Int) / 2), .int .u64 (IntKind.u64.wrap ((len : Int) - 1)), .int .u64 (len : Int), .int .u64 ((len : Int) + 1), .int .u64 18446744073709551615] 49))
      obtain ⟨W2, hW2⟩ : ∃ W2, wr.alloc (.cells #[.int .u64 0, .int .u64 1, .int .u64 ((len : Int) / 2), .int .u64 (IntKind.u64.wrap ((len : Int) - 1)), .int .u64 (len : Int), .int .u64 ((len : Int) + 1), .int .u64 18446744073709551615] 49) = W2 := ⟨_, rfl⟩
      rw [hW2] at HG0 HKW ⊢
      have HAT := hide (fun j (hj : j < 7) => (by
        have h9 := cell_of_row _ _ j _ _ _ (unhide HG0)
        rw [h9]
        rcases (by omega : j = 0 ∨ j = 1 ∨ j = 2 ∨ j = 3 ∨ j = 4 ∨ j = 5 ∨ j = 6) with rfl | rfl | rfl | rfl | rfl | rfl | rfl
        · exact ⟨0, rfl, by omega⟩
        · exact ⟨1, rfl, by omega⟩
        · exact ⟨len / 2, by simp, by omega⟩
        · refine ⟨(IntKind.u64.wrap ((len : Int) - 1)).toNat, ?_, ?_⟩
          · rw [wrU, Int.toNat_of_nonneg (by omega)]; rfl
          · rw [wrU]; omega
        · exact ⟨len, rfl, by omega⟩
        · exact ⟨len + 1, by simp, by omega⟩
        · exact ⟨18446744073709551615, rfl, by omega⟩ : ∃ a : Nat, W2.cell? ⟨wr.heap.size, j, none⟩ = some (.int .u64 (a : Int)) ∧ a < 18446744073709551616))
      obtain ⟨g, hg⟩ : ∃ g, wr.heap.size = g := ⟨_, rfl⟩
      rw [hg] at HAT ⊢
      clear hW2 HG0 hg HKR
      go_loopw [71] (fun t71 wq => ∃ (j : Nat), j ≤ 7 ∧ t71 = .int .i64 (j : Int) ∧ Hid (Kept [] W2 wq)) (fun t _ => 7 - (intOf t).toNat)
      case atStart => exact ⟨0, by omega, rfl, hide (Kept.refl _ _)⟩
      case round =>
        obtain ⟨j, hj, rfl, HKQ⟩ := hrel
        by_cases hjl : j < 7
        · have hjl' : (j : Int) < 7 := by omega
          obtain ⟨a, hca, ha⟩ := unhide HAT j hjl
          have hca2 := (unhide HKQ).cell hca (by simp)
          have HKR := hide (unhide HKQ)
          have hdl := (rgD_len (unhide HPK) 0 a).1
          have HLF := hide (fun W (kk : Kept [] W2 W) => rootT_all k t v ps a W ((unhide HT).old ((unhide HKW).trans kk (by simp))) (by rw [unhide HN]; omega) ((unhide HTB).kept ((unhide HKW).trans kk (by simp)) (by simp) (by simp)) ((unhide H6).kept ((unhide HKW).trans kk (by simp))))
          have HDL := hide (fun W (kk : Kept [] W2 W) => docRange_all k hk (.slice ao len cap) (leavesK ps) 0 a W ((unhide HL).old ((unhide HKW).trans kk (by simp))) (by rw [unhide HN]; omega))
          generalize rgD k (leavesK ps) 0 a = D at HLF HDL hdl
          generalize rgE (leavesK ps) 0 a = E at HLF HDL
          have hqd : ∀ W, (Op.equalIn 10000 41 (.agg (brow D)) (.agg (brow D))).run Tryd.prog W = .ok true W := dig_same D hdl
          clear hca
          go_wp2_with fail
          refine (unhide HLF wr (unhide HKR)).mono ?_
          rintro e w3 ⟨rfl, k3⟩
          have HK3 := hide ((unhide HKR).trans k3 (by simp))
          clear k3
          have HN3 := hide (cell_new w3 D)
          have HO3 := hide (kept_old w3 D)
          go_wp2_with (rw [zb32]; refine wpList_store_row rfl 41 (.tmp 15) _ rfl w3.heap.size (brow D) rfl rfl _ (zb 32) (heap_alloc_new _ _) (Tryd.szD hdl) (by rw [zb_size, brow_size, hdl]) (brow_one _) ?_)
          obtain ⟨w4, hw4⟩ : ∃ w4, (w3.alloc (.cells (zb 32) 41)).setRow w3.heap.size (brow D) = w4 := ⟨_, rfl⟩
          rw [hw4] at HN3 HO3 ⊢
          clear hw4
          have HK4 := hide ((unhide HK3).trans (unhide HO3) (by simp))
          refine (unhide HDL w4 (unhide HK4)).mono ?_
          rintro e w5 ⟨rfl, k5⟩
          have HN5 := hide (k5.heap (unhide HN3) (by simp))
          have HK5 := hide ((unhide HK4).trans k5 (by simp))
          clear k5 HN3 HO3 HK4 HK3
          have HN6 := hide (cell_new w5 D)
          have HO6 := hide (kept_old w5 D)
          have HM6 := hide ((unhide HO6).heap (unhide HN5) (by simp))
          have HK6 := hide ((unhide HK5).trans (unhide HO6) (by simp))
          go_wp2_with (first
            | (rw [zb32]; refine wpList_store_row rfl 41 (.tmp 17) _ rfl w5.heap.size (brow D) rfl rfl _ (zb 32) (heap_alloc_new _ _) (Tryd.szD hdl) (by rw [zb_size, brow_size, hdl]) (brow_one _) ?_)
            | (refine wpList_load_row rfl 41 (.tmp 15) rfl w3.heap.size rfl _ (brow D) (0, 0) _ (unhide HM6) Tryd.underlying41 rfl (Tryd.szD hdl) ?_)
            | (refine wpList_load_row rfl 41 (.tmp 17) rfl w5.heap.size rfl _ (brow D) (0, 0) _ (unhide HN6) Tryd.underlying41 rfl (Tryd.szD hdl) ?_))
          go_wp2_with fail
          refine ⟨⟨j + 1, by omega, by simp, ?_⟩, ?_⟩
          · exact HK6
          · simp [intOf]
            omega
        · have hjl' : ¬ (j : Int) < 7 := by omega
          have HKF := hide ((unhide HKW).trans (unhide HKQ) (by simp))
          go_wp2_with fail
          go_ret
          exact ⟨rfl, unhide HKF⟩
end Go.Proofs.YtecadmldnjlibaaDoor
namespace Go.Proofs.YtecadmldnjlibaaDoor
open Go.RowKit Go.BigFrame
set_option linter.unusedVariables false
set_option linter.unusedSimpArgs false

/-- Are the width and all leaves fit? -/
def fitB (z : Int) (ls : List (List Nat)) : Bool := widthB z && ls.all (formB z)

set_option maxRecDepth 100000 in
set_option maxHeartbeats 1000000 in
theorem fit_any (z : Int) (lv : Value) (ls : List (List Nat)) (w : World) (hz : -9223372036854775808 ≤ z ∧ z ≤ 9223372036854775807) (hl : RdD w lv ls) :
    Calls Tryd.prog 14 #[.int .i64 z, lv] w fun e w' => e = .returned (.bool (fitB z ls)) ∧ Kept [] w w' := by
  have HL := hide hl
  obtain ⟨ao, len, cap, rfl, h1, h2, h3, h4, h5⟩ := hl
  subst h1
  clear h4 h5
  obtain ⟨E, hE⟩ : ∃ E, fitB z ls = E := ⟨_, rfl⟩
  rw [hE]
  have HE := hide hE
  clear hE
  go_enter Tryd.func14, Tryd.ntmps14
  go_wp2_with fail
  refine (rwidth_any z w hz).mono ?_
  rintro e w0 ⟨rfl, rfl⟩
  cases hwd : widthB z with
  | false =>
    have HE1 := hide (by rw [← unhide HE]; unfold fitB; rw [hwd]; rfl : E = false)
    go_wp2_with fail
    go_ret
    exact ⟨by rw [unhide HE1]; rfl, Kept.refl _ _⟩
  | true =>
    have HWD := hide hwd
    clear hwd
    go_wp2_with fail
    go_loopw [12] (fun t12 wr => ∃ (i : Nat), i ≤ ls.length ∧ t12 = .int .i64 i ∧ Hid ((ls.take i).all (formB z) = true) ∧ Hid (Kept [] w0 wr)) (fun t _ => ls.length - (intOf t).toNat)
    case atStart => exact ⟨0, Nat.zero_le _, rfl, hide (by simp), hide (Kept.refl _ _)⟩
    case round =>
      obtain ⟨j, hj, rfl, HAJ, HKJ⟩ := hrel
      by_cases hjl : j < ls.length
      · have hjl' : (j : Int) < ls.length := by omega
        obtain ⟨ra, rl, rc, re, r1, r2, r3, r4, r5⟩ := unhide HL
        cases re
        obtain ⟨b, o, rfl, hcell⟩ := r5 (by omega)
        have HD := hide (r4 (ls.getD j []) (by rw [List.getD_eq_getElem?_getD, List.getElem?_eq_getElem hjl]; exact List.getElem_mem hjl))
        have HRG := hide (fun u v hv => (unhide HKJ).cell (hcell j hjl u v hv) (by simp) : wr.rangeAt b (o + j * 32) ((ls.getD j []).map Go.Proofs.YtecadmldnjlibaaDoor.u8))
        have HN := hide (by rw [List.take_succ_eq_append_getElem hjl, List.all_append, unhide HAJ, List.getD_eq_getElem?_getD, List.getElem?_eq_getElem hjl]; simp : (ls.take (j + 1)).all (formB z) = formB z (ls.getD j []))
        have HM := hide (fun (h : formB z (ls.getD j []) = false) => by
          have h9 : ls.all (formB z) = false := by
            rw [List.all_eq_false]
            exact ⟨ls.getD j [], by rw [List.getD_eq_getElem?_getD, List.getElem?_eq_getElem hjl]; exact List.getElem_mem hjl, by rw [h]; decide⟩
          rw [← unhide HE]; unfold fitB; rw [h9, Bool.and_false] : formB z (ls.getD j []) = false → E = false)
        clear hcell r4 r5
        obtain ⟨d, hd⟩ : ∃ d, ls.getD j [] = d := ⟨_, rfl⟩
        rw [hd] at HD HRG HN HM
        clear hd
        have hdl := (unhide HD).1
        have HSZ := hide (by rw [brow_size, hdl]; exact Tryd.size_dig : (Tryd.prog.info? 41).map (·.size) = some (brow d).size)
        have HNW := hide (setRow_heap (wr.alloc (.cells (zb 32) 41)) wr.heap.size (zb 32) (brow d) 41 (0, 0) (heap_alloc_new _ _))
        have HKN := hide (((unhide HKJ).alloc (.cells (zb 32) 41)).setRow (g := wr.heap.size) (Or.inr (unhide HKJ).size) (brow d))
        go_wp2_with (first
          | (refine wpList_load_mid rfl 41 (.tmp 14) rfl b (o + j * 32) rfl (d.map Go.Proofs.YtecadmldnjlibaaDoor.u8) _ (unhide HRG) Tryd.underlying41 rfl (by rw [List.length_map, hdl]; exact Tryd.size_dig) ?_)
          | (rw [zb32]; refine wpList_store_row rfl 41 (.tmp 6) _ rfl wr.heap.size (brow d) rfl rfl _ (zb 32) (heap_alloc_new _ _) (unhide HSZ) (by rw [zb_size, brow_size, hdl]) (brow_one _) ?_)
          | (refine wpList_load_row rfl 41 (.tmp 6) rfl wr.heap.size rfl _ (brow d) (0, 0) _ (unhide HNW) Tryd.underlying41 rfl (unhide HSZ) ?_))
        refine Calls.mono (docForm_any z d _ hz hdl (unhide HD).2) ?_
        rintro e w4 ⟨rfl, k4⟩
        have HK4 := hide ((unhide HKN).trans k4 (by simp))
        clear k4
        cases hf : formB z d with
        | true =>
          rw [hf] at HN
          clear hf
          go_wp2
          go_roundw
          case rel => exact ⟨j + 1, by omega, by go_num, HN, HK4⟩
          case measure => simp [intOf]; omega
        | false =>
          have HF := hide (unhide HM hf)
          clear hf
          go_wp2
          go_ret
          exact ⟨by rw [unhide HF]; rfl, unhide HK4⟩
      · have hjl' : ¬ (j : Int) < ls.length := by omega
        have hje : j = ls.length := by omega
        subst hje
        rw [List.take_length] at HAJ
        have HE1 := hide (by rw [← unhide HE]; unfold fitB; rw [unhide HWD, unhide HAJ]; rfl : E = true)
        go_wp2
        go_ret
        exact ⟨by rw [unhide HE1]; rfl, unhide HKJ⟩

theorem newT_all (z : Int) (w : World) :
    Calls Tryd.prog 9 #[.int .i64 z] w fun e w' => ∃ p er, e = .returned (.tuple #[.pointer p, .int .i64 er]) ∧ (widthB z = true → ∃ t, p = some ⟨t, 0, none⟩ ∧ TreeAt z w' t (.slice none 0 0) []) ∧ Kept [] w w' := by
  cases hw : widthB z with
  | false => exact (newT_bad z w hw).mono fun e w' h => ⟨_, _, h.1, fun h9 => by simp at h9, h.2⟩
  | true => exact (newT_any z w hw).mono fun e w' ⟨t, h1, _, h2, h3⟩ => ⟨_, _, h1, fun _ => ⟨t, rfl, h2⟩, h3⟩

/-- What grown answers. -/
def GrD (z : Int) (ls : List (List Nat)) (w : World) (e : Ending) (w' : World) : Prop :=
  (fitB z ls = true ∧ ls.length ≤ 400 → ∃ t v qs, e = .returned (.tuple #[.pointer (some ⟨t, 0, none⟩), .bool true]) ∧ TreeAt z w' t v qs ∧ leavesK qs = ls ∧ (qs = [] → v = .slice none 0 0)) ∧
  (¬ (fitB z ls = true ∧ ls.length ≤ 400) → e = .returned (.tuple #[.pointer none, .bool false])) ∧ Kept [] w w'

end Go.Proofs.YtecadmldnjlibaaDoor
