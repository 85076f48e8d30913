import Derived.Test.YtlopdlcepmmjdaaTopC
import Derived.Test.YtlopdlcepmmjdaaQLate
import Derived.Test.YtlopdlcepmmjdaaRowz
import Derived.Deep.RegionHeld3
namespace Go.Proofs.Ytlopdlcepmmjdaa
open Go.RowKit Go.BigFrame Go.Maps Go.Sort
set_option linter.unusedVariables false
set_option linter.unusedSimpArgs false
theorem not_found {A : List DF} {s : ByteArray} (h : (findA A s.data.toList).isSome = false) : ∀ f ∈ A, f.nm ≠ s := by
  intro f hf e
  have h9 : findA A s.data.toList = none := by simpa using h
  exact findA_none h9 f hf (by rw [e])
theorem oA_create (σ : DSt) (s : ByteArray) : ((if σ.off then 12 else opE σ.ft σ.cr σ.op (ownA σ.A s)), (if σ.off then σ else tick σ (oA σ 1 (ownA σ.A s) (fun _ => σ.A ++ [⟨s, [], 0, false⟩]) []))) = stCreate σ s := by
  unfold stCreate oA opE
  cases σ.off
  · simp only [Bool.false_eq_true, if_false]
    by_cases h0 : ownA σ.A s = 0
    · by_cases hc : σ.op + 1 = σ.cr
      · simp [h0, hc]
      · cases hf : (σ.ft (σ.op + 1)).isSome <;> simp [h0, hc, hf]
    · simp [h0]
  · simp
theorem oA_append (σ : DSt) (s : ByteArray) (ps : List Nat) : ((if σ.off then 12 else opE σ.ft σ.cr σ.op (if (findA σ.A s.data.toList).isSome then 0 else 5)), (if σ.off then σ else tick σ (oA σ 2 (if (findA σ.A s.data.toList).isSome then 0 else 5) (fun p => upA σ.A s fun f => { f with bs := f.bs ++ p }) ps))) = stAppend σ s ps := by
  unfold stAppend oA appK opE
  cases σ.off
  · simp only [Bool.false_eq_true, if_false]
    cases hq : (findA σ.A s.data.toList).isSome
    · simp
    · by_cases hc : σ.op + 1 = σ.cr
      · simp [hc]
      · cases hf : (σ.ft (σ.op + 1)).isSome <;> simp [hc, hf]
  · simp
theorem oA_sync (σ : DSt) (s : ByteArray) : ((if σ.off then 12 else opE σ.ft σ.cr σ.op (if (findA σ.A s.data.toList).isSome then 0 else 5)), (if σ.off then σ else tick σ (oA σ 3 (if (findA σ.A s.data.toList).isSome then 0 else 5) (fun _ => upA σ.A s fun f => { f with sy := f.bs.length }) []))) = stSync σ s := by
  unfold stSync oA opE
  cases σ.off
  · simp only [Bool.false_eq_true, if_false]
    cases hq : (findA σ.A s.data.toList).isSome
    · simp
    · by_cases hc : σ.op + 1 = σ.cr
      · simp [hc]
      · cases hf : (σ.ft (σ.op + 1)).isSome <;> simp [hc, hf]
  · simp
theorem oA_names (σ : DSt) : ((if σ.off then 12 else opE σ.ft σ.cr σ.op 0), (if σ.off then σ else tick σ (oA σ 4 0 (fun _ => ndA σ.A) []))) = stNames σ := by
  unfold stNames oA opE
  cases σ.off
  · simp only [Bool.false_eq_true, if_false]
    by_cases hc : σ.op + 1 = σ.cr
    · simp [hc]
    · cases hf : (σ.ft (σ.op + 1)).isSome <;> simp [hc, hf]
  · simp
theorem ownA_le (A : List DF) (s : ByteArray) : ownA A s ≤ 20 := by unfold ownA; (repeat' split) <;> omega
theorem fnd_of {A : List DF} {s : ByteArray} (h : (findA A s.data.toList).isSome = true) : ∃ i, fndA A s.data.toList = some i := by
  rw [← fndA_isSome] at h
  exact Option.isSome_iff_exists.1 h

set_option maxRecDepth 100000 in
set_option maxHeartbeats 1000000 in
theorem rcreate_any (c nb bb : Nat) (R : List Nat) (σ : DSt) (s : ByteArray) (w : World) (h : RK w c R nb bb σ) (hs : s.size ≤ 140737488355328) (hn : nb ≤ 800000000) :
    Calls Try.prog 44 #[.pointer (some ⟨c, 0, none⟩), .string s] w fun e w' => e = .returned (.int .i64 ((stCreate σ s).1 : Nat)) ∧ ∃ R', RK w' c R' (nb + 2) bb (stCreate σ s).2 ∧ Ev w w' R R' := by
  have h9 := operate_any 1 c nb bb R σ s (.slice none 0 0) [] w h hn (Rd.nil w) (by simp [zblk]) (ownA σ.A s) (ownA_le _ _)
    (fun W σ1 h1 h2 => by rw [← h2]; exact rown1_any c (nb + 1) bb R σ1 s W h1 hs (by omega)) (fun _ => σ.A ++ [⟨s, [], 0, false⟩])
    (fun h0 W σ1 pv' ps' h1 h2 h3 h4 => by
      have h8 := carry1_any c (nb + 1) bb R σ1 s pv' W h1 (by omega) (by rw [h2]; exact not_found (by rw [(ownA_zero h0).2]; rfl))
      rw [h2] at h8
      exact h8)
  have e1 := congrArg Prod.fst (oA_create σ s)
  have e2 := congrArg Prod.snd (oA_create σ s)
  simp only at e1 e2
  rw [e1, e2] at h9
  generalize stCreate σ s = X at h9 ⊢
  have H := hide h9
  clear h9 h e1 e2
  go_enter Try.func44, Try.ntmps44
  go_wp2_with fail
  refine Calls.mono (unhide H) ?_
  rintro e w1 ⟨rfl, R1, h1, ev⟩
  have H1 := hide h1
  have HE := hide ev
  clear h1 ev
  go_wp2_with fail
  go_ret
  exact ⟨rfl, R1, unhide H1, unhide HE⟩

set_option maxRecDepth 100000 in
set_option maxHeartbeats 1000000 in
theorem rappend_any (c nb bb : Nat) (R : List Nat) (σ : DSt) (s : ByteArray) (pv : Value) (ps : List Nat) (w : World) (h : RK w c R nb bb σ) (hn : nb ≤ 800000000) (hpr : Rd w pv ps) (hpd : ∀ x ∈ zblk pv ps, x ∉ R) (hb : bb + ps.length ≤ 140737488350000) :
    Calls Try.prog 45 #[.pointer (some ⟨c, 0, none⟩), .string s, pv] w fun e w' => e = .returned (.int .i64 ((stAppend σ s ps).1 : Nat)) ∧ ∃ R', RK w' c R' (nb + 2) (bb + ps.length) (stAppend σ s ps).2 ∧ Ev w w' R R' := by
  have h9 := operate_any 2 c nb bb R σ s pv ps w h hn hpr hpd (if (findA σ.A s.data.toList).isSome then 0 else 5) (by split <;> omega)
    (fun W σ1 h1 h2 => by rw [← h2]; exact rown2_any 2 (.inl rfl) c (nb + 1) bb R σ1 s W h1 (by omega)) (fun p => upA σ.A s fun f => { f with bs := f.bs ++ p })
    (fun h0 W σ1 pv' ps' h1 h2 h3 h4 => by
      have hq : (findA σ.A s.data.toList).isSome = true := by
        cases hq : (findA σ.A s.data.toList).isSome
        · rw [hq] at h0; simp at h0
        · rfl
      obtain ⟨i, hi⟩ := fnd_of hq
      have h8 := carry2_any c (nb + 1) bb R σ1 s pv' ps' i W h1 (by omega) (by rw [h2]; exact hi) h3 (by omega)
      rw [h2] at h8
      refine h8.mono ?_
      rintro e w' ⟨rfl, R', h5, h6⟩
      exact ⟨rfl, R', h5.more (by omega) (by omega), h6⟩)
  have e1 := congrArg Prod.fst (oA_append σ s ps)
  have e2 := congrArg Prod.snd (oA_append σ s ps)
  simp only at e1 e2
  rw [e1, e2] at h9
  generalize stAppend σ s ps = X at h9 ⊢
  obtain ⟨pa, pl, pc, hpv⟩ : ∃ a l c, pv = .slice a l c := by obtain ⟨a, l, c, h1, _⟩ := hpr; exact ⟨a, l, c, h1⟩
  subst hpv
  have H := hide h9
  clear h9 h e1 e2 hpr hpd
  go_enter Try.func45, Try.ntmps45
  go_wp2_with fail
  refine Calls.mono (unhide H) ?_
  rintro e w1 ⟨rfl, R1, h1, ev⟩
  have H1 := hide h1
  have HE := hide ev
  clear h1 ev
  go_wp2_with fail
  go_ret
  exact ⟨rfl, R1, unhide H1, unhide HE⟩

set_option maxRecDepth 100000 in
set_option maxHeartbeats 1000000 in
theorem rsync_any (c nb bb : Nat) (R : List Nat) (σ : DSt) (s : ByteArray) (w : World) (h : RK w c R nb bb σ) (hn : nb ≤ 800000000) :
    Calls Try.prog 46 #[.pointer (some ⟨c, 0, none⟩), .string s] w fun e w' => e = .returned (.int .i64 ((stSync σ s).1 : Nat)) ∧ ∃ R', RK w' c R' (nb + 2) bb (stSync σ s).2 ∧ Ev w w' R R' := by
  have h9 := operate_any 3 c nb bb R σ s (.slice none 0 0) [] w h hn (Rd.nil w) (by simp [zblk]) (if (findA σ.A s.data.toList).isSome then 0 else 5) (by split <;> omega)
    (fun W σ1 h1 h2 => by rw [← h2]; exact rown2_any 3 (.inr rfl) c (nb + 1) bb R σ1 s W h1 (by omega)) (fun _ => upA σ.A s fun f => { f with sy := f.bs.length })
    (fun h0 W σ1 pv' ps' h1 h2 h3 h4 => by
      have hq : (findA σ.A s.data.toList).isSome = true := by
        cases hq : (findA σ.A s.data.toList).isSome
        · rw [hq] at h0; simp at h0
        · rfl
      obtain ⟨i, hi⟩ := fnd_of hq
      have h8 := carry3_any c (nb + 1) bb R σ1 s pv' i W h1 (by omega) (by rw [h2]; exact hi)
      rw [h2] at h8
      refine h8.mono ?_
      rintro e w' ⟨rfl, R', h5, h6⟩
      exact ⟨rfl, R', h5.more (by omega) (by omega), h6⟩)
  have e1 := congrArg Prod.fst (oA_sync σ s)
  have e2 := congrArg Prod.snd (oA_sync σ s)
  simp only at e1 e2
  rw [e1, e2] at h9
  generalize stSync σ s = X at h9 ⊢
  have H := hide h9
  clear h9 h e1 e2
  go_enter Try.func46, Try.ntmps46
  go_wp2_with fail
  refine Calls.mono (unhide H) ?_
  rintro e w1 ⟨rfl, R1, h1, ev⟩
  have H1 := hide h1
  have HE := hide ev
  clear h1 ev
  go_wp2_with fail
  go_ret
  exact ⟨rfl, R1, unhide H1, unhide HE⟩

set_option maxRecDepth 100000 in
set_option maxHeartbeats 1000000 in
theorem rnames_any (c nb bb : Nat) (R : List Nat) (σ : DSt) (w : World) (h : RK w c R nb bb σ) (hn : nb ≤ 800000000) :
    Calls Try.prog 47 #[.pointer (some ⟨c, 0, none⟩)] w fun e w' => e = .returned (.int .i64 ((stNames σ).1 : Nat)) ∧ ∃ R', RK w' c R' (nb + 2) bb (stNames σ).2 ∧ Ev w w' R R' := by
  have h9 := operate_any 4 c nb bb R σ ⟨#[]⟩ (.slice none 0 0) [] w h hn (Rd.nil w) (by simp [zblk]) 0 (by omega)
    (fun W σ1 h1 h2 => rown4_any c ⟨#[]⟩ W) (fun _ => ndA σ.A)
    (fun h0 W σ1 pv' ps' h1 h2 h3 h4 => by
      have h8 := carry4_any c (nb + 1) bb R σ1 ⟨#[]⟩ pv' W h1 (by omega)
      rw [h2] at h8
      refine h8.mono ?_
      rintro e w' ⟨rfl, R', h5, h6⟩
      exact ⟨rfl, R', h5.more (by omega) (by omega), h6⟩)
  have e1 := congrArg Prod.fst (oA_names σ)
  have e2 := congrArg Prod.snd (oA_names σ)
  simp only at e1 e2
  rw [e1, e2] at h9
  generalize stNames σ = X at h9 ⊢
  have H := hide h9
  clear h9 h e1 e2
  go_enter Try.func47, Try.ntmps47
  go_wp2_with fail
  refine Calls.mono (unhide H) ?_
  rintro e w1 ⟨rfl, R1, h1, ev⟩
  have H1 := hide h1
  have HE := hide ev
  clear h1 ev
  go_wp2_with fail
  go_ret
  exact ⟨rfl, R1, unhide H1, unhide HE⟩
end Go.Proofs.Ytlopdlcepmmjdaa
/-
  Laws for drawn regions with a late store, by genchain.py. No program.
-/
namespace Go.Proofs.Ytlopdlcepmmjdaa
open Go Go.RowKit Go.BigFrame
set_option linter.unusedVariables false
set_option linter.unusedSimpArgs false
section
variable {P : Program} {Q : Exit → Act → World → Prop}
theorem wp_sw18 {id : Nat} {o0 o1 o2 o3 o4 o5 o6 o7 o8 o9 o10 o11 o12 o13 o14 o15 o16 o17 : Oper} {a : Act} {w : World} (hm : P.follows .mixedOrders = true) (hs : Region.noSelect #[o0, o1, o2, o3, o4, o5, o6, o7, o8, o9, o10, o11, o12, o13, o14, o15, o16, o17] = true)
    (f0 : Region.free .any #[o0, o1, o2, o3, o4, o5, o6, o7, o8, o9, o10, o11, o12, o13, o14, o15, o16, o17] #[false, false, false, false, false, false, false, false, false, false, false, false, false, false, false, false, false, false] 0 = true) (r0 : (Region.ready .any #[o0, o1, o2, o3, o4, o5, o6, o7, o8, o9, o10, o11, o12, o13, o14, o15, o16, o17] #[false, false, false, false, false, false, false, false, false, false, false, false, false, false, false, false, false, false]).contains 0 = true) (e0 : o15.after.any (fun e => Region.binds .any e && e.on == 0) = true)
    (f1 : Region.free .any #[o0, o1, o2, o3, o4, o5, o6, o7, o8, o9, o10, o11, o12, o13, o14, o15, o16, o17] #[true, false, false, false, false, false, false, false, false, false, false, false, false, false, false, false, false, false] 1 = true) (r1 : (Region.ready .any #[o0, o1, o2, o3, o4, o5, o6, o7, o8, o9, o10, o11, o12, o13, o14, o15, o16, o17] #[true, false, false, false, false, false, false, false, false, false, false, false, false, false, false, false, false, false]).contains 1 = true) (e1 : o15.after.any (fun e => Region.binds .any e && e.on == 1) = true)
    (f2 : Region.free .any #[o0, o1, o2, o3, o4, o5, o6, o7, o8, o9, o10, o11, o12, o13, o14, o15, o16, o17] #[true, true, false, false, false, false, false, false, false, false, false, false, false, false, false, false, false, false] 2 = true) (r2 : (Region.ready .any #[o0, o1, o2, o3, o4, o5, o6, o7, o8, o9, o10, o11, o12, o13, o14, o15, o16, o17] #[true, true, false, false, false, false, false, false, false, false, false, false, false, false, false, false, false, false]).contains 2 = true) (e2 : o15.after.any (fun e => Region.binds .any e && e.on == 2) = true)
    (f3 : Region.free .any #[o0, o1, o2, o3, o4, o5, o6, o7, o8, o9, o10, o11, o12, o13, o14, o15, o16, o17] #[true, true, true, false, false, false, false, false, false, false, false, false, false, false, false, false, false, false] 3 = true) (r3 : (Region.ready .any #[o0, o1, o2, o3, o4, o5, o6, o7, o8, o9, o10, o11, o12, o13, o14, o15, o16, o17] #[true, true, true, false, false, false, false, false, false, false, false, false, false, false, false, false, false, false]).contains 3 = true) (e3 : o17.after.any (fun e => Region.binds .any e && e.on == 3) = true)
    (f4 : Region.free .any #[o0, o1, o2, o3, o4, o5, o6, o7, o8, o9, o10, o11, o12, o13, o14, o15, o16, o17] #[true, true, true, true, false, false, false, false, false, false, false, false, false, false, false, false, false, false] 4 = true) (r4 : (Region.ready .any #[o0, o1, o2, o3, o4, o5, o6, o7, o8, o9, o10, o11, o12, o13, o14, o15, o16, o17] #[true, true, true, true, false, false, false, false, false, false, false, false, false, false, false, false, false, false]).contains 4 = true) (e4 : o17.after.any (fun e => Region.binds .any e && e.on == 4) = true)
    (f5 : Region.free .any #[o0, o1, o2, o3, o4, o5, o6, o7, o8, o9, o10, o11, o12, o13, o14, o15, o16, o17] #[true, true, true, true, true, false, false, false, false, false, false, false, false, false, false, false, false, false] 5 = true) (r5 : (Region.ready .any #[o0, o1, o2, o3, o4, o5, o6, o7, o8, o9, o10, o11, o12, o13, o14, o15, o16, o17] #[true, true, true, true, true, false, false, false, false, false, false, false, false, false, false, false, false, false]).contains 5 = true) (e5 : o15.after.any (fun e => Region.binds .any e && e.on == 5) = true)
    (f6 : Region.free .any #[o0, o1, o2, o3, o4, o5, o6, o7, o8, o9, o10, o11, o12, o13, o14, o15, o16, o17] #[true, true, true, true, true, true, false, false, false, false, false, false, false, false, false, false, false, false] 6 = true) (r6 : (Region.ready .any #[o0, o1, o2, o3, o4, o5, o6, o7, o8, o9, o10, o11, o12, o13, o14, o15, o16, o17] #[true, true, true, true, true, true, false, false, false, false, false, false, false, false, false, false, false, false]).contains 6 = true) (e6 : o15.after.any (fun e => Region.binds .any e && e.on == 6) = true)
    (f7 : Region.free .any #[o0, o1, o2, o3, o4, o5, o6, o7, o8, o9, o10, o11, o12, o13, o14, o15, o16, o17] #[true, true, true, true, true, true, true, false, false, false, false, false, false, false, false, false, false, false] 7 = true) (r7 : (Region.ready .any #[o0, o1, o2, o3, o4, o5, o6, o7, o8, o9, o10, o11, o12, o13, o14, o15, o16, o17] #[true, true, true, true, true, true, true, false, false, false, false, false, false, false, false, false, false, false]).contains 7 = true) (e7 : o15.after.any (fun e => Region.binds .any e && e.on == 7) = true)
    (f8 : Region.free .any #[o0, o1, o2, o3, o4, o5, o6, o7, o8, o9, o10, o11, o12, o13, o14, o15, o16, o17] #[true, true, true, true, true, true, true, true, false, false, false, false, false, false, false, false, false, false] 8 = true) (r8 : (Region.ready .any #[o0, o1, o2, o3, o4, o5, o6, o7, o8, o9, o10, o11, o12, o13, o14, o15, o16, o17] #[true, true, true, true, true, true, true, true, false, false, false, false, false, false, false, false, false, false]).contains 8 = true) (e8 : o15.after.any (fun e => Region.binds .any e && e.on == 8) = true)
    (f9 : Region.free .any #[o0, o1, o2, o3, o4, o5, o6, o7, o8, o9, o10, o11, o12, o13, o14, o15, o16, o17] #[true, true, true, true, true, true, true, true, true, false, false, false, false, false, false, false, false, false] 9 = true) (r9 : (Region.ready .any #[o0, o1, o2, o3, o4, o5, o6, o7, o8, o9, o10, o11, o12, o13, o14, o15, o16, o17] #[true, true, true, true, true, true, true, true, true, false, false, false, false, false, false, false, false, false]).contains 9 = true) (e9 : o17.after.any (fun e => Region.binds .any e && e.on == 9) = true)
    (f10 : Region.free .any #[o0, o1, o2, o3, o4, o5, o6, o7, o8, o9, o10, o11, o12, o13, o14, o15, o16, o17] #[true, true, true, true, true, true, true, true, true, true, false, false, false, false, false, false, false, false] 10 = true) (r10 : (Region.ready .any #[o0, o1, o2, o3, o4, o5, o6, o7, o8, o9, o10, o11, o12, o13, o14, o15, o16, o17] #[true, true, true, true, true, true, true, true, true, true, false, false, false, false, false, false, false, false]).contains 10 = true) (e10 : o17.after.any (fun e => Region.binds .any e && e.on == 10) = true)
    (f11 : Region.free .any #[o0, o1, o2, o3, o4, o5, o6, o7, o8, o9, o10, o11, o12, o13, o14, o15, o16, o17] #[true, true, true, true, true, true, true, true, true, true, true, false, false, false, false, false, false, false] 11 = true) (r11 : (Region.ready .any #[o0, o1, o2, o3, o4, o5, o6, o7, o8, o9, o10, o11, o12, o13, o14, o15, o16, o17] #[true, true, true, true, true, true, true, true, true, true, true, false, false, false, false, false, false, false]).contains 11 = true) (e11 : o17.after.any (fun e => Region.binds .any e && e.on == 11) = true)
    (f12 : Region.free .any #[o0, o1, o2, o3, o4, o5, o6, o7, o8, o9, o10, o11, o12, o13, o14, o15, o16, o17] #[true, true, true, true, true, true, true, true, true, true, true, true, false, false, false, false, false, false] 12 = true) (r12 : (Region.ready .any #[o0, o1, o2, o3, o4, o5, o6, o7, o8, o9, o10, o11, o12, o13, o14, o15, o16, o17] #[true, true, true, true, true, true, true, true, true, true, true, true, false, false, false, false, false, false]).contains 12 = true) (e12 : o17.after.any (fun e => Region.binds .any e && e.on == 12) = true)
    (f13 : Region.free .any #[o0, o1, o2, o3, o4, o5, o6, o7, o8, o9, o10, o11, o12, o13, o14, o15, o16, o17] #[true, true, true, true, true, true, true, true, true, true, true, true, true, false, false, false, false, false] 13 = true) (r13 : (Region.ready .any #[o0, o1, o2, o3, o4, o5, o6, o7, o8, o9, o10, o11, o12, o13, o14, o15, o16, o17] #[true, true, true, true, true, true, true, true, true, true, true, true, true, false, false, false, false, false]).contains 13 = true) (e13 : o15.after.any (fun e => Region.binds .any e && e.on == 13) = true)
    (q14 : Region.ready .any #[o0, o1, o2, o3, o4, o5, o6, o7, o8, o9, o10, o11, o12, o13, o14, o15, o16, o17] #[true, true, true, true, true, true, true, true, true, true, true, true, true, true, false, false, false, false] = [14]) (g14 : o14.guard = none)
    (q15 : Region.ready .any #[o0, o1, o2, o3, o4, o5, o6, o7, o8, o9, o10, o11, o12, o13, o14, o15, o16, o17] #[true, true, true, true, true, true, true, true, true, true, true, true, true, true, true, false, false, false] = [15]) (g15 : o15.guard = none)
    (q16 : Region.ready .any #[o0, o1, o2, o3, o4, o5, o6, o7, o8, o9, o10, o11, o12, o13, o14, o15, o16, o17] #[true, true, true, true, true, true, true, true, true, true, true, true, true, true, true, true, false, false] = [16]) (g16 : o16.guard = none)
    (q17 : Region.ready .any #[o0, o1, o2, o3, o4, o5, o6, o7, o8, o9, o10, o11, o12, o13, o14, o15, o16, o17] #[true, true, true, true, true, true, true, true, true, true, true, true, true, true, true, true, true, false] = [17]) (g17 : o17.guard = none)
    (rr : Region.ready .any #[o0, o1, o2, o3, o4, o5, o6, o7, o8, o9, o10, o11, o12, o13, o14, o15, o16, o17] #[true, true, true, true, true, true, true, true, true, true, true, true, true, true, true, true, true, true] = [])
    (v0 v1 v2 v3 v4 v5 v6 v7 v8 v9 v10 v11 v12 v13 u14 u16 : Value) (A0 A1 A2 A3 A4 A5 A6 A7 A8 A9 A10 A11 A12 A13 : Act) (T : World → Prop) (W1 W2 : World)
    (p0 : a.put o0.dst v0 = A0) (hy0 : YieldsIf P #[o0, o1, o2, o3, o4, o5, o6, o7, o8, o9, o10, o11, o12, o13, o14, o15, o16, o17] T o0 v0 a)
    (p1 : A0.put o1.dst v1 = A1) (hy1 : YieldsIf P #[o0, o1, o2, o3, o4, o5, o6, o7, o8, o9, o10, o11, o12, o13, o14, o15, o16, o17] T o1 v1 A0)
    (p2 : A1.put o2.dst v2 = A2) (hy2 : YieldsIf P #[o0, o1, o2, o3, o4, o5, o6, o7, o8, o9, o10, o11, o12, o13, o14, o15, o16, o17] T o2 v2 A1)
    (p3 : A2.put o3.dst v3 = A3) (hy3 : YieldsIf P #[o0, o1, o2, o3, o4, o5, o6, o7, o8, o9, o10, o11, o12, o13, o14, o15, o16, o17] (fun _ => True) o3 v3 A2)
    (p4 : A3.put o4.dst v4 = A4) (hy4 : YieldsIf P #[o0, o1, o2, o3, o4, o5, o6, o7, o8, o9, o10, o11, o12, o13, o14, o15, o16, o17] (fun _ => True) o4 v4 A3)
    (p5 : A4.put o5.dst v5 = A5) (hy5 : YieldsIf P #[o0, o1, o2, o3, o4, o5, o6, o7, o8, o9, o10, o11, o12, o13, o14, o15, o16, o17] T o5 v5 A4)
    (p6 : A5.put o6.dst v6 = A6) (hy6 : YieldsIf P #[o0, o1, o2, o3, o4, o5, o6, o7, o8, o9, o10, o11, o12, o13, o14, o15, o16, o17] T o6 v6 A5)
    (p7 : A6.put o7.dst v7 = A7) (hy7 : YieldsIf P #[o0, o1, o2, o3, o4, o5, o6, o7, o8, o9, o10, o11, o12, o13, o14, o15, o16, o17] T o7 v7 A6)
    (p8 : A7.put o8.dst v8 = A8) (hy8 : YieldsIf P #[o0, o1, o2, o3, o4, o5, o6, o7, o8, o9, o10, o11, o12, o13, o14, o15, o16, o17] T o8 v8 A7)
    (p9 : A8.put o9.dst v9 = A9) (hy9 : YieldsIf P #[o0, o1, o2, o3, o4, o5, o6, o7, o8, o9, o10, o11, o12, o13, o14, o15, o16, o17] (fun _ => True) o9 v9 A8)
    (p10 : A9.put o10.dst v10 = A10) (hy10 : YieldsIf P #[o0, o1, o2, o3, o4, o5, o6, o7, o8, o9, o10, o11, o12, o13, o14, o15, o16, o17] (fun _ => True) o10 v10 A9)
    (p11 : A10.put o11.dst v11 = A11) (hy11 : YieldsIf P #[o0, o1, o2, o3, o4, o5, o6, o7, o8, o9, o10, o11, o12, o13, o14, o15, o16, o17] (fun _ => True) o11 v11 A10)
    (p12 : A11.put o12.dst v12 = A12) (hy12 : YieldsIf P #[o0, o1, o2, o3, o4, o5, o6, o7, o8, o9, o10, o11, o12, o13, o14, o15, o16, o17] (fun _ => True) o12 v12 A11)
    (p13 : A12.put o13.dst v13 = A13) (hy13 : YieldsIf P #[o0, o1, o2, o3, o4, o5, o6, o7, o8, o9, o10, o11, o12, o13, o14, o15, o16, o17] T o13 v13 A12)
    (hT : T w.drew)
    (s14 : ∀ K : Act → World → Prop, K (A13.put o14.dst u14) w.drew → o14.wp P A13 w.drew K (NoPanic Q))
    (s15 : ∀ K : Act → World → Prop, K (A13.put o14.dst u14) W1 → o15.wp P (A13.put o14.dst u14) w.drew K (NoPanic Q))
    (s16 : ∀ K : Act → World → Prop, K ((A13.put o14.dst u14).put o16.dst u16) W1 → o16.wp P (A13.put o14.dst u14) W1 K (NoPanic Q))
    (s17 : ∀ K : Act → World → Prop, K ((A13.put o14.dst u14).put o16.dst u16) W2 → o17.wp P ((A13.put o14.dst u14).put o16.dst u16) W1 K (NoPanic Q))
    (h : Q .normal ((A13.put o14.dst u14).put o16.dst u16) W2) :
    (Code.region id #[o0, o1, o2, o3, o4, o5, o6, o7, o8, o9, o10, o11, o12, o13, o14, o15, o16, o17] true).wp P Q a w := by
  subst p0 p1 p2 p3 p4 p5 p6 p7 p8 p9 p10 p11 p12 p13
  refine wp_region_noPanic ?_
  refine wp_region_any hm ?_
  refine AnyL.any (S := fun d w' => d.getD 15 true = false → T w') _ _ _ _ ?_
  show AnyL P .any #[o0, o1, o2, o3, o4, o5, o6, o7, o8, o9, o10, o11, o12, o13, o14, o15, o16, o17] (NoPanic Q) _ 18 #[false, false, false, false, false, false, false, false, false, false, false, false, false, false, false, false, false, false] a w.drew
  have hSi : ∀ i, i ≠ 15 → ∀ (d : Array Bool) (w' : World), ((d.setIfInBounds i true).getD 15 true = false → T w') ↔ (d.getD 15 true = false → T w') := by
    intro i h4 d w'
    rw [getD_set_ne true h4]
  refine AnyL.take (i := 0) (t := 15) (oi := o0) (ot := o15) (T := T) rfl rfl (by decide) hs f0 r0 e0 (fun _ _ _ h => h) (fun d w' h9 hd => h9 hd) (hSi 0 (by decide)) hy0 rfl (fun _ => hT) ?_
  refine AnyL.take (i := 1) (t := 15) (oi := o1) (ot := o15) (T := T) rfl rfl (by decide) hs f1 r1 e1 (fun _ _ _ h => h) (fun d w' h9 hd => h9 hd) (hSi 1 (by decide)) hy1 rfl (fun _ => hT) ?_
  refine AnyL.take (i := 2) (t := 15) (oi := o2) (ot := o15) (T := T) rfl rfl (by decide) hs f2 r2 e2 (fun _ _ _ h => h) (fun d w' h9 hd => h9 hd) (hSi 2 (by decide)) hy2 rfl (fun _ => hT) ?_
  refine AnyL.take (i := 3) (t := 17) (oi := o3) (ot := o17) (T := (fun _ => True)) rfl rfl (by decide) hs f3 r3 e3 (fun _ _ _ h => h) (fun d w' h9 hd => trivial) (hSi 3 (by decide)) hy3 rfl (fun _ => hT) ?_
  refine AnyL.take (i := 4) (t := 17) (oi := o4) (ot := o17) (T := (fun _ => True)) rfl rfl (by decide) hs f4 r4 e4 (fun _ _ _ h => h) (fun d w' h9 hd => trivial) (hSi 4 (by decide)) hy4 rfl (fun _ => hT) ?_
  refine AnyL.take (i := 5) (t := 15) (oi := o5) (ot := o15) (T := T) rfl rfl (by decide) hs f5 r5 e5 (fun _ _ _ h => h) (fun d w' h9 hd => h9 hd) (hSi 5 (by decide)) hy5 rfl (fun _ => hT) ?_
  refine AnyL.take (i := 6) (t := 15) (oi := o6) (ot := o15) (T := T) rfl rfl (by decide) hs f6 r6 e6 (fun _ _ _ h => h) (fun d w' h9 hd => h9 hd) (hSi 6 (by decide)) hy6 rfl (fun _ => hT) ?_
  refine AnyL.take (i := 7) (t := 15) (oi := o7) (ot := o15) (T := T) rfl rfl (by decide) hs f7 r7 e7 (fun _ _ _ h => h) (fun d w' h9 hd => h9 hd) (hSi 7 (by decide)) hy7 rfl (fun _ => hT) ?_
  refine AnyL.take (i := 8) (t := 15) (oi := o8) (ot := o15) (T := T) rfl rfl (by decide) hs f8 r8 e8 (fun _ _ _ h => h) (fun d w' h9 hd => h9 hd) (hSi 8 (by decide)) hy8 rfl (fun _ => hT) ?_
  refine AnyL.take (i := 9) (t := 17) (oi := o9) (ot := o17) (T := (fun _ => True)) rfl rfl (by decide) hs f9 r9 e9 (fun _ _ _ h => h) (fun d w' h9 hd => trivial) (hSi 9 (by decide)) hy9 rfl (fun _ => hT) ?_
  refine AnyL.take (i := 10) (t := 17) (oi := o10) (ot := o17) (T := (fun _ => True)) rfl rfl (by decide) hs f10 r10 e10 (fun _ _ _ h => h) (fun d w' h9 hd => trivial) (hSi 10 (by decide)) hy10 rfl (fun _ => hT) ?_
  refine AnyL.take (i := 11) (t := 17) (oi := o11) (ot := o17) (T := (fun _ => True)) rfl rfl (by decide) hs f11 r11 e11 (fun _ _ _ h => h) (fun d w' h9 hd => trivial) (hSi 11 (by decide)) hy11 rfl (fun _ => hT) ?_
  refine AnyL.take (i := 12) (t := 17) (oi := o12) (ot := o17) (T := (fun _ => True)) rfl rfl (by decide) hs f12 r12 e12 (fun _ _ _ h => h) (fun d w' h9 hd => trivial) (hSi 12 (by decide)) hy12 rfl (fun _ => hT) ?_
  refine AnyL.take (i := 13) (t := 15) (oi := o13) (ot := o15) (T := T) rfl rfl (by decide) hs f13 r13 e13 (fun _ _ _ h => h) (fun d w' h9 hd => h9 hd) (hSi 13 (by decide)) hy13 rfl (fun _ => hT) ?_
  refine AnyL.forced q14 rfl g14 (fun K hK => s14 K (hK _ _ (fun _ => hT) ?_))
  refine AnyL.forced q15 rfl g15 (fun K hK => s15 K (hK _ _ (fun h9 => (by cases h9)) ?_))
  refine AnyL.forced q16 rfl g16 (fun K hK => s16 K (hK _ _ (fun h9 => (by cases h9)) ?_))
  refine AnyL.forced q17 rfl g17 (fun K hK => s17 K (hK _ _ (fun h9 => (by cases h9)) ?_))
  exact ⟨rr, NoPanic.normal h⟩
end
end Go.Proofs.Ytlopdlcepmmjdaa
namespace Go.Proofs.Ytlopdlcepmmjdaa
open Go.RowKit Go.BigFrame Go.Maps Go.Sort
set_option linter.unusedVariables false
set_option linter.unusedSimpArgs false
theorem dfC_put4 {t : DF × Value} : ∀ {ts : List (DF × Value)} {i : Nat} (hi : i < ts.length), ((((ts.flatMap dfC).set (i * 4) (.string t.1.nm)).set (i * 4 + 1) t.2).set (i * 4 + 2) (.int .i64 (t.1.sy : Int))).set (i * 4 + 3) (.bool t.1.nd) = (ts.set i t).flatMap dfC
  | a :: r, 0, hi => by simp [dfC]
  | a :: r, i + 1, hi => by
    have hi' : i < r.length := by simpa using hi
    have ih := dfC_put4 (t := t) hi'
    have e : (dfC a).length = 4 := rfl
    rw [List.set_cons_succ, List.flatMap_cons, List.flatMap_cons, List.set_append_right _ _ (by omega), List.set_append_right _ _ (by omega), List.set_append_right _ _ (by omega), List.set_append_right _ _ (by omega), ← ih, e]
    rw [show (i + 1) * 4 - 4 = i * 4 by omega, show (i + 1) * 4 + 1 - 4 = i * 4 + 1 by omega, show (i + 1) * 4 + 2 - 4 = i * 4 + 2 by omega, show (i + 1) * 4 + 3 - 4 = i * 4 + 3 by omega]
/-- A file stored whole. -/
def put4 (w : World) (g i : Nat) (t : DF × Value) : World := (((w.setCell ⟨g, i * 4, none⟩ (.string t.1.nm)).setCell ⟨g, i * 4 + 1, none⟩ t.2).setCell ⟨g, i * 4 + 2, none⟩ (.int .i64 (t.1.sy : Int))).setCell ⟨g, i * 4 + 3, none⟩ (.bool t.1.nd)
theorem put4_kept {L : List Nat} {w0 w : World} (k : Kept L w0 w) (g i : Nat) (t : DF × Value) (hg : g ∈ L ∨ w0.heap.size ≤ g) : Kept L w0 (put4 w g i t) := (((k.setCell (p := ⟨g, i * 4, none⟩) hg _).setCell (p := ⟨g, i * 4 + 1, none⟩) hg _).setCell (p := ⟨g, i * 4 + 2, none⟩) hg _).setCell (p := ⟨g, i * 4 + 3, none⟩) hg _
theorem owns_put4 {w : World} {B g n cap : Nat} {ts : List (DF × Value)} (h : w.ownsRow B 54 4 (.slice (some ⟨g, 0, none⟩) n cap) n (ts.flatMap dfC)) {i : Nat} (hi : i < ts.length) (t : DF × Value) : (put4 w g i t).ownsRow B 54 4 (.slice (some ⟨g, 0, none⟩) n cap) n ((ts.set i t).flatMap dfC) := by
  have h1 := (h.stored (i * 4) (.string t.1.nm)).1
  have h2 := (h1.stored (i * 4 + 1) t.2).1
  have h3 := (h2.stored (i * 4 + 2) (.int .i64 (t.1.sy : Int))).1
  have h4 := (h3.stored (i * 4 + 3) (.bool t.1.nd)).1
  rw [dfC_put4 hi] at h4
  exact h4
theorem owns_there {w : World} {B g n cap : Nat} {ts : List (DF × Value)} (h : w.ownsRow B 54 4 (.slice (some ⟨g, 0, none⟩) n cap) n (ts.flatMap dfC)) {i : Nat} (hi : i < ts.length) :
    (w.cell? ⟨g, i * 4, none⟩ = some (.string ts[i].1.nm) ∧ w.cell? ⟨g, i * 4 + 1, none⟩ = some ts[i].2 ∧ w.cell? ⟨g, i * 4 + 2, none⟩ = some (.int .i64 (ts[i].1.sy : Int)) ∧ w.cell? ⟨g, i * 4 + 3, none⟩ = some (.bool ts[i].1.nd)) ∧ ∀ k, w.frozen? ⟨g, k, none⟩ = false := by
  have hc : ∀ j v, (dfC ts[i])[j]? = some v → w.cell? ⟨g, i * 4 + j, none⟩ = some v := by
    intro j v hv
    have h9 := h.cells (g := g) rfl (i * 4 + j) v (dfC_get ts i hi j v hv)
    rw [Addr.add_lit, Nat.zero_add] at h9
    exact h9
  refine ⟨⟨hc 0 _ rfl, hc 1 _ rfl, hc 2 _ rfl, hc 3 _ rfl⟩, fun k => ?_⟩
  rcases h.2 with ⟨hv, _⟩ | ⟨g9, c9, cur9, hv, _, hg9, _⟩
  · cases hv
  · cases hv; exact frozen_of_row _ _ k _ _ hg9
theorem owns_some {w : World} {B g n cap : Nat} {ts : List (DF × Value)} (h : w.ownsRow B 54 4 (.slice (some ⟨g, 0, none⟩) n cap) n (ts.flatMap dfC)) {i : Nat} (hi : i < ts.length) :
    ∃ y : DF × Value, (w.cell? ⟨g, i * 4, none⟩ = some (.string y.1.nm) ∧ w.cell? ⟨g, i * 4 + 1, none⟩ = some y.2 ∧ w.cell? ⟨g, i * 4 + 2, none⟩ = some (.int .i64 (y.1.sy : Int)) ∧ w.cell? ⟨g, i * 4 + 3, none⟩ = some (.bool y.1.nd)) ∧ ∀ k, w.frozen? ⟨g, k, none⟩ = false := ⟨_, owns_there h hi⟩
theorem OwnFl.swap {B : Nat} {w : World} {g n cap : Nat} {P S : List (DF × Value)} {a x : DF × Value} (h : OwnFl B w (.slice (some ⟨g, 0, none⟩) n cap) (P ++ a :: x :: S)) (hn : (P ++ a :: x :: S).length = n) :
    OwnFl B (put4 (put4 w g P.length x) g (P.length + 1) a) (.slice (some ⟨g, 0, none⟩) n cap) (P ++ x :: a :: S) := by
  have ho := h.own
  rw [hn] at ho
  have h1 := owns_put4 ho (i := P.length) (by simp) x
  have h2 := owns_put4 h1 (i := P.length + 1) (by simp) a
  have e1 : (P ++ a :: x :: S).set P.length x = P ++ x :: x :: S := by rw [List.set_append_right _ _ (Nat.le_refl _), Nat.sub_self]; rfl
  have e2 : (P ++ x :: x :: S).set (P.length + 1) a = P ++ x :: a :: S := by rw [List.set_append_right _ _ (by omega), show P.length + 1 - P.length = 1 by omega]; rfl
  rw [e1, e2] at h2
  have hp : (P ++ x :: a :: S).Perm (P ++ a :: x :: S) := List.Perm.append_left P (List.Perm.swap a x S)
  have kz : Kept [g] w (put4 (put4 w g P.length x) g (P.length + 1) a) := put4_kept (put4_kept (Kept.refl _ _) g _ x (.inl (by simp))) g _ a (.inl (by simp))
  obtain ⟨cur, hrow⟩ := h.row
  refine ⟨?_, ?_, ?_⟩
  · rw [hp.length_eq, hn]; exact h2
  · intro t ht
    have h9 := h.el t (hp.mem_iff.1 ht)
    refine ⟨kz.owns h9.1 (fun y hy => ?_), h9.2⟩
    obtain ⟨cs, hc⟩ := owns_cells h9.1 (own_blk hy)
    simp only [List.mem_singleton]
    exact cells_ne hc hrow (by decide)
  · exact hp.symm.pairwise h.ap (fun hab y hy hz => hab y hz hy)
theorem gt_str (a b : ByteArray) : (!decide (a.data.toList < b.data.toList) && !a.toList == b.toList) = decide (b.data.toList < a.data.toList) := by
  rw [ba_toListS, ba_toListS]
  by_cases h1 : a.data.toList < b.data.toList
  · rw [decide_eq_true h1, decide_eq_false (fun h2 => List.lt_irrefl _ (List.lt_trans h1 h2))]; rfl
  · by_cases h2 : a.data.toList = b.data.toList
    · rw [h2, decide_eq_false (List.lt_irrefl _)]; simp
    · have h3 : b.data.toList < a.data.toList := by
        rcases Classical.em (b.data.toList < a.data.toList) with h | h
        · exact h
        · exact absurd (List.le_antisymm (List.not_lt.1 h) (List.not_lt.1 h1)) h2
      rw [decide_eq_false h1, decide_eq_true h3, beq_eq_false_iff_ne.2 h2]
      rfl
/-- Sorted, but for one that goes down. -/
structure Ins (A : List DF) (k : Nat) (P S : List (DF × Value)) (x : DF × Value) : Prop where
  perm : ((P ++ x :: S).map Prod.fst).Perm (A.take (k + 1))
  srt : ((P ++ S).map Prod.fst).Pairwise fun a b => a.nm.data.toList ≤ b.nm.data.toList
  gt : ∀ y ∈ S, x.1.nm.data.toList ≤ y.1.nm.data.toList
theorem Ins.down {A : List DF} {k : Nat} {P S : List (DF × Value)} {x p : DF × Value} (h : Ins A k (P ++ [p]) S x) (hl : x.1.nm.data.toList < p.1.nm.data.toList) : Ins A k P (p :: S) x := by
  refine ⟨?_, ?_, ?_⟩
  · refine List.Perm.trans ?_ h.perm
    rw [List.append_assoc]
    exact (List.Perm.append_left P (List.Perm.swap p x S)).map _
  · have := h.srt
    rw [List.append_assoc] at this
    exact this
  · intro y hy
    rcases List.mem_cons.1 hy with rfl | hy
    · exact List.le_of_lt hl
    · exact h.gt y hy
theorem Ins.done {A : List DF} {k : Nat} {P S : List (DF × Value)} {x : DF × Value} (h : Ins A k P S x) (hl : ∀ P' p, P = P' ++ [p] → p.1.nm.data.toList ≤ x.1.nm.data.toList) : ((P ++ x :: S).map Prod.fst).Pairwise fun a b => a.nm.data.toList ≤ b.nm.data.toList := by
  have hs := h.srt
  rw [List.map_append, List.pairwise_append] at hs ⊢
  obtain ⟨h1, h2, h3⟩ := hs
  refine ⟨h1, ?_, ?_⟩
  · rw [List.map_cons, List.pairwise_cons]
    refine ⟨?_, h2⟩
    intro a ha
    obtain ⟨y, hy, rfl⟩ := List.mem_map.1 ha
    exact h.gt y hy
  · intro a ha b hb
    rw [List.map_cons, List.mem_cons] at hb
    rcases hb with rfl | hb
    · obtain ⟨y, hy, rfl⟩ := List.mem_map.1 ha
      rcases List.eq_nil_or_concat P with rfl | ⟨P', p, rfl⟩
      · simp at hy
      · rw [List.concat_eq_append] at *
        have hp := hl P' p rfl
        rcases List.mem_append.1 hy with h9 | h9
        · have h8 : ((P' ++ [p]).map Prod.fst).Pairwise fun a b => a.nm.data.toList ≤ b.nm.data.toList := h1
          rw [List.map_append, List.pairwise_append] at h8
          exact List.le_trans (h8.2.2 y.1 (List.mem_map.2 ⟨y, h9, rfl⟩) p.1 (by simp)) hp
        · simp at h9; subst h9; exact hp
    · exact h3 a ha b hb

set_option maxRecDepth 100000 in
set_option maxHeartbeats 4000000 in
theorem rfiles_any (c nb bb : Nat) (R : List Nat) (σ : DSt) (w : World) (h : RK w c R nb bb σ) (hn : nb ≤ 900000000) (hb : bb ≤ 140737488350000) :
    Calls Try.prog 40 #[.pointer (some ⟨c, 0, none⟩)] w fun e w' => ∃ v ts, e = .returned v ∧ OwnFl w.heap.size w' v ts ∧ ts.map Prod.fst = srtA σ.A ∧ Kept [] w w' := by
  obtain ⟨fsv, ts, fav, fl, hp, hR⟩ := h.parts
  obtain ⟨a3, c3, hv3, hg3⟩ := hp.own.shapeL
  subst hv3
  have q1 := cell_of_row _ _ 1 _ _ _ hp.row
  simp [rkC] at q1
  have hl := hp.len
  have hll := h.len
  have HR := hide hp.own.rd
  have HT := hide hp.fst
  have HG := hide hg3
  have HL := hide hl
  have HD := hide h.dist
  have HBY := hide h.byt
  have htl : ts.length ≤ 900000000 := by omega
  clear hp hg3 hl hll h hR
  go_enter Try.func40, Try.ntmps40
  go_wp2_with fail
  go_loopw [3, 15] (fun v t15 wr => ∃ (k : Nat) (us : List (DF × Value)), k ≤ ts.length ∧ t15 = .int .i64 k ∧ Hid (OwnFl w.heap.size wr v us) ∧ Hid ((us.map Prod.fst).Perm (σ.A.take k)) ∧ Hid ((us.map Prod.fst).Pairwise fun a b => a.nm.data.toList ≤ b.nm.data.toList) ∧ Hid (Kept [] w wr)) (fun _ t _ => ts.length - (intOf t).toNat)
  case atStart => exact ⟨0, [], Nat.zero_le _, rfl, hide (OwnFl.nil _ _), hide (by simp), hide (by simp), hide (Kept.refl _ _)⟩
  case round =>
    obtain ⟨k, us, hk, rfl, HOW, HPM, HSR, HK⟩ := hrel
    obtain ⟨va, vc, hv, hvg⟩ := (unhide HOW).shapeL
    subst hv
    have HUL := hide (by have h9 := (unhide HPM).length_eq; rw [List.length_map, List.length_take, ← unhide HL] at h9; omega : us.length = k)
    by_cases hlt : k < ts.length
    · have hlt' : (k : Int) < ts.length := by omega
      obtain ⟨g3, rfl⟩ := unhide HG (by omega)
      have hka : k < σ.A.length := by rw [← unhide HL]; exact hlt
      obtain ⟨p0, p1, p2, p3⟩ := rdFl_at (unhide HR) hlt
      have x3 := fst_at (unhide HT) hlt hka
      have hrd := (unhide HR).2 ts[k] (List.getElem_mem hlt)
      obtain ⟨xa, xl, xc, hxv, hxl, _⟩ := id hrd
      have p0 := (unhide HK).cell p0 (by simp)
      have p1 := (unhide HK).cell p1 (by simp)
      have p2 := (unhide HK).cell p2 (by simp)
      have p3 := (unhide HK).cell p3 (by simp)
      rw [hxv] at p1 hrd
      rw [x3] at p0 p2 p3 hrd hxl
      have HRX := hide (hrd.kept (unhide HK) (by simp))
      have HTK := hide (List.take_succ_eq_append_getElem hka)
      have HXB := hide (unhide HBY σ.A[k] (List.getElem_mem hka))
      clear hrd hxv x3
      generalize σ.A[k] = X at p0 p1 p2 p3 HRX HTK HXB hxl
      subst hxl
      go_upto_region 7 with fail
      have HKV := hide ((unhide HK).alloc (.cells #[.string X.nm, .slice xa X.bs.length xc, .int .i64 (X.sy : Int), .bool X.nd] 54 (0, 0)))
      have HKV1 := hide ((Kept.refl [] wr).alloc (.cells #[.string X.nm, .slice xa X.bs.length xc, .int .i64 (X.sy : Int), .bool X.nd] 54 (0, 0)))
      have HGV := hide (heap_alloc_new wr (.cells #[.string X.nm, .slice xa X.bs.length xc, .int .i64 (X.sy : Int), .bool X.nd] 54 (0, 0)))
      obtain ⟨V, hV⟩ : ∃ W, wr.alloc (.cells #[.string X.nm, .slice xa X.bs.length xc, .int .i64 (X.sy : Int), .bool X.nd] 54 (0, 0)) = W := ⟨_, rfl⟩
      rw [hV] at HKV HGV HKV1 ⊢
      clear hV p0 p1 p2 p3
      have z0 := cell_of_row _ _ 0 _ _ _ (unhide HGV)
      have z1 := cell_of_row _ _ 1 _ _ _ (unhide HGV)
      have z2 := cell_of_row _ _ 2 _ _ _ (unhide HGV)
      have z3 := cell_of_row _ _ 3 _ _ _ (unhide HGV)
      simp at z0 z1 z2 z3
      go_wp2_with fail
      refine Calls.mono (rtwin_any X (.slice xa X.bs.length xc) V ((unhide HRX).kept (unhide HKV1) (by simp))) ?_
      rintro e w2 ⟨g2, rfl, ho2, k2⟩
      have HK2 := hide ((unhide HKV).trans k2 (by simp))
      have HK2r := hide ((unhide HKV1).trans k2 (by simp))
      have HO2 := hide ho2
      have HBX := hide (unhide HRX).byte
      clear ho2 k2 z0 z1 z2 z3
      have k3 := (Kept.refl [] w2).alloc (.cells #[.string X.nm, .slice (some ⟨g2, 0, none⟩) X.bs.length X.bs.length, .int .i64 (X.sy : Int), .bool X.nd] 54 (0, 0))
      have HN3 := hide (heap_alloc_new w2 (.cells #[.string X.nm, .slice (some ⟨g2, 0, none⟩) X.bs.length X.bs.length, .int .i64 (X.sy : Int), .bool X.nd] 54 (0, 0)))
      have HO3 := hide (((unhide HOW).keptF (unhide HK2r) (by simp)).keptF k3 (by simp))
      have HE3 := hide (ownsB (B' := w.heap.size) (unhide HKV).size (k3.owns (unhide HO2) (by simp)))
      have HK3 := hide ((unhide HK2).trans k3 (by simp))
      have haa : ∀ a ∈ us, ∀ y ∈ blk a.2, y ∉ blk (.slice (some ⟨g2, 0, none⟩) X.bs.length X.bs.length) := by
        intro a ha y hy hz
        have h1 := ((unhide HOW).ge y (by simp only [flB, List.mem_append, List.mem_flatMap]; exact .inr ⟨a, ha, hy⟩)).2
        have h2 := ((unhide HO2).lt y (blk_own (unhide HO2) hz)).1
        have h3 := (unhide HKV1).size
        omega
      have HAA := hide haa
      clear haa
      have HUB := hide (by have := unhide HUL; omega : us.length + 1 ≤ 1000000000)
      clear k3
      go_wp2_with (at_builtin; refine wpList_pushFl rfl (.tmp 19) (.tmp 22) rfl rfl _ w.heap.size (.slice va us.length vc) us (X, .slice (some ⟨g2, 0, none⟩) X.bs.length X.bs.length) w2.heap.size (unhide HO3) (unhide HN3) ⟨unhide HE3, unhide HBX, by have := unhide HXB; show X.bs.length ≤ _; omega⟩ (unhide HAA) (unhide HUB) (unhide HK3).size rfl rfl ?_; intro g5 cap5 w5 HO5 HGR5 HA5)
      have HK5 := hide ((unhide HK3).grown (unhide HGR5) (by intro y hy; right; exact ((unhide HOW).own.lt y hy).1))
      have HINS := hide (⟨by rw [List.map_append, unhide HTK]; exact (List.Perm.append_right _ (unhide HPM)), by rw [List.append_nil]; exact unhide HSR, by simp⟩ : Ins σ.A k us [] (X, .slice (some ⟨g2, 0, none⟩) X.bs.length X.bs.length))
      obtain ⟨R0, hR0⟩ : ∃ R, R = wr := ⟨_, rfl⟩
      subst hR0
      obtain ⟨x, hx⟩ : ∃ x, (X, Value.slice (some ⟨g2, 0, none⟩) X.bs.length X.bs.length) = x := ⟨_, rfl⟩
      rw [hx] at HINS HO5
      clear hx
      rw [unhide HUL] at HO5 ⊢
      have hkb : (k : Int) + 1 - 1 = k := by omega
      have HUS := hide (unhide HUL)
      go_wp2_with fail
      go_loopw [6] (fun t6 wr => ∃ (i : Nat) (P S : List (DF × Value)), t6 = .int .i64 i ∧ Hid (P.length = i) ∧ Hid ((P ++ x :: S).length = k + 1) ∧ Hid (OwnFl w.heap.size wr (.slice (some ⟨g5, 0, none⟩) (k + 1) cap5) (P ++ x :: S)) ∧ Hid (Ins σ.A k P S x) ∧ Hid (Kept [] w wr)) (fun t _ => (intOf t).toNat)
      case atStart => exact ⟨k, us, [], by simp [wrap64]; omega, HUS, hide (by rw [List.length_append, unhide HUS]; rfl), HO5, HINS, HK5⟩
      case round =>
        obtain ⟨i, P, S, rfl, HPL, HTL, HOI, HIN, HKI⟩ := hrel
        have HIK := hide (by have h9 := unhide HTL; rw [List.length_append, List.length_cons, unhide HPL] at h9; omega : i ≤ k)
        have hik := unhide HIK
        have HOO := hide (by have h9 := (unhide HOI).own; rw [unhide HTL] at h9; exact h9)
        by_cases hi0 : 0 < i
        · obtain ⟨P', p, hPP⟩ : ∃ P' p, P = P' ++ [p] := by
            rcases List.eq_nil_or_concat P with h9 | ⟨P', p, h9⟩
            · have := unhide HPL; subst h9; simp at this; omega
            · exact ⟨P', p, by rw [h9, List.concat_eq_append]⟩
          obtain ⟨j, hj⟩ : ∃ j, i = j + 1 := ⟨i - 1, by omega⟩
          have hPj : P'.length = j := by have h9 := unhide HPL; rw [hPP, List.length_append] at h9; simp at h9; omega
          have hlen : (P ++ x :: S).length = k + 1 := unhide HTL
          have hxi : (P ++ x :: S)[i]'(by rw [hlen]; omega) = x := by
            rw [List.getElem_append_right (by rw [unhide HPL]; exact Nat.le_refl _)]
            simp [unhide HPL]
          have hpj : (P ++ x :: S)[j]'(by rw [hlen]; omega) = p := by
            rw [List.getElem_append_left (by rw [unhide HPL]; omega)]
            simp only [hPP]
            rw [List.getElem_append_right (by omega)]
            simp [hPj]
          obtain ⟨⟨x0, x1, x2, x3⟩, zf⟩ := owns_there (unhide HOO) (i := i) (by rw [hlen]; omega)
          obtain ⟨⟨a0, a1, a2, a3⟩, _⟩ := owns_there (unhide HOO) (i := j) (by rw [hlen]; omega)
          rw [hxi] at x0 x1 x2 x3
          rw [hpj] at a0 a1 a2 a3
          have hx2 := ((unhide HOI).el x (by simp)).1
          have hp2 := ((unhide HOI).el p (by rw [hPP]; simp)).1
          obtain ⟨ya, yc, hyv⟩ := owns_shape hx2
          obtain ⟨ra, rc, hrv⟩ := owns_shape hp2
          rw [hyv] at x1
          rw [hrv] at a1
          have hip : (0 : Int) < (i : Int) := by omega
          have hsub : (i : Int) - 1 = (j : Int) := by omega
          have hib : (i : Int) < (k : Int) + 1 := by omega
          have hjb : (j : Int) < (k : Int) + 1 := by omega
          have HPP := hide hPP
          have HPJ := hide hPj
          have HJ := hide hj
          have HYV := hide hyv
          have HRV := hide hrv
          have HX1 := hide x1
          have HA1 := hide a1
          have HZF := hide zf
          clear hPP hPj hlen hxi hpj hx2 hp2 hj hyv hrv zf
          go_upto_region 9 with fail
          by_cases hls : x.1.nm.data.toList < p.1.nm.data.toList
          · refine wp_region_quiet_lit (by kernel_rfl) (by kernel_rfl) ?_
            repeat (go_big_quiet_step (fail))
            refine wpQuiet_nil ?_
            rintro _ ⟨m5, rfl⟩
            rw [less_str, gt_str, decide_eq_true hls]
            have HLS := hide hls
            clear hls
            have x0 := ((Kept.refl [] wr).drewN m5).cell x0 (by simp)
            have x1 := ((Kept.refl [] wr).drewN m5).cell x1 (by simp)
            have x2 := ((Kept.refl [] wr).drewN m5).cell x2 (by simp)
            have x3 := ((Kept.refl [] wr).drewN m5).cell x3 (by simp)
            have a0 := ((Kept.refl [] wr).drewN m5).cell a0 (by simp)
            have a1 := ((Kept.refl [] wr).drewN m5).cell a1 (by simp)
            have a2 := ((Kept.refl [] wr).drewN m5).cell a2 (by simp)
            have a3 := ((Kept.refl [] wr).drewN m5).cell a3 (by simp)
            have HO0 := hide (((Kept.refl [] wr).drewN m5).owns (unhide HOO) (by simp))
            have HO9 := hide (((Kept.refl [] wr).drewN m5).drew.owns (unhide HOO) (by simp))
            have HOL := hide ((unhide HOI).keptF ((Kept.refl [] wr).drewN m5).drew (by simp))
            have HK9 := hide ((unhide HKI).drewN m5).drew
            obtain ⟨V0, hV0⟩ : ∃ W, wr.drewN m5 = W := ⟨_, rfl⟩
            rw [hV0] at x0 x1 x2 x3 a0 a1 a2 a3 HO0 HO9 HOL HK9 ⊢
            clear hV0
            go_upto_region 11 with fail
            have hlen : (P ++ x :: S).length = k + 1 := unhide HTL
            have ho1 := owns_put4 (unhide HO9) (i := j) (by rw [hlen]; omega) x
            obtain ⟨yj, hc1⟩ := owns_some (unhide HO0) (i := j) (by rw [hlen]; omega)
            obtain ⟨yi, hc2⟩ := owns_some ho1 (i := i) (by rw [List.length_set, hlen]; omega)
            have HC1 := hide hc1
            have HC2 := hide hc2
            have e1 : put4 V0.drew g5 j x = ((((V0.setCell ⟨g5, j * 4, none⟩ (.string x.1.nm)).setCell ⟨g5, j * 4 + 1, none⟩ (.slice ya x.1.bs.length yc)).setCell ⟨g5, j * 4 + 2, none⟩ (.int .i64 (x.1.sy : Int))).setCell ⟨g5, j * 4 + 3, none⟩ (.bool x.1.nd)).drew := by unfold put4; rw [unhide HYV]; rfl
            obtain ⟨W1, hW1⟩ : ∃ W, put4 V0.drew g5 j x = W := ⟨_, rfl⟩
            rw [hW1] at HC2 e1
            have e2 : put4 W1 g5 i p = (((W1.setCell ⟨g5, i * 4, none⟩ (.string p.1.nm)).setCell ⟨g5, i * 4 + 1, none⟩ (.slice ra p.1.bs.length rc)).setCell ⟨g5, i * 4 + 2, none⟩ (.int .i64 (p.1.sy : Int))).setCell ⟨g5, i * 4 + 3, none⟩ (.bool p.1.nd) := by unfold put4; rw [unhide HRV]
            have HFIN := hide (by
              have h8 := unhide HOL
              have hpp := unhide HPP
              have hpj := unhide HPJ
              rw [hpp, List.append_assoc] at h8
              have h9 := h8.swap (by have h7 := hlen; rw [hpp, List.append_assoc] at h7; exact h7)
              rw [hpj, hW1, ← unhide HJ] at h9
              exact h9 : OwnFl w.heap.size (put4 W1 g5 i p) (.slice (some ⟨g5, 0, none⟩) (k + 1) cap5) (P' ++ x :: p :: S))
            have HKF := hide (by
              have h8 := put4_kept (put4_kept (unhide HK9) g5 j x (.inr ((unhide HO9).lt g5 rfl).1)) g5 i p (.inr ((unhide HO9).lt g5 rfl).1)
              rw [hW1] at h8
              exact h8 : Kept [] w (put4 W1 g5 i p))
            have HE1 := hide e1
            have HE2 := hide e2
            clear hc1 hc2 ho1 hlen e1 e2 hW1
            have hwj : IntKind.i64.wrap (j : Int) = (j : Int) := by rw [IntKind.wrap_i64]; omega
            refine wp_sw18 (by kernel_rfl) (by kernel_rfl) (by kernel_rfl) (by kernel_rfl) (by kernel_rfl) (by kernel_rfl) (by kernel_rfl) (by kernel_rfl) (by kernel_rfl) (by kernel_rfl) (by kernel_rfl) (by kernel_rfl) (by kernel_rfl) (by kernel_rfl) (by kernel_rfl) (by kernel_rfl) (by kernel_rfl) (by kernel_rfl) (by kernel_rfl) (by kernel_rfl) (by kernel_rfl) (by kernel_rfl) (by kernel_rfl) (by kernel_rfl) (by kernel_rfl) (by kernel_rfl) (by kernel_rfl) (by kernel_rfl) (by kernel_rfl) (by kernel_rfl) (by kernel_rfl) (by kernel_rfl) (by kernel_rfl) (by kernel_rfl) (by kernel_rfl) (by kernel_rfl) (by kernel_rfl) (by kernel_rfl) (by kernel_rfl) (by kernel_rfl) (by kernel_rfl) (by kernel_rfl) (by kernel_rfl) (by kernel_rfl) (by kernel_rfl) rfl (by kernel_rfl) rfl (by kernel_rfl) rfl (by kernel_rfl) rfl (by kernel_rfl)
              (.slice (some ⟨g5, 0, none⟩) (k + 1) cap5) (.int .i64 (i : Int)) (.int .i64 (j : Int)) (.slice (some ⟨g5, 0, none⟩) (k + 1) cap5) (.int .i64 (i : Int)) (.slice (some ⟨g5, 0, none⟩) (k + 1) cap5) (.int .i64 (i : Int)) (.pointer (some ⟨g5, i * 4, none⟩)) (.agg #[.string x.1.nm, .slice ya x.1.bs.length yc, .int .i64 (x.1.sy : Int), .bool x.1.nd]) (.slice (some ⟨g5, 0, none⟩) (k + 1) cap5) (.int .i64 (i : Int)) (.int .i64 (j : Int)) (.pointer (some ⟨g5, j * 4, none⟩)) (.agg #[.string p.1.nm, .slice ra p.1.bs.length rc, .int .i64 (p.1.sy : Int), .bool p.1.nd]) (.pointer (some ⟨g5, j * 4, none⟩)) (.pointer (some ⟨g5, i * 4, none⟩)) _ _ _ _ _ _ _ _ _ _ _ _ _ _
              (fun w' => Kept [] V0 w') W1 (put4 W1 g5 i p)
              (by simp only [Act.put, List.setIfInBounds_toArray, List.set_cons_zero, List.set_cons_succ]; rfl) (by exact Or.inl ⟨by rfl, fun W' hW' => by  go_simp⟩)
              (by simp only [Act.put, List.setIfInBounds_toArray, List.set_cons_zero, List.set_cons_succ]; rfl) (by exact Or.inl ⟨by rfl, fun W' hW' => by  go_simp⟩)
              (by simp only [Act.put, List.setIfInBounds_toArray, List.set_cons_zero, List.set_cons_succ]; rfl) (by exact Or.inl ⟨by rfl, fun W' hW' => by  go_simp⟩)
              (by simp only [Act.put, List.setIfInBounds_toArray, List.set_cons_zero, List.set_cons_succ]; rfl) (by exact Or.inl ⟨by rfl, fun W' hW' => by  go_simp⟩)
              (by simp only [Act.put, List.setIfInBounds_toArray, List.set_cons_zero, List.set_cons_succ]; rfl) (by exact Or.inl ⟨by rfl, fun W' hW' => by  go_simp⟩)
              (by simp only [Act.put, List.setIfInBounds_toArray, List.set_cons_zero, List.set_cons_succ]; rfl) (by exact Or.inl ⟨by rfl, fun W' hW' => by  go_simp⟩)
              (by simp only [Act.put, List.setIfInBounds_toArray, List.set_cons_zero, List.set_cons_succ]; rfl) (by exact Or.inl ⟨by rfl, fun W' hW' => by  go_simp⟩)
              (by simp only [Act.put, List.setIfInBounds_toArray, List.set_cons_zero, List.set_cons_succ]; rfl) (by exact Or.inl ⟨by rfl, fun W' hW' => by  go_simp⟩)
              (by simp only [Act.put, List.setIfInBounds_toArray, List.set_cons_zero, List.set_cons_succ]; rfl) (by exact Or.inl ⟨by rfl, fun W' hW' => by have h90 := hW'.cell x0 (by simp); have h91 := hW'.cell x1 (by simp); have h92 := hW'.cell x2 (by simp); have h93 := hW'.cell x3 (by simp); go_simp⟩)
              (by simp only [Act.put, List.setIfInBounds_toArray, List.set_cons_zero, List.set_cons_succ]; rfl) (by exact Or.inl ⟨by rfl, fun W' hW' => by  go_simp⟩)
              (by simp only [Act.put, List.setIfInBounds_toArray, List.set_cons_zero, List.set_cons_succ]; rfl) (by exact Or.inl ⟨by rfl, fun W' hW' => by  go_simp⟩)
              (by simp only [Act.put, List.setIfInBounds_toArray, List.set_cons_zero, List.set_cons_succ]; rfl) (by exact Or.inl ⟨by rfl, fun W' hW' => by  go_simp⟩)
              (by simp only [Act.put, List.setIfInBounds_toArray, List.set_cons_zero, List.set_cons_succ]; rfl) (by exact Or.inl ⟨by rfl, fun W' hW' => by  go_simp⟩)
              (by simp only [Act.put, List.setIfInBounds_toArray, List.set_cons_zero, List.set_cons_succ]; rfl) (by exact Or.inl ⟨by rfl, fun W' hW' => by have h90 := hW'.cell a0 (by simp); have h91 := hW'.cell a1 (by simp); have h92 := hW'.cell a2 (by simp); have h93 := hW'.cell a3 (by simp); go_simp⟩)
              (Kept.refl [] V0).drew
              (by intro K hK; unfold Oper.wp execOp; go_simp; exact hK)
              (by
                intro K hK
                obtain ⟨⟨b0, b1, b2, b3⟩, zz⟩ := unhide HC1
                have f0 := zz (j * 4)
                have f1 := zz (j * 4 + 1)
                have f2 := zz (j * 4 + 2)
                have f3 := zz (j * 4 + 3)
                rw [unhide HE1] at hK
                unfold Oper.wp execOp
                go_simp
                exact hK)
              (by intro K hK; unfold Oper.wp execOp; go_simp; exact hK)
              (by
                intro K hK
                obtain ⟨⟨b0, b1, b2, b3⟩, zz⟩ := unhide HC2
                have f0 := zz (i * 4)
                have f1 := zz (i * 4 + 1)
                have f2 := zz (i * 4 + 2)
                have f3 := zz (i * 4 + 3)
                rw [unhide HE2] at hK
                unfold Oper.wp execOp
                go_simp
                exact hK)
              ?_
            simp only [Act.put, List.setIfInBounds_toArray, List.set_cons_zero, List.set_cons_succ]
            clear x0 x1 x2 x3 a0 a1 a2 a3
            have HIN2 := hide (by have h9 := unhide HIN; rw [unhide HPP] at h9; exact h9.down (unhide HLS))
            go_wp2_with fail
            refine ⟨⟨j, P', p :: S, by simp [hsub], HPJ, hide ?_, HFIN, HIN2, HKF⟩, ?_⟩
            · have h9 := unhide HTL; rw [unhide HPP, List.append_assoc] at h9; simp at h9 ⊢; omega
            · simp [intOf]; omega
          · refine wp_region_quiet_lit (by kernel_rfl) (by kernel_rfl) ?_
            repeat (go_big_quiet_step (fail))
            refine wpQuiet_nil ?_
            rintro _ ⟨m5, rfl⟩
            rw [less_str, gt_str, decide_eq_false hls]
            have HFS := hide ((unhide HIN).done (fun P2 p2 e9 => by
              have h9 := (unhide HPP).symm.trans e9
              have h8 := List.append_inj_right' h9 rfl
              simp at h8
              rw [← h8]
              exact List.not_lt.1 hls))
            clear hls x0 x1 x2 x3 a0 a1 a2 a3
            go_wp2
            go_roundw
            case rel => exact ⟨k + 1, P ++ x :: S, by omega, by simp, hide ((unhide HOI).keptF ((Kept.refl [] wr).drewN m5) (by simp)), hide (unhide HIN).perm, HFS, hide ((unhide HKI).drewN m5)⟩
            case measure => simp [intOf]; omega
        · have hip : ¬ (0 : Int) < (i : Int) := by omega
          have HFS := hide ((unhide HIN).done (fun P2 p2 e9 => by
            have h9 := unhide HPL
            rw [e9, List.length_append] at h9
            simp at h9
            omega))
          go_upto_region 9 with fail
          refine wp_region_quiet_lit (by kernel_rfl) (by kernel_rfl) ?_
          repeat (go_big_quiet_step (fail))
          refine wpQuiet_nil ?_
          rintro _ ⟨m5, rfl⟩
          go_wp2
          go_roundw
          case rel => exact ⟨k + 1, P ++ x :: S, by omega, by simp, hide ((unhide HOI).keptF ((Kept.refl [] wr).drewN m5) (by simp)), hide (unhide HIN).perm, HFS, hide ((unhide HKI).drewN m5)⟩
          case measure => simp [intOf]; omega
    · have hlt' : ¬ (k : Int) < ts.length := by omega
      have hke : k = ts.length := by omega
      subst hke
      have HFIN := hide (by
        have h9 := unhide HPM
        rw [unhide HL, List.take_length] at h9
        exact (srtA_unique (unhide HD) h9 (unhide HSR)).symm : us.map Prod.fst = srtA σ.A)
      go_wp2_with fail
      go_ret
      exact ⟨_, rfl, us, unhide HOW, unhide HFIN, unhide HK⟩
end Go.Proofs.Ytlopdlcepmmjdaa
/-
  Laws for drawn regions, by genreg.py. No program.
-/
namespace Go.Proofs.Ytlopdlcepmmjdaa
open Go Go.RowKit Go.BigFrame
set_option linter.unusedVariables false
set_option linter.unusedSimpArgs false
section
variable {P : Program} {Q : Exit → Act → World → Prop}
theorem wp_rr11 {id : Nat} {o0 o1 o2 o3 o4 o5 o6 o7 o8 o9 o10 : Oper} {a : Act} {w : World} (hm : P.follows .mixedOrders = true) (hs : Region.noSelect #[o0, o1, o2, o3, o4, o5, o6, o7, o8, o9, o10] = true)
    (f0 : Region.free .any #[o0, o1, o2, o3, o4, o5, o6, o7, o8, o9, o10] #[false, false, false, false, false, false, false, false, false, false, false] 0 = true) (r0 : (Region.ready .any #[o0, o1, o2, o3, o4, o5, o6, o7, o8, o9, o10] #[false, false, false, false, false, false, false, false, false, false, false]).contains 0 = true)
    (f1 : Region.free .any #[o0, o1, o2, o3, o4, o5, o6, o7, o8, o9, o10] #[true, false, false, false, false, false, false, false, false, false, false] 1 = true) (r1 : (Region.ready .any #[o0, o1, o2, o3, o4, o5, o6, o7, o8, o9, o10] #[true, false, false, false, false, false, false, false, false, false, false]).contains 1 = true)
    (f2 : Region.free .any #[o0, o1, o2, o3, o4, o5, o6, o7, o8, o9, o10] #[true, true, false, false, false, false, false, false, false, false, false] 2 = true) (r2 : (Region.ready .any #[o0, o1, o2, o3, o4, o5, o6, o7, o8, o9, o10] #[true, true, false, false, false, false, false, false, false, false, false]).contains 2 = true)
    (f3 : Region.free .any #[o0, o1, o2, o3, o4, o5, o6, o7, o8, o9, o10] #[true, true, true, false, false, false, false, false, false, false, false] 3 = true) (r3 : (Region.ready .any #[o0, o1, o2, o3, o4, o5, o6, o7, o8, o9, o10] #[true, true, true, false, false, false, false, false, false, false, false]).contains 3 = true)
    (f5 : Region.free .any #[o0, o1, o2, o3, o4, o5, o6, o7, o8, o9, o10] #[true, true, true, true, false, false, false, false, false, false, false] 5 = true) (r5 : (Region.ready .any #[o0, o1, o2, o3, o4, o5, o6, o7, o8, o9, o10] #[true, true, true, true, false, false, false, false, false, false, false]).contains 5 = true)
    (f6 : Region.free .any #[o0, o1, o2, o3, o4, o5, o6, o7, o8, o9, o10] #[true, true, true, true, false, true, false, false, false, false, false] 6 = true) (r6 : (Region.ready .any #[o0, o1, o2, o3, o4, o5, o6, o7, o8, o9, o10] #[true, true, true, true, false, true, false, false, false, false, false]).contains 6 = true)
    (f7 : Region.free .any #[o0, o1, o2, o3, o4, o5, o6, o7, o8, o9, o10] #[true, true, true, true, false, true, true, false, false, false, false] 7 = true) (r7 : (Region.ready .any #[o0, o1, o2, o3, o4, o5, o6, o7, o8, o9, o10] #[true, true, true, true, false, true, true, false, false, false, false]).contains 7 = true)
    (f8 : Region.free .any #[o0, o1, o2, o3, o4, o5, o6, o7, o8, o9, o10] #[true, true, true, true, false, true, true, true, false, false, false] 8 = true) (r8 : (Region.ready .any #[o0, o1, o2, o3, o4, o5, o6, o7, o8, o9, o10] #[true, true, true, true, false, true, true, true, false, false, false]).contains 8 = true)
    (q_ : Region.ready .any #[o0, o1, o2, o3, o4, o5, o6, o7, o8, o9, o10] #[true, true, true, true, false, true, true, true, true, false, false] = [4])
    (q4_ : Region.ready .any #[o0, o1, o2, o3, o4, o5, o6, o7, o8, o9, o10] #[true, true, true, true, true, true, true, true, true, false, false] = [9])
    (f4_9_10 : Region.free .any #[o0, o1, o2, o3, o4, o5, o6, o7, o8, o9, o10] #[true, true, true, true, true, true, true, true, true, true, false] 10 = true) (r4_9_10 : (Region.ready .any #[o0, o1, o2, o3, o4, o5, o6, o7, o8, o9, o10] #[true, true, true, true, true, true, true, true, true, true, false]).contains 10 = true)
    (q4_9_ : Region.ready .any #[o0, o1, o2, o3, o4, o5, o6, o7, o8, o9, o10] #[true, true, true, true, true, true, true, true, true, true, true] = [])
    (g4 : o4.guard = none)    (g9 : o9.guard = none)
    (v0 v1 v2 v3 v5 v6 v7 v8 : Value) (A0 A1 A2 A3 A4 A5 A6 A7 : Act)
    (S : World → Prop)
    (I_ : World → Prop)
    (I4_ : Value → World → Prop)
    (I4_9_ : Value → Value → World → Prop)
    (v10 : Value → Value)
    (p0 : a.put o0.dst v0 = A0) (hy0 : YieldsIf P #[o0, o1, o2, o3, o4, o5, o6, o7, o8, o9, o10] S o0 v0 a)
    (p1 : A0.put o1.dst v1 = A1) (hy1 : YieldsIf P #[o0, o1, o2, o3, o4, o5, o6, o7, o8, o9, o10] S o1 v1 A0)
    (p2 : A1.put o2.dst v2 = A2) (hy2 : YieldsIf P #[o0, o1, o2, o3, o4, o5, o6, o7, o8, o9, o10] S o2 v2 A1)
    (p3 : A2.put o3.dst v3 = A3) (hy3 : YieldsIf P #[o0, o1, o2, o3, o4, o5, o6, o7, o8, o9, o10] S o3 v3 A2)
    (p5 : A3.put o5.dst v5 = A4) (hy5 : YieldsIf P #[o0, o1, o2, o3, o4, o5, o6, o7, o8, o9, o10] S o5 v5 A3)
    (p6 : A4.put o6.dst v6 = A5) (hy6 : YieldsIf P #[o0, o1, o2, o3, o4, o5, o6, o7, o8, o9, o10] S o6 v6 A4)
    (p7 : A5.put o7.dst v7 = A6) (hy7 : YieldsIf P #[o0, o1, o2, o3, o4, o5, o6, o7, o8, o9, o10] S o7 v7 A5)
    (p8 : A6.put o8.dst v8 = A7) (hy8 : YieldsIf P #[o0, o1, o2, o3, o4, o5, o6, o7, o8, o9, o10] S o8 v8 A6)
    (i0 : I_ w.drew)
    (hIS : (∀ w', I_  w' → S w') ∧ (∀ (u4 : Value) w', I4_ u4 w' → S w') ∧ (∀ (u4 u9 : Value) w', I4_9_ u4 u9 w' → S w'))
    (s_4 : ∀ w', I_  w' → ∀ K : Act → World → Prop, (∀ (u4 : Value) w2, I4_ u4 w2 → K (A7.put o4.dst u4) w2) → o4.wp P A7 w' K (NoPanic Q))
    (s4_9 : ∀ (u4 : Value) w', I4_ u4 w' → ∀ K : Act → World → Prop, (∀ (u9 : Value) w2, I4_9_ u4 u9 w2 → K ((A7.put o4.dst u4).put o9.dst u9) w2) → o9.wp P (A7.put o4.dst u4) w' K (NoPanic Q))
    (y4_9_10 : ∀ (u4 u9 : Value) w', I4_9_ u4 u9 w' → YieldsIf P #[o0, o1, o2, o3, o4, o5, o6, o7, o8, o9, o10] S o10 (v10 u9) ((A7.put o4.dst u4).put o9.dst u9))
    (h : ∀ (u4 u9 : Value) w', I4_9_ u4 u9 w' → Q .normal (((A7.put o4.dst u4).put o9.dst u9).put o10.dst (v10 u9)) w') :
    (Code.region id #[o0, o1, o2, o3, o4, o5, o6, o7, o8, o9, o10] true).wp P Q a w := by
  subst p0 p1 p2 p3 p5 p6 p7 p8
  obtain ⟨z_, z4_, z4_9_⟩ := hIS
  refine wp_region_noPanic ?_
  refine wp_region_held_drew (S := S) hm (z_ _ i0) (fun hH => ?_)
  show wpAnyH P .any #[o0, o1, o2, o3, o4, o5, o6, o7, o8, o9, o10] (NoPanic Q) S 11 #[false, false, false, false, false, false, false, false, false, false, false] a w.drew
  refine wpAnyH_take (i := 0) (oi := o0) rfl hs f0 r0 (fun _ _ _ h => h) hy0 hH ?_
  refine wpAnyH_take (i := 1) (oi := o1) rfl hs f1 r1 (fun _ _ _ h => h) hy1 hH ?_
  refine wpAnyH_take (i := 2) (oi := o2) rfl hs f2 r2 (fun _ _ _ h => h) hy2 hH ?_
  refine wpAnyH_take (i := 3) (oi := o3) rfl hs f3 r3 (fun _ _ _ h => h) hy3 hH ?_
  refine wpAnyH_take (i := 5) (oi := o5) rfl hs f5 r5 (fun _ _ _ h => h) hy5 hH ?_
  refine wpAnyH_take (i := 6) (oi := o6) rfl hs f6 r6 (fun _ _ _ h => h) hy6 hH ?_
  refine wpAnyH_take (i := 7) (oi := o7) rfl hs f7 r7 (fun _ _ _ h => h) hy7 hH ?_
  refine wpAnyH_take (i := 8) (oi := o8) rfl hs f8 r8 (fun _ _ _ h => h) hy8 hH ?_
  generalize ((((((((a.put o0.dst v0).put o1.dst v1).put o2.dst v2).put o3.dst v3).put o5.dst v5).put o6.dst v6).put o7.dst v7).put o8.dst v8) = B at *
  have wa4 : ∀ y, Region.wanted o4 y = true := fun y => by unfold Region.wanted; rw [g4]
  have wa9 : ∀ y, Region.wanted o9 y = true := fun y => by unfold Region.wanted; rw [g9]
  have t4_9_ : ∀ (u4 u9 : Value) w', I4_9_ u4 u9 w' → wpAnyH P .any #[o0, o1, o2, o3, o4, o5, o6, o7, o8, o9, o10] (NoPanic Q) S 0 #[true, true, true, true, true, true, true, true, true, true, true] (((B.put o4.dst u4).put o9.dst u9).put o10.dst (v10 u9)) w' := by
    intro u4 u9 w0 i0
    exact ⟨q4_9_, NoPanic.normal (h u4 u9 w0 i0)⟩
  have t4_ : ∀ (u4 : Value) w', I4_ u4 w' → wpAnyH P .any #[o0, o1, o2, o3, o4, o5, o6, o7, o8, o9, o10] (NoPanic Q) S 2 #[true, true, true, true, true, true, true, true, true, false, false] (B.put o4.dst u4) w' := by
    intro u4 w0 i0
    refine wpAnyH_ready (rs := [9]) q4_ (by simp) (AllReadyH.cons (o := o9) rfl (fun K hK => ?_) AllReadyH.nil)
    · rw [if_pos (wa9 _)]
      refine s4_9 u4 w0 i0 K (fun u9 w1 i1 => hK.out _ _ (z4_9_ u4 u9 w1 i1) (fun _ => ?_))
      clear hK
      refine wpAnyH_take (i := 10) (oi := o10) rfl hs f4_9_10 r4_9_10 (fun _ _ _ h => h) (y4_9_10 u4 u9 w1 i1) (z4_9_ u4 u9 w1 i1) ?_
      exact t4_9_ u4 u9 w1 i1
  have t_ : ∀ w', I_  w' → wpAnyH P .any #[o0, o1, o2, o3, o4, o5, o6, o7, o8, o9, o10] (NoPanic Q) S 3 #[true, true, true, true, false, true, true, true, true, false, false] B w' := by
    intro w0 i0
    refine wpAnyH_ready (rs := [4]) q_ (by simp) (AllReadyH.cons (o := o4) rfl (fun K hK => ?_) AllReadyH.nil)
    · rw [if_pos (wa4 _)]
      refine s_4  w0 i0 K (fun u4 w1 i1 => hK.out _ _ (z4_ u4 w1 i1) (fun _ => ?_))
      clear hK
      exact t4_ u4 w1 i1
  exact t_ w.drew i0

end
end Go.Proofs.Ytlopdlcepmmjdaa
namespace Go.Proofs.Ytlopdlcepmmjdaa
open Go.RowKit Go.BigFrame Go.Maps Go.Sort
set_option linter.unusedVariables false
set_option linter.unusedSimpArgs false
theorem enc_nm (s : ByteArray) : encStr s.data.toList = .string s := rfl

set_option maxRecDepth 100000 in
set_option maxHeartbeats 2000000 in
theorem rNames_any (c nb bb : Nat) (R : List Nat) (σ : DSt) (w : World) (h : RK w c R nb bb σ) (hn : nb ≤ 900000000) (hb : bb ≤ 140737488350000) :
    Calls Try.prog 41 #[.pointer (some ⟨c, 0, none⟩)] w fun e w' => ∃ v, e = .returned v ∧ w'.ownsRow w.heap.size 9 1 v (nmsOf σ).length ((nmsOf σ).map encStr) ∧ Kept [] w w' := by
  obtain ⟨_, _, r5, _, _⟩ := h.cells
  obtain ⟨i0, hi, hz0, hz1, hz2⟩ := info_parts (show (Try.prog.info? 9).map (fun i => (i.zero, i.size, i.bytes)) = some (some (.string ⟨#[]⟩), 1, 16) by kernel_rfl)
  have HI := hide hi
  have HZ0 := hide hz0
  have HZ1 := hide hz1
  have HZ2 := hide hz2
  clear hi hz0 hz1 hz2
  cases ho : σ.off
  · have HF := hide (rfiles_any c nb bb R σ w h hn hb)
    have HNM := hide (srtA_names h.dist)
    have HLB := hide (by rw [srtA_len]; exact h.len : (srtA σ.A).length ≤ nb)
    rw [ho] at r5
    have e0 : nmsOf σ = srtN σ.A := by unfold nmsOf; rw [ho]; rfl
    rw [e0]
    clear h ho e0
    generalize srtA σ.A = SA at HF HNM HLB
    generalize srtN σ.A = SN at HNM ⊢
    go_enter Try.func41, Try.ntmps41
    go_wp2_with fail
    refine Calls.mono (unhide HF) ?_
    rintro e w1 ⟨v1, ts, rfl, ho1, ht1, k1⟩
    have HR := hide ho1.rd
    obtain ⟨a3, c3, hv3, hg3⟩ := ho1.shapeL
    subst hv3
    have HG := hide hg3
    have HK1 := hide k1
    have HSL := hide (by rw [← unhide HNM, List.length_map, ← ht1, List.length_map] : SN.length = ts.length)
    have HAT := hide (fun (i : Nat) (h1 : i < ts.length) (h2 : i < SN.length) => by
      have h3 : i < SA.length := by rw [← ht1, List.length_map]; exact h1
      have e1 := fst_at ht1 h1 h3
      have e2 : SN[i] = SA[i].nm.data.toList := by
        have h9 := congrArg (fun l => l[i]?) (unhide HNM)
        simp only [List.getElem?_map, List.getElem?_eq_getElem h3, List.getElem?_eq_getElem h2, Option.map_some] at h9
        exact (Option.some.inj h9).symm
      rw [e2, e1] : ∀ (i : Nat) (h1 : i < ts.length) (h2 : i < SN.length), SN[i] = ts[i].1.nm.data.toList)
    have htl : ts.length ≤ 900000000 := by have := unhide HLB; rw [← ht1, List.length_map] at this; omega
    clear ho1 ht1 k1 hg3
    go_wp2_with fail
    go_loopw [3, 18] (fun v t18 wr => ∃ (k : Nat), k ≤ ts.length ∧ t18 = .int .i64 k ∧ Hid (wr.ownsRow w1.heap.size 9 1 v k ((SN.take k).map encStr)) ∧ Hid (Kept [] w1 wr)) (fun _ t _ => ts.length - (intOf t).toNat)
    case atStart => exact ⟨0, Nat.zero_le _, rfl, hide (World.ownsRow_nil _ _ _ _), hide (Kept.refl _ _)⟩
    case round =>
      obtain ⟨k, hk, rfl, HO, HK⟩ := hrel
      obtain ⟨va, vc, hv⟩ := owns_formC (unhide HO)
      subst hv
      by_cases hlt : k < ts.length
      · have hlt' : (k : Int) < ts.length := by omega
        obtain ⟨g3, rfl⟩ := unhide HG (by omega)
        obtain ⟨p0, p1, p2, p3⟩ := rdFl_at (unhide HR) hlt
        have hks : k < SN.length := by rw [unhide HSL]; exact hlt
        have HE := hide (by rw [List.take_succ_eq_append_getElem hks, List.map_append, unhide HAT k hlt hks]; rfl : (SN.take (k + 1)).map encStr = (SN.take k).map encStr ++ [encStr ts[k].1.nm.data.toList])
        have hrd := (unhide HR).2 ts[k] (List.getElem_mem hlt)
        obtain ⟨xa, xl, xc, hxv, _⟩ := id hrd
        rw [hxv] at p1
        have p0 := (unhide HK).cell p0 (by simp)
        have p1 := (unhide HK).cell p1 (by simp)
        have p2 := (unhide HK).cell p2 (by simp)
        have p3 := (unhide HK).cell p3 (by simp)
        clear hrd hxv
        generalize ts[k].1 = X at p0 p2 p3 HE
        go_upto_region 7 with fail
        have HGV := hide (heap_alloc_new wr (.cells #[.string X.nm, .slice xa xl xc, .int .i64 (X.sy : Int), .bool X.nd] 54 (0, 0)))
        have HKV := hide ((Kept.refl [] wr).alloc (.cells #[.string X.nm, .slice xa xl xc, .int .i64 (X.sy : Int), .bool X.nd] 54 (0, 0)))
        obtain ⟨V, hV⟩ : ∃ W, wr.alloc (.cells #[.string X.nm, .slice xa xl xc, .int .i64 (X.sy : Int), .bool X.nd] 54 (0, 0)) = W := ⟨_, rfl⟩
        rw [hV] at HGV HKV ⊢
        clear hV p0 p1 p2 p3
        have z0 := cell_of_row _ _ 0 _ _ _ (unhide HGV)
        simp at z0
        have HOV := hide ((unhide HKV).owns (unhide HO) (by simp))
        have HSZ := hide (Nat.le_trans (unhide HK).size (unhide HKV).size)
        go_wp2_with (at_builtin; refine wpList_append_own_at _ rfl _ _ 74 rfl w1.heap.size 9 i0 (.string ⟨#[]⟩) 1 16 Try.underlying74 (unhide HI) (unhide HZ0) (unhide HZ1) (unhide HZ2) rfl (by decide) _ _ _ rfl ((unhide HOV).alloc _) ⟨V.heap.size, 0, none⟩ 1 1 [encStr X.nm.data.toList] rfl rfl (cell_one_new _ _ _) (by simp [Value.oneCell', encStr]) (by unfold maxLen; omega) (by omega) (by have := unhide HSZ; simp; omega) ?_; intro v' w3 hown' hg3 hnil3 hat3; have HOW3 := hide hown'; have HG3 := hide hg3; clear hown' hg3 hnil3 hat3)
        have HK3 := hide ((((unhide HK).trans (unhide HKV) (by simp)).alloc (.cells #[.string X.nm] 9 (0, 0))).grown (unhide HG3) (by intro x hx; exact .inr ((unhide HO).lt x hx).1))
        refine ⟨⟨k + 1, by omega, by simp, hide (by rw [unhide HE]; exact unhide HOW3), HK3⟩, ?_⟩
        simp [intOf]; omega
      · have hlt' : ¬ (k : Int) < ts.length := by omega
        have hke : k = ts.length := by omega
        subst hke
        have HFIN := hide (by
          have h9 := unhide HO
          rw [← unhide HSL, List.take_length] at h9
          exact ownsB (unhide HK1).size h9)
        rw [unhide HSL] at HFIN
        have HSL2 := hide (unhide HSL)
        go_wp2_with fail
        go_ret
        exact ⟨_, rfl, by rw [unhide HSL2]; exact unhide HFIN, (unhide HK1).trans (unhide HK) (by simp)⟩
  · rw [ho] at r5
    have e0 : nmsOf σ = [] := by unfold nmsOf; rw [ho]; rfl
    rw [e0]
    clear h ho e0
    go_enter Try.func41, Try.ntmps41
    go_wp2_with fail
    go_ret
    exact ⟨_, rfl, World.ownsRow_nil _ _ _ _, Kept.refl _ _⟩

theorem setF_byte (k : KeepD) (sec : Nat) (f : DF) (h : ∀ x ∈ f.bs, x < 256) : ∀ x ∈ (setF k sec f).bs, x < 256 := by
  unfold setF
  split
  · intro x hx
    rcases List.mem_append.1 hx with h1 | h1
    · exact h x (List.mem_of_mem_take h1)
    · have := List.eq_of_mem_replicate h1; omega
  · intro x hx
    exact h x (List.mem_of_mem_take hx)
theorem df_eta {Y : DF} {a : ByteArray} (h1 : Y.nm = a) (h2 : Y.sy = Y.bs.length) (h3 : Y.nd = true) : Y = ⟨a, Y.bs, Y.bs.length, true⟩ := by
  obtain ⟨nm, bs, sy, nd⟩ := Y
  simp only at h1 h2 h3
  subst h1 h2 h3
  rfl
theorem rput6_heap {w : World} {g : Nat} {a b c d e f : Value} {t : TypeId} (h : w.heap[g]? = some (.cells #[a, b, c, d, e, f] t (0, 0))) (x0 x1 x2 x3 x4 x5 : Value) : ((((((w.setCell ⟨g, 0, none⟩ x0).setCell ⟨g, 1, none⟩ x1).setCell ⟨g, 2, none⟩ x2).setCell ⟨g, 3, none⟩ x3).setCell ⟨g, 4, none⟩ x4).setCell ⟨g, 5, none⟩ x5).heap[g]? = some (.cells #[x0, x1, x2, x3, x4, x5] t (0, 0)) := by
  rw [heap_setCell_same _ g 5 _ t _ (heap_setCell_same _ g 4 _ t _ (heap_setCell_same _ g 3 _ t _ (heap_setCell_same _ g 2 _ t _ (heap_setCell_same _ g 1 _ t _ (heap_setCell_same w g 0 _ t _ h)))))]; rfl
theorem rput6_kept {L : List Nat} {w0 w : World} (k : Kept L w0 w) (g : Nat) (hg : g ∈ L ∨ w0.heap.size ≤ g) (x0 x1 x2 x3 x4 x5 : Value) : Kept L w0 ((((((w.setCell ⟨g, 0, none⟩ x0).setCell ⟨g, 1, none⟩ x1).setCell ⟨g, 2, none⟩ x2).setCell ⟨g, 3, none⟩ x3).setCell ⟨g, 4, none⟩ x4).setCell ⟨g, 5, none⟩ x5) := (((((k.setCell hg x0).setCell hg x1).setCell hg x2).setCell hg x3).setCell hg x4).setCell hg x5
/-- What stays, name by name. -/
def cutR (n : Int) : Nat → List DF → List DF
  | _, [] => []
  | m, f :: r => if f.nd then f :: cutR n m r else if n < (m : Int) + 1 then cutR n (m + 1) r else f :: cutR n (m + 1) r
theorem cutR_eq (n : Int) (A : List DF) : ∀ m, cutR n m A = cutN (wtn (n - m) (unA A)).toNat A := by
  induction A with
  | nil => intro m; simp [cutR, cutN]
  | cons f r ih =>
    intro m
    cases hn : f.nd
    · have hu : unA (f :: r) = unA r + 1 := by unfold unA; rw [List.filter_cons_of_pos (by simp [hn])]; rfl
      simp only [cutR, hn, Bool.false_eq_true, if_false]
      by_cases hm : n < (m : Int) + 1
      · rw [if_pos hm, ih (m + 1), hu]
        have e1 : (wtn (n - (m + 1 : Nat)) (unA r)).toNat = 0 := by unfold wtn; omega
        have e2 : (wtn (n - m) ((unA r + 1 : Nat))).toNat = 0 := by unfold wtn; omega
        rw [e1, e2]
        simp [cutN, hn]
      · rw [if_neg hm, ih (m + 1), hu]
        have e2 : (wtn (n - m) ((unA r + 1 : Nat))).toNat = (wtn (n - (m + 1 : Nat)) (unA r)).toNat + 1 := by unfold wtn; omega
        rw [e2]
        simp [cutN, hn]
    · have hu : unA (f :: r) = unA r := by unfold unA; rw [List.filter_cons_of_neg (by simp [hn])]
      simp only [cutR, hn, if_true]
      rw [ih m, hu]
      generalize (wtn (n - m) (unA r)).toNat = k
      cases k <;> simp [cutN, hn]
theorem cutR_zero (σ : DSt) (n : Int) (ks : List KeepD) : setA ks σ.sec (cutR n 0 σ.A) = (stRestart σ n ks).A := by
  rw [cutR_eq]
  simp [stRestart]

set_option maxRecDepth 100000 in
set_option maxHeartbeats 4000000 in
theorem rrestart_any (c nb bb : Nat) (R : List Nat) (σ : DSt) (n : Int) (kv : Value) (ks : List KeepD) (w : World) (h : RK w c R nb bb σ) (hn : nb ≤ 900000000) (hb : bb ≤ 140737488330000) (hnr : Rng n) (hks : RdC 3 w kv (ks.map keC)) (hkl : ks.length ≤ 1000000000) :
    Calls Try.prog 51 #[.pointer (some ⟨c, 0, none⟩), .agg #[.int .i64 n, kv]] w fun e w' => e = .returned (.tuple #[]) ∧ ∃ R', RK w' c R' nb (bb + 4096) (stRestart σ n ks) ∧ Ev w w' R R' := by
  obtain ⟨ka, kl, kc, hkv⟩ : ∃ a l c, kv = .slice a l c := by obtain ⟨a, l, c, h1, _⟩ := hks; exact ⟨a, l, c, h1⟩
  subst hkv
  obtain ⟨fsv, ts, fav, fl, hp, hR⟩ := h.parts
  obtain ⟨a3, c3, hv3, hg3⟩ := hp.own.shapeL
  subst hv3
  have kA := (Kept.refl [] w).alloc (.cells #[.int .i64 n, .slice ka kl kc] 40 (0, 0))
  have gA := heap_alloc_new w (.cells #[.int .i64 n, .slice ka kl kc] 40 (0, 0))
  obtain ⟨WA, hWA⟩ : ∃ W, w.alloc (.cells #[.int .i64 n, .slice ka kl kc] 40 (0, 0)) = W := ⟨_, rfl⟩
  rw [hWA] at kA gA
  have HWA := hide hWA
  have HKA := hide kA
  have HGA := hide gA
  have hpA := hp.old kA
  have HPA := hide hpA
  have q1 := cell_of_row _ _ 1 _ _ _ hpA.row
  simp [rkC] at q1
  have hl := hp.len
  have hll := h.len
  have HR := hide hpA.own.rd
  have HT := hide hp.fst
  have HG := hide hg3
  have HL := hide hl
  have H := hide h
  have HP := hide hp
  have HRR := hide hR
  have HKS := hide (hks.keptZ kA (by simp))
  have htl : ts.length ≤ 900000000 := by omega
  have hsec := h.secb
  have HD0 := hide (cutR_zero σ n ks)
  have hn1 : -9223372036854775808 ≤ n ∧ n ≤ 9223372036854775807 := hnr
  clear hp hpA hg3 hl hll h hR hWA kA gA hks hnr
  go_enter Try.func51, Try.ntmps51
  go_wp2_with (first | (rw [unhide HWA]) | fail)
  go_loopw [4, 5, 16] (fun v t5 t16 wr => ∃ (k m : Nat) (us : List (DF × Value)), k ≤ ts.length ∧ t16 = .int .i64 k ∧ t5 = .int .i64 m ∧ Hid (m ≤ k ∧ us.length ≤ k) ∧ Hid (OwnFl WA.heap.size wr v us) ∧ Hid (us.map Prod.fst ++ setA ks σ.sec (cutR n m (σ.A.drop k)) = (stRestart σ n ks).A) ∧ Hid (Kept [] WA wr)) (fun _ _ t _ => ts.length - (intOf t).toNat)
  case atStart => exact ⟨0, 0, [], Nat.zero_le _, rfl, rfl, hide (by simp), hide (OwnFl.nil _ _), hide (by rw [List.drop_zero]; exact unhide HD0), hide (Kept.refl _ _)⟩
  case round =>
    obtain ⟨k, m, us, hk, rfl, rfl, HMK, HOW, HEQ, HK⟩ := hrel
    obtain ⟨va, vc, hv, hvg⟩ := (unhide HOW).shapeL
    subst hv
    have hmk := unhide HMK
    by_cases hlt : k < ts.length
    · have hlt' : (k : Int) < ts.length := by omega
      obtain ⟨g3, rfl⟩ := unhide HG (by omega)
      have hka : k < σ.A.length := by rw [← unhide HL]; exact hlt
      obtain ⟨p0, p1, p2, p3⟩ := rdFl_at (unhide HR) hlt
      have x3 := fst_at (unhide HT) hlt hka
      have hrd := (unhide HR).2 ts[k] (List.getElem_mem hlt)
      obtain ⟨xa, xl, xc, hxv, hxl, _⟩ := id hrd
      have p0 := (unhide HK).cell p0 (by simp)
      have p1 := (unhide HK).cell p1 (by simp)
      have p2 := (unhide HK).cell p2 (by simp)
      have p3 := (unhide HK).cell p3 (by simp)
      rw [hxv] at p1 hrd
      rw [x3] at p0 p2 p3 hrd hxl
      have HRX := hide (hrd.kept (unhide HK) (by simp))
      have HXB := hide ((unhide H).byt σ.A[k] (List.getElem_mem hka))
      have HXS := hide ((unhide H).syl σ.A[k] (List.getElem_mem hka))
      have HEQ2 := hide (by have h9 := unhide HEQ; rw [List.drop_eq_getElem_cons hka] at h9; exact h9)
      clear hrd hxv x3
      generalize σ.A[k] = X at p0 p1 p2 p3 HRX HXB HXS hxl HEQ2
      subst hxl
      go_upto_region 7 with fail
      have HKV1 := hide ((Kept.refl [] wr).alloc (.cells #[.string X.nm, .slice xa X.bs.length xc, .int .i64 (X.sy : Int), .bool X.nd] 54 (0, 0)))
      have HGV := hide (heap_alloc_new wr (.cells #[.string X.nm, .slice xa X.bs.length xc, .int .i64 (X.sy : Int), .bool X.nd] 54 (0, 0)))
      obtain ⟨V, hV⟩ : ∃ W, wr.alloc (.cells #[.string X.nm, .slice xa X.bs.length xc, .int .i64 (X.sy : Int), .bool X.nd] 54 (0, 0)) = W := ⟨_, rfl⟩
      rw [hV] at HGV HKV1 ⊢
      clear hV p0 p1 p2 p3
      have HKV := hide ((unhide HK).trans (unhide HKV1) (by simp))
      have z0 := cell_of_row _ _ 0 _ _ _ (unhide HGV)
      have z1 := cell_of_row _ _ 1 _ _ _ (unhide HGV)
      have z2 := cell_of_row _ _ 2 _ _ _ (unhide HGV)
      have z3 := cell_of_row _ _ 3 _ _ _ (unhide HGV)
      simp at z0 z1 z2 z3
      have t0 := cell_of_row _ _ 0 _ _ _ ((unhide HKV).heap (unhide HGA) (by simp))
      have t1 := cell_of_row _ _ 1 _ _ _ ((unhide HKV).heap (unhide HGA) (by simp))
      simp at t0 t1
      have q0 := cell_of_row _ _ 0 _ _ _ ((unhide HKV).heap (unhide HPA).row (by simp))
      simp [rkC] at q0
      by_cases hskip : X.nd = false ∧ n < (m : Int) + 1
      · have hnd := hskip.1
        have HEQ3 := hide (by have h9 := unhide HEQ2; simp only [cutR, hnd, Bool.false_eq_true, if_false] at h9; rw [if_pos hskip.2] at h9; exact h9)
        have hmm : n < (m : Int) + 1 := hskip.2
        rw [hnd] at z3
        clear hskip hnd HEQ2
        go_wp2_with fail
        refine ⟨⟨k + 1, m + 1, us, by omega, by simp, by simp, hide (by omega), hide ((unhide HOW).keptF (unhide HKV1) (by simp)), HEQ3, HKV⟩, ?_⟩
        simp [intOf]; omega
      · obtain ⟨m2, hm2⟩ : ∃ m2 : Nat, (if X.nd then m else m + 1) = m2 := ⟨_, rfl⟩
        have HM2 := hide (by rw [← hm2]; split <;> omega : m2 ≤ k + 1)
        have HEQ3 := hide (by
          have h9 := unhide HEQ2
          have e9 : cutR n m (X :: σ.A.drop (k + 1)) = X :: cutR n m2 (σ.A.drop (k + 1)) := by
            cases hnd : X.nd
            · rw [hnd] at hm2
              simp only [Bool.false_eq_true, if_false] at hm2
              subst hm2
              simp only [cutR, hnd, Bool.false_eq_true, if_false]
              rw [if_neg (fun h8 => hskip ⟨hnd, h8⟩)]
            · rw [hnd] at hm2
              simp only [if_true] at hm2
              subst hm2
              simp only [cutR, hnd, if_true]
          rw [e9] at h9
          exact h9 : us.map Prod.fst ++ setA ks σ.sec (X :: cutR n m2 (σ.A.drop (k + 1))) = (stRestart σ n ks).A)
        cases hnd : X.nd
        case' false =>
          rw [hnd] at hm2 z3
          simp only [Bool.false_eq_true, if_false] at hm2
          have hmm : ¬ n < (m : Int) + 1 := fun h8 => hskip ⟨hnd, h8⟩
          have hm3 : (m : Int) + 1 = (m2 : Int) := by omega
          have hmm2 : ¬ n < (m2 : Int) := by omega
          clear hskip hm2
          go_upto_region 10 with fail
        case' true =>
          rw [hnd] at hm2 z3
          simp only [if_true] at hm2
          have hm2' : m2 = m := hm2.symm
          clear hm2
          subst hm2'
          have hm3 : True := trivial
          have hmm : True := trivial
          have hmm2 : True := trivial
          clear hskip
          go_upto_region 10 with fail
        all_goals
          clear hm3 hmm hmm2 HEQ2
          rw [← hnd] at z3
          clear hnd
          refine wp_rr11 (by kernel_rfl) (by kernel_rfl) (by kernel_rfl) (by kernel_rfl) (by kernel_rfl) (by kernel_rfl) (by kernel_rfl) (by kernel_rfl) (by kernel_rfl) (by kernel_rfl) (by kernel_rfl) (by kernel_rfl) (by kernel_rfl) (by kernel_rfl) (by kernel_rfl) (by kernel_rfl) (by kernel_rfl) (by kernel_rfl) (by kernel_rfl) (by kernel_rfl) (by kernel_rfl) (by kernel_rfl) (by kernel_rfl) rfl rfl
            (.agg #[.string X.nm, .slice xa X.bs.length xc, .int .i64 (X.sy : Int), .bool X.nd]) (.agg #[.int .i64 n, .slice ka kl kc]) (.pointer (some ⟨wr.heap.size, 0, none⟩)) (.string X.nm) (.pointer (some ⟨c, 0, none⟩)) (.pointer (some ⟨c, 0, none⟩)) (.pointer (some ⟨c, 0, none⟩)) (.int .i64 (σ.sec : Int)) _ _ _ _ _ _ _ _
            (fun w' => Kept [] V w')
            (fun w' => Kept [] V w')
            (fun u4 w' => u4 = keV ((fstK ks X.nm.data.toList).getD zK) ∧ Kept [] V w')
            (fun u4 u9 w' => (w'.ownsRow V.heap.size 5 1 u9 (setF ((fstK ks X.nm.data.toList).getD zK) σ.sec X).bs.length ((setF ((fstK ks X.nm.data.toList).getD zK) σ.sec X).bs.map Go.Proofs.Ytlopdlcepmmjdaa.u8) ∧ ∃ aa cc, u9 = .slice aa (setF ((fstK ks X.nm.data.toList).getD zK) σ.sec X).bs.length cc) ∧ Kept [] V w')
            (fun u9 => u9)
            (by simp only [Act.put, List.setIfInBounds_toArray, List.set_cons_zero, List.set_cons_succ]; rfl) (by exact Or.inl ⟨by rfl, fun W' hW' => by have h90 := hW'.cell z0 (by simp); have h91 := hW'.cell z1 (by simp); have h92 := hW'.cell z2 (by simp); have h93 := hW'.cell z3 (by simp); go_simp⟩)
            (by simp only [Act.put, List.setIfInBounds_toArray, List.set_cons_zero, List.set_cons_succ]; rfl) (by exact Or.inl ⟨by rfl, fun W' hW' => by have h90 := hW'.cell t0 (by simp); have h91 := hW'.cell t1 (by simp); go_simp⟩)
            (by simp only [Act.put, List.setIfInBounds_toArray, List.set_cons_zero, List.set_cons_succ]; rfl) (by exact Or.inl ⟨by rfl, fun W' hW' => by  go_simp⟩)
            (by simp only [Act.put, List.setIfInBounds_toArray, List.set_cons_zero, List.set_cons_succ]; rfl) (by exact Or.inl ⟨by rfl, fun W' hW' => by have h90 := hW'.cell z0 (by simp); go_simp⟩)
            (by simp only [Act.put, List.setIfInBounds_toArray, List.set_cons_zero, List.set_cons_succ]; rfl) (by exact Or.inl ⟨by rfl, fun W' hW' => by  go_simp⟩)
            (by simp only [Act.put, List.setIfInBounds_toArray, List.set_cons_zero, List.set_cons_succ]; rfl) (by exact Or.inl ⟨by rfl, fun W' hW' => by  go_simp⟩)
            (by simp only [Act.put, List.setIfInBounds_toArray, List.set_cons_zero, List.set_cons_succ]; rfl) (by exact Or.inl ⟨by rfl, fun W' hW' => by  go_simp⟩)
            (by simp only [Act.put, List.setIfInBounds_toArray, List.set_cons_zero, List.set_cons_succ]; rfl) (by exact Or.inl ⟨by rfl, fun W' hW' => by have h90 := hW'.cell q0 (by simp); go_simp⟩)
            (Kept.refl [] V).drew
            ⟨fun w' h => h, fun u4 w' h => h.2, fun u4 u9 w' h => h.2⟩
            (by
              intro w' k K hK
              refine wp_callN rfl Try.call72 [.agg #[.int .i64 n, .slice ka kl kc], .string X.nm] rfl (rkeep_any n (.slice ka kl kc) ks X.nm w' (((unhide HKS).keptZ (unhide HKV) (by simp)).keptZ k (by simp)) hkl) ?_
              rintro e w2 ⟨rfl, k2⟩
              exact ⟨_, rfl, hK _ _ ⟨rfl, k.trans k2 (by simp)⟩⟩)
            (by
              rintro u4 w' ⟨rfl, k⟩ K hK
              refine wp_callN rfl Try.call71 [.agg #[.string X.nm, .slice xa X.bs.length xc, .int .i64 (X.sy : Int), .bool X.nd], keV ((fstK ks X.nm.data.toList).getD zK), .int .i64 (σ.sec : Int)] rfl (rleft_any ((fstK ks X.nm.data.toList).getD zK) X (.slice xa X.bs.length xc) σ.sec w' (((unhide HRX).kept (unhide HKV1) (by simp)).kept k (by simp)) (unhide HXS) (by have := unhide HXB; omega) hsec.1 hsec.2) ?_
              rintro e w2 ⟨v, rfl, ho, k2⟩
              obtain ⟨a9, c9, h9⟩ := owns_shape ho
              exact ⟨_, rfl, hK _ _ ⟨⟨ownsB k.size ho, a9, c9, h9⟩, k.trans k2 (by simp)⟩⟩)
            (by rintro u4 u9 w' ⟨⟨ho, aa, cc, rfl⟩, k⟩; exact Or.inl ⟨by rfl, fun W' hW' => by go_simp⟩)
            ?_
          rintro u4 u9 w9 ⟨⟨ho9, aa, cc, rfl⟩, k9⟩
          simp only [Act.put, List.setIfInBounds_toArray, List.set_cons_zero, List.set_cons_succ]
          have hYl : (setF ((fstK ks X.nm.data.toList).getD zK) σ.sec X).bs.length ≤ bb + 4096 := by have := setF_len ((fstK ks X.nm.data.toList).getD zK) σ.sec X hsec.1 hsec.2; have := unhide HXB; omega
          have hYB := setF_byte ((fstK ks X.nm.data.toList).getD zK) σ.sec X (unhide HRX).byte
          have HEQ4 := hide (by have h9 := unhide HEQ3; rw [show setA ks σ.sec (X :: cutR n m2 (σ.A.drop (k + 1))) = (setF ((fstK ks X.nm.data.toList).getD zK) σ.sec X) :: setA ks σ.sec (cutR n m2 (σ.A.drop (k + 1))) from rfl] at h9; exact h9)
          have hY := df_eta (setF_nm ((fstK ks X.nm.data.toList).getD zK) σ.sec X) (setF_sy ((fstK ks X.nm.data.toList).getD zK) σ.sec X (unhide HXS)) (setF_nd ((fstK ks X.nm.data.toList).getD zK) σ.sec X)
          generalize (setF ((fstK ks X.nm.data.toList).getD zK) σ.sec X).bs = BS at hY hYl hYB ho9 ⊢
          rw [hY] at HEQ4
          have HYB := hide hYB
          have HO9 := hide ho9
          have HK9 := hide ((unhide HKV).trans k9 (by simp))
          have z0 := k9.cell z0 (by simp)
          have k3 := (Kept.refl [] w9).alloc (.cells #[.string X.nm, .slice aa BS.length cc, .int .i64 (BS.length : Int), .bool true] 54 (0, 0))
          have HN3 := hide (heap_alloc_new w9 (.cells #[.string X.nm, .slice aa BS.length cc, .int .i64 (BS.length : Int), .bool true] 54 (0, 0)))
          have HO3 := hide ((((unhide HOW).keptF (unhide HKV1) (by simp)).keptF k9 (by simp)).keptF k3 (by simp))
          have HE3 := hide (ownsB (B' := WA.heap.size) (unhide HKV).size (k3.owns ho9 (by simp)))
          have HK3 := hide ((unhide HK9).trans k3 (by simp))
          have haa : ∀ a ∈ us, ∀ y ∈ blk a.2, y ∉ blk (.slice aa BS.length cc) := by
            intro a ha y hy hz
            have h1 := ((unhide HOW).ge y (by simp only [flB, List.mem_append, List.mem_flatMap]; exact .inr ⟨a, ha, hy⟩)).2
            have h2 := (ho9.lt y (blk_own ho9 hz)).1
            have h3 := (unhide HKV1).size
            omega
          have HAA := hide haa
          have HUB := hide (by omega : us.length + 1 ≤ 1000000000)
          have HYL := hide (by omega : BS.length ≤ 140737488355328)
          clear k3 haa ho9 k9 z1 z2 z3 t0 t1 q0 hY hYB hYl
          go_wp2_with (at_builtin; refine wpList_pushFl rfl (.tmp 39) (.tmp 46) rfl rfl _ WA.heap.size (.slice va us.length vc) us (⟨X.nm, BS, BS.length, true⟩, .slice aa BS.length cc) w9.heap.size (unhide HO3) (unhide HN3) ⟨unhide HE3, unhide HYB, unhide HYL⟩ (unhide HAA) (unhide HUB) (unhide HK3).size rfl rfl ?_; intro g5 cap5 w5 HO5 HGR5 HA5)
          have HK5 := hide ((unhide HK3).grown (unhide HGR5) (by intro y hy; right; exact ((unhide HOW).own.lt y hy).1))
          refine ⟨⟨k + 1, m2, us ++ [(⟨X.nm, BS, BS.length, true⟩, .slice aa BS.length cc)], by omega, by simp, rfl, hide (by have := unhide HM2; simp; omega), HO5, hide (by rw [List.map_append, List.append_assoc]; exact unhide HEQ4), HK5⟩, ?_⟩
          simp [intOf]; omega
    · have hlt' : ¬ (k : Int) < ts.length := by omega
      have hke : k = ts.length := by omega
      subst hke
      have HFST := hide (by
        have h9 := unhide HEQ
        rw [unhide HL, List.drop_length] at h9
        have h8 : us.map Prod.fst ++ [] = (stRestart σ n ks).A := h9
        rw [List.append_nil] at h8
        exact h8 : us.map Prod.fst = (stRestart σ n ks).A)
      have hROW := (unhide HK).heap (unhide HPA).row (by simp)
      have HROW := hide hROW
      have y0 := cell_of_row _ _ 0 _ _ _ hROW
      have y1 := cell_of_row _ _ 1 _ _ _ hROW
      have y2 := cell_of_row _ _ 2 _ _ _ hROW
      have y3 := cell_of_row _ _ 3 _ _ _ hROW
      have y4 := cell_of_row _ _ 4 _ _ _ hROW
      have y5 := cell_of_row _ _ 5 _ _ _ hROW
      simp [rkC] at y0 y1 y2 y3 y4 y5
      have f0 := frozen_of_row _ _ 0 _ _ hROW
      have f1 := frozen_of_row _ _ 1 _ _ hROW
      have f2 := frozen_of_row _ _ 2 _ _ hROW
      have f3 := frozen_of_row _ _ 3 _ _ hROW
      have f4 := frozen_of_row _ _ 4 _ _ hROW
      have f5 := frozen_of_row _ _ 5 _ _ hROW
      clear hROW q1
      obtain ⟨fv9, hfv9⟩ : ∃ v, fav = v := ⟨_, rfl⟩
      go_wp2_with fail
      have h0 := unhide H
      have hw9 := (unhide HK)
      have kf := rput6_kept (Kept.refl [c] wr) c (.inl (by simp)) (.int .i64 (σ.sec : Int)) (.slice va us.length vc) (.slice none 0 0) (.int .i64 0) (.int .i64 0) (.bool false)
      have hrow9 := rput6_heap (unhide HROW) (.int .i64 (σ.sec : Int)) (.slice va us.length vc) (.slice none 0 0) (.int .i64 0) (.int .i64 0) (.bool false)
      have hcw := lt_of_block (unhide HP).row
      have hne : ∀ x ∈ flB (.slice va us.length vc) us, x ∉ [c] := by
        intro x hx hm
        simp only [List.mem_singleton] at hm
        subst hm
        have h1 := ((unhide HOW).ge _ hx).1
        have h2 := (unhide HKA).size
        omega
      have hz : zblk (.slice none 0 0) (([] : List (Int × Int)).map faC) = [] := rfl
      have hfin : RP _ c (stRestart σ n ks) (.slice va us.length vc) us (.slice none 0 0) [] nb := ⟨hrow9, (⟨owns_zero ((unhide HOW).keptF kf hne).own, fun t ht => ⟨owns_zero (((unhide HOW).keptF kf hne).el t ht).1, (((unhide HOW).keptF kf hne).el t ht).2⟩, ((unhide HOW).keptF kf hne).ap⟩ : OwnFl 0 _ _ us), unhide HFST, RdC.nil 2 _, Nat.zero_le _, by funext a; rfl, by rw [hz]; simp, by rw [hz]; simp, by rw [hz]; simp⟩
      have hsub := cutN_sub σ.A (wtn n (unA σ.A)).toNat
      refine bodyPost_end (v := .tuple #[]) (results_none rfl _ _ _) rfl ⟨rfl, _, hfin.rk ⟨by simp [stRestart], by simp [stRestart]⟩ ?_ ?_ h0.secb ?_ ?_, ?_, ?_⟩
      · simp only [stRestart, setA, List.length_map]
        exact Nat.le_trans hsub.length_le h0.len
      · intro f hf
        simp only [stRestart, setA] at hf
        obtain ⟨a, ha, rfl⟩ := List.mem_map.1 hf
        have := h0.byt a (hsub.subset ha)
        have := setF_len ((fstK ks a.nm.data.toList).getD zK) σ.sec a h0.secb.1 h0.secb.2
        omega
      · intro f hf
        simp only [stRestart, setA] at hf
        obtain ⟨a, ha, rfl⟩ := List.mem_map.1 hf
        rw [setF_sy _ _ _ (h0.syl a (hsub.subset ha))]
        exact Nat.le_refl _
      · simp only [stRestart]
        rw [dist_iff, setA_nm]
        exact (dist_iff _).1 (dist_sub hsub h0.dist)
      · refine (((unhide HKA).trans (unhide HK) (by simp)).mono (M := R) (by simp)).trans kf ?_
        intro x hx
        simp only [List.mem_singleton] at hx
        subst hx
        rw [unhide HRR]
        exact .inl (by simp [rkB])
      · intro x hx
        simp only [rkB, hz, List.append_nil, List.mem_cons] at hx
        rcases hx with rfl | hx
        · rw [unhide HRR]; exact .inl (by simp [rkB])
        · right
          have h1 := ((unhide HOW).ge _ hx).1
          have h2 := (unhide HKA).size
          omega
end Go.Proofs.Ytlopdlcepmmjdaa
namespace Go.Proofs.Ytlopdlcepmmjdaa
open Go.RowKit Go.BigFrame Go.Maps Go.Sort
set_option linter.unusedVariables false
set_option linter.unusedSimpArgs false

set_option maxRecDepth 100000 in
set_option maxHeartbeats 2000000 in
theorem doc_R (d nb bb : Nat) (B : List Nat) (σ : DSt) (o : OpD) (w : World) (h : RK w d B nb bb σ) (ho : OkOp w o) (hp : ∀ x ∈ zblk o.pv o.ps, x ∉ B) (hf : ∀ x ∈ zblk o.fv (o.fl.map faC), x ∉ B) (hk : ∀ x ∈ zblk o.kv (o.ks.map keC), x ∉ B) (hn : nb ≤ 800000000) (hb : bb + o.ps.length ≤ 140737488330000) (hfl : o.fl.length ≤ 1048576) (hkl : o.ks.length ≤ 1048576) :
    Calls Try.prog 13 #[.pointer (some ⟨d, 0, none⟩), .agg (opL o).toArray] w fun e w' => ∃ v B', e = .returned (.tuple #[v, .int .i64 (stepD σ o).1.2]) ∧ RK w' d B' (nb + 2 + o.fl.length) (bb + 4096 + o.ps.length) (stepD σ o).2 ∧ Ev w w' B B' ∧ Rd w' v (stepD σ o).1.1 := by
  obtain ⟨pa, pl, pc, hp1⟩ : ∃ a l c, o.pv = .slice a l c := by obtain ⟨a, l, c, h1, _⟩ := ho.p; exact ⟨a, l, c, h1⟩
  obtain ⟨fa, fl, fc, hf1⟩ : ∃ a l c, o.fv = .slice a l c := by obtain ⟨a, l, c, h1, _⟩ := ho.f; exact ⟨a, l, c, h1⟩
  obtain ⟨ka, kl, kc, hk1⟩ : ∃ a l c, o.kv = .slice a l c := by obtain ⟨a, l, c, h1, _⟩ := ho.kk; exact ⟨a, l, c, h1⟩
  obtain ⟨k, s, pv, ps, fv, fls, cr, n, kv, ks⟩ := o
  dsimp only at *
  subst hp1 hf1 hk1
  have hk0 := (Kept.refl [] w).alloc (.cells #[.int .i64 k, .string s, .slice pa pl pc, .slice fa fl fc, .int .i64 cr, .int .i64 n, .slice ka kl kc] 42 (0, 0))
  have hg := heap_alloc_new w (.cells #[.int .i64 k, .string s, .slice pa pl pc, .slice fa fl fc, .int .i64 cr, .int .i64 n, .slice ka kl kc] 42 (0, 0))
  obtain ⟨W, hW⟩ : ∃ W, w.alloc (.cells #[.int .i64 k, .string s, .slice pa pl pc, .slice fa fl fc, .int .i64 cr, .int .i64 n, .slice ka kl kc] 42 (0, 0)) = W := ⟨_, rfl⟩
  rw [hW] at hk0 hg
  have HW := hide hW
  have HK := hide hk0
  have c0 := cell_of_row _ _ 0 _ _ _ hg
  have c1 := cell_of_row _ _ 1 _ _ _ hg
  have c2 := cell_of_row _ _ 2 _ _ _ hg
  have c3 := cell_of_row _ _ 3 _ _ _ hg
  have c4 := cell_of_row _ _ 4 _ _ _ hg
  have c5 := cell_of_row _ _ 5 _ _ _ hg
  have c6 := cell_of_row _ _ 6 _ _ _ hg
  simp at c0 c1 c2 c3 c4 c5 c6
  have HD := hide (h.old hk0)
  have HPR := hide (ho.p.kept hk0 (by simp))
  have HFR := hide (ho.f.old hk0)
  have HKR := hide (ho.kk.old hk0)
  have HSS := hide (by have := ho.s; dsimp only at this; omega : s.size ≤ 140737488355328)
  have HFO := hide ho.fr
  have HNR := hide ho.n
  have HKO := hide (fun x hx => by have := (ho.kr x hx).1; omega : ∀ x ∈ ks, x.nm.size ≤ 140737488355328)
  have HP := hide hp
  have HF := hide hf
  have HKB := hide hk
  dsimp only [opL]
  clear hW hk0 hg h ho hp hf hk
  by_cases h1 : k = 1
  · subst h1
    have hst : stepD σ ⟨1, s, .slice pa pl pc, ps, .slice fa fl fc, fls, cr, n, .slice ka kl kc, ks⟩ = (([], (((stCreate σ s).1 : Nat) : Int)), (stCreate σ s).2) := rfl
    rw [hst]
    have HC := hide (rcreate_any d nb bb B σ s W (unhide HD) (unhide HSS) hn)
    clear hst
    generalize (stCreate σ s) = R at HC ⊢
    go_enter Try.func13, Try.ntmps13
    go_wp2_with (first | (rw [unhide HW]) | fail)
    refine Calls.mono (unhide HC) ?_
    rintro e w1 ⟨rfl, B', h9, ev⟩
    have HD1 := hide h9
    have HE1 := hide ev
    clear h9 ev
    go_wp2_with fail
    go_ret2
    exact ⟨_, B', rfl, (unhide HD1).more (by omega) (by omega), Ev.pre (unhide HK) (unhide HE1), Rd.nil _⟩
  have g1 : (k == 1) = false := by simpa using h1
  by_cases h2 : k = 2
  · subst h2
    have hst : stepD σ ⟨2, s, .slice pa pl pc, ps, .slice fa fl fc, fls, cr, n, .slice ka kl kc, ks⟩ = (([], (((stAppend σ s ps).1 : Nat) : Int)), (stAppend σ s ps).2) := rfl
    rw [hst]
    have HC := hide (rappend_any d nb bb B σ s (.slice pa pl pc) ps W (unhide HD) hn (unhide HPR) (unhide HP) (by omega))
    clear hst
    generalize (stAppend σ s ps) = R at HC ⊢
    go_enter Try.func13, Try.ntmps13
    go_wp2_with (first | (rw [unhide HW]) | fail)
    refine Calls.mono (unhide HC) ?_
    rintro e w1 ⟨rfl, B', h9, ev⟩
    have HD1 := hide h9
    have HE1 := hide ev
    clear h9 ev
    go_wp2_with fail
    go_ret2
    exact ⟨_, B', rfl, (unhide HD1).more (by omega) (by omega), Ev.pre (unhide HK) (unhide HE1), Rd.nil _⟩
  have g2 : (k == 2) = false := by simpa using h2
  by_cases h3 : k = 3
  · subst h3
    have hst : stepD σ ⟨3, s, .slice pa pl pc, ps, .slice fa fl fc, fls, cr, n, .slice ka kl kc, ks⟩ = (([], (((stSync σ s).1 : Nat) : Int)), (stSync σ s).2) := rfl
    rw [hst]
    have HC := hide (rsync_any d nb bb B σ s W (unhide HD) hn)
    clear hst
    generalize (stSync σ s) = R at HC ⊢
    go_enter Try.func13, Try.ntmps13
    go_wp2_with (first | (rw [unhide HW]) | fail)
    refine Calls.mono (unhide HC) ?_
    rintro e w1 ⟨rfl, B', h9, ev⟩
    have HD1 := hide h9
    have HE1 := hide ev
    clear h9 ev
    go_wp2_with fail
    go_ret2
    exact ⟨_, B', rfl, (unhide HD1).more (by omega) (by omega), Ev.pre (unhide HK) (unhide HE1), Rd.nil _⟩
  have g3 : (k == 3) = false := by simpa using h3
  by_cases h4 : k = 4
  · subst h4
    have hst : stepD σ ⟨4, s, .slice pa pl pc, ps, .slice fa fl fc, fls, cr, n, .slice ka kl kc, ks⟩ = (([], (((stNames σ).1 : Nat) : Int)), (stNames σ).2) := rfl
    rw [hst]
    have HC := hide (rnames_any d nb bb B σ W (unhide HD) hn)
    clear hst
    generalize (stNames σ) = R at HC ⊢
    go_enter Try.func13, Try.ntmps13
    go_wp2_with (first | (rw [unhide HW]) | fail)
    refine Calls.mono (unhide HC) ?_
    rintro e w1 ⟨rfl, B', h9, ev⟩
    have HD1 := hide h9
    have HE1 := hide ev
    clear h9 ev
    go_wp2_with fail
    go_ret2
    exact ⟨_, B', rfl, (unhide HD1).more (by omega) (by omega), Ev.pre (unhide HK) (unhide HE1), Rd.nil _⟩
  have g4 : (k == 4) = false := by simpa using h4
  by_cases h5 : k = 5
  · subst h5
    have hst : stepD σ ⟨5, s, .slice pa pl pc, ps, .slice fa fl fc, fls, cr, n, .slice ka kl kc, ks⟩ = (((stRead σ s).1, (((stRead σ s).2 : Nat) : Int)), σ) := rfl
    rw [hst]
    have HC := hide (rread_any d nb bb B σ s W (unhide HD) (by omega))
    clear hst
    generalize (stRead σ s) = R at HC ⊢
    go_enter Try.func13, Try.ntmps13
    go_wp2_with (first | (rw [unhide HW]) | fail)
    refine Calls.mono (unhide HC) ?_
    rintro e w1 ⟨v, rfl, h9, ev⟩
    have HN1 := hide h9
    have HE1 := hide ev
    clear h9 ev
    go_wp2_with fail
    go_ret2
    exact ⟨_, B, rfl, ((unhide HD).old (unhide HE1)).more (by omega) (by omega), ⟨((unhide HK).mono (by simp)).trans ((unhide HE1).mono (by simp)) (fun x hx => .inl hx), fun x hx => .inl hx⟩, unhide HN1⟩
  have g5 : (k == 5) = false := by simpa using h5
  by_cases h6 : k = 6
  · subst h6
    have hst : stepD σ ⟨6, s, .slice pa pl pc, ps, .slice fa fl fc, fls, cr, n, .slice ka kl kc, ks⟩ = (([], 0), stPlan σ fls cr) := rfl
    rw [hst]
    have HC := hide (rplan_any d nb bb B σ (.slice fa fl fc) fls cr W (unhide HD) (unhide HFR) hfl)
    clear hst
    generalize (stPlan σ fls cr) = R at HC ⊢
    go_enter Try.func13, Try.ntmps13
    go_wp2_with (first | (rw [unhide HW]) | fail)
    refine Calls.mono (unhide HC) ?_
    rintro e w1 ⟨rfl, B', h9, ev⟩
    have HD1 := hide h9
    have HE1 := hide ev
    clear h9 ev
    go_wp2_with fail
    go_ret2
    exact ⟨_, B', rfl, (unhide HD1).more (by omega) (by omega), Ev.pre (unhide HK) (unhide HE1), Rd.nil _⟩
  have g6 : (k == 6) = false := by simpa using h6
  by_cases h7 : k = 7
  · subst h7
    have hst : stepD σ ⟨7, s, .slice pa pl pc, ps, .slice fa fl fc, fls, cr, n, .slice ka kl kc, ks⟩ = (([], 0), stCut σ) := rfl
    rw [hst]
    have HC := hide (rcut_any d nb bb B σ W (unhide HD))
    clear hst
    generalize (stCut σ) = R at HC ⊢
    go_enter Try.func13, Try.ntmps13
    go_wp2_with (first | (rw [unhide HW]) | fail)
    refine Calls.mono (unhide HC) ?_
    rintro e w1 ⟨rfl, h9, ev⟩
    have HD1 := hide h9
    have HE1 := hide ev
    clear h9 ev
    go_wp2_with fail
    go_ret2
    exact ⟨_, B, rfl, (unhide HD1).more (by omega) (by omega), Ev.pre (unhide HK) (unhide HE1), Rd.nil _⟩
  have g7 : (k == 7) = false := by simpa using h7
  by_cases h8 : k = 8
  · subst h8
    have hst : stepD σ ⟨8, s, .slice pa pl pc, ps, .slice fa fl fc, fls, cr, n, .slice ka kl kc, ks⟩ = (([], 0), stRestart σ n ks) := rfl
    rw [hst]
    have HC := hide (rrestart_any d nb bb B σ n (.slice ka kl kc) ks W (unhide HD) (by omega) (by omega) (unhide HNR) (unhide HKR) (by omega))
    clear hst
    generalize (stRestart σ n ks) = R at HC ⊢
    go_enter Try.func13, Try.ntmps13
    go_wp2_with (first | (rw [unhide HW]) | fail)
    refine Calls.mono (unhide HC) ?_
    rintro e w1 ⟨rfl, B', h9, ev⟩
    have HD1 := hide h9
    have HE1 := hide ev
    clear h9 ev
    go_wp2_with fail
    go_ret2
    exact ⟨_, B', rfl, (unhide HD1).more (by omega) (by omega), Ev.pre (unhide HK) (unhide HE1), Rd.nil _⟩
  have g8 : (k == 8) = false := by simpa using h8
  have hst : stepD σ ⟨k, s, .slice pa pl pc, ps, .slice fa fl fc, fls, cr, n, .slice ka kl kc, ks⟩ = (([], 0), σ) := by
    unfold stepD
    dsimp only
    rw [if_neg h1, if_neg h2, if_neg h3, if_neg h4, if_neg h5, if_neg h6, if_neg h7, if_neg h8]
  rw [hst]
  clear hst h1 h2 h3 h4 h5 h6 h7 h8
  go_enter Try.func13, Try.ntmps13
  go_wp2_with (first | (rw [unhide HW]) | fail)
  go_ret2
  exact ⟨_, rfl, B, (unhide HD).more (by omega) (by omega), ⟨(unhide HK).mono (by simp), fun x hx => .inl hx⟩, Rd.nil _⟩

set_option maxRecDepth 100000 in
set_option maxHeartbeats 2000000 in
theorem sameFiles_any (u v : Value) (ts ss : List (DF × Value)) (w : World) (hu : RdFl w u ts) (hv : RdFl w v ss) (he : ts.map Prod.fst = ss.map Prod.fst) (hl : ts.length ≤ 1000000000) :
    Calls Try.prog 17 #[u, v] w fun e w' => e = .returned (.bool true) ∧ Kept [] w w' := by
  obtain ⟨⟨ao, len, cap, rfl, h1, h2, h3, h4⟩, h5⟩ := hu
  obtain ⟨⟨bo, len', cap', rfl, g1, g2, g3, g4⟩, g5⟩ := hv
  rw [List.length_map] at h1 g1
  have hle : ts.length = ss.length := by have := congrArg List.length he; simpa using this
  have hl2 : len = len' := by omega
  subst h1 hl2
  have H4 := hide h4
  have G4 := hide g4
  have H5 := hide h5
  have G5 := hide g5
  have HE := hide he
  have HLE := hide hle
  clear h4 g4 h5 g5 he hle g1
  go_enter Try.func17, Try.ntmps17
  go_wp2_with fail
  go_loopw [13] (fun t13 wr => ∃ k n : Nat, k ≤ ts.length ∧ t13 = .int .i64 k ∧ Hid (wr = w.drewN n)) (fun t _ => ts.length - (intOf t).toNat)
  case atStart => exact ⟨0, 0, Nat.zero_le _, rfl, hide rfl⟩
  case round =>
    obtain ⟨k, n, hk, rfl, HW⟩ := hrel
    by_cases hlt : k < ts.length
    · have hltq : k < ss.length := by have := unhide HLE; omega
      have e3 : (k : Int) < (ts.length : Int) := by omega
      obtain ⟨b, off, rfl, hc⟩ := unhide H4 (by omega)
      obtain ⟨b', off', rfl, hc'⟩ := unhide G4 (by omega)
      have hr := hc k (by rw [List.length_map]; exact hlt)
      have hr' := hc' k (by rw [List.length_map]; exact hltq)
      rw [List.getElem_map] at hr hr'
      have hx : ts[k].1 = ss[k].1 := by
        have h9 := congrArg (fun l => l[k]?) (unhide HE)
        simpa [List.getElem?_eq_getElem hlt, List.getElem?_eq_getElem hltq] using h9
      have hw := unhide HW
      have a0 : wr.cell? ⟨b, off + k * 4, none⟩ = some (.string ts[k].1.nm) := by rw [hw]; exact hr 0 _ rfl
      have a1 : wr.cell? ⟨b, off + k * 4 + 1, none⟩ = some (ts[k].2) := by rw [hw]; exact hr 1 _ rfl
      have a2 : wr.cell? ⟨b, off + k * 4 + 2, none⟩ = some (.int .i64 (ts[k].1.sy : Int)) := by rw [hw]; exact hr 2 _ rfl
      have a3 : wr.cell? ⟨b, off + k * 4 + 3, none⟩ = some (.bool ts[k].1.nd) := by rw [hw]; exact hr 3 _ rfl
      have b0 : wr.cell? ⟨b', off' + k * 4, none⟩ = some (.string ss[k].1.nm) := by rw [hw]; exact hr' 0 _ rfl
      have b1 : wr.cell? ⟨b', off' + k * 4 + 1, none⟩ = some (ss[k].2) := by rw [hw]; exact hr' 1 _ rfl
      have b2 : wr.cell? ⟨b', off' + k * 4 + 2, none⟩ = some (.int .i64 (ss[k].1.sy : Int)) := by rw [hw]; exact hr' 2 _ rfl
      have b3 : wr.cell? ⟨b', off' + k * 4 + 3, none⟩ = some (.bool ss[k].1.nd) := by rw [hw]; exact hr' 3 _ rfl
      have hrd := unhide H5 ts[k] (List.getElem_mem hlt)
      have hrd' := unhide G5 ss[k] (List.getElem_mem hltq)
      rw [← hx] at b0 b2 b3 hrd'
      have HSM := hide (fun j : Nat => by
        have h9 := same_any ts[k].2 ss[k].2 ts[k].1.bs ts[k].1.bs (wr.drewN j) (by rw [hw]; exact (hrd.kept ((Kept.refl [] w).drewN n) (by simp)).kept ((Kept.refl [] _).drewN j) (by simp)) (by rw [hw]; exact (hrd'.kept ((Kept.refl [] w).drewN n) (by simp)).kept ((Kept.refl [] _).drewN j) (by simp))
        rw [decide_eq_true rfl] at h9
        exact h9 : ∀ j : Nat, Calls Try.prog 14 #[ts[k].2, ss[k].2] (wr.drewN j) fun e w' => e = .returned (.bool true) ∧ ∃ n, w' = (wr.drewN j).drewN n)
      clear hr hr' hc hc' hrd hrd' hx hw
      generalize ts[k].2 = x1 at a1 HSM
      generalize ss[k].2 = x2 at b1 HSM
      generalize ts[k].1 = X at a0 a2 a3 b0 b2 b3
      have HH := hide (And.intro h2 g2)
      clear h2 g2 hltq
      go_upto_region 6 with fail
      refine wp_region_quiet_lit (by kernel_rfl) (by kernel_rfl) ?_
      repeat (go_big_quiet_step (exact Calls.mono (unhide HSM _) (fun e x h => ⟨h.1, by obtain ⟨m, hm⟩ := h.2; exact ⟨_, by rw [hm, drewN_drewN]⟩⟩)))
      refine wpQuiet_nil ?_
      rintro _ ⟨n5, rfl⟩
      clear a0 a1 a2 a3 b0 b1 b2 b3
      go_wp2_with fail
      refine ⟨⟨k + 1, n + n5, by omega, by simp, hide (by rw [unhide HW, drewN_drewN])⟩, ?_⟩
      simp [intOf]; omega
    · have e3 : ¬ (k : Int) < (ts.length : Int) := by omega
      go_wp2_with fail
      go_ret
      exact ⟨rfl, by rw [unhide HW]; exact (Kept.refl [] w).drewN n⟩
end Go.Proofs.Ytlopdlcepmmjdaa
