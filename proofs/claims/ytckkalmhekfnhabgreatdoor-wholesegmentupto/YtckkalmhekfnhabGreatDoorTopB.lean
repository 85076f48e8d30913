import Derived.Test.YtckkalmhekfnhabGreatDoorTopA
import Derived.Test.YtckkalmhekfnhabGreatDoorTSame
import Derived.Test.YtckkalmhekfnhabGreatDoorEDecB
import Derived.Test.YtckkalmhekfnhabGreatDoorRowz
import Derived.Deep.RegionHeld3
import Derived.Test.YtckkalmhekfnhabGreatDoorQTail
import Derived.Deep.Cut
import Derived.Test.YtckkalmhekfnhabGreatDoorRBlob
import Derived.Test.YtckkalmhekfnhabGreatDoorEBat2
namespace Go.Proofs.YtckkalmhekfnhabGreatDoor
open Go.RowKit Go.BigFrame
set_option linter.unusedVariables false
set_option linter.unusedSimpArgs false

theorem nextF_frB (pl : Nat) (pay t : List Nat) (hpl : pl < 18446744073709551616) (h1 : 1 ≤ pay.length) (hl : pay.length ≤ 65535) (hb : ∀ x ∈ pay, x < 256) : nextF (frB pl pay ++ t) 0 = ⟨pl, pay, 18 + (pay.length : Int), 1⟩ := by
  have h := firstF_some pl pay t hpl h1 hl hb
  have hlen : (frB pl pay ++ t).length = pay.length + 18 + t.length := by rw [List.length_append, frB_len]
  unfold nextF
  rw [if_neg (by rw [hlen]; omega), if_neg (by rw [hlen]; omega), Int.toNat_zero, List.drop_zero, h]
  simp

theorem next79 : nextF (frB 7 [9]) 0 = ⟨7, [9], 19, 1⟩ := by
  have := nextF_frB 7 [9] [] (by decide) (by decide) (by decide) (by decide)
  rw [List.append_nil] at this
  exact this

end Go.Proofs.YtckkalmhekfnhabGreatDoor
namespace Go.Proofs.YtckkalmhekfnhabGreatDoor
open Go.RowKit Go.BigFrame
set_option linter.unusedVariables false
set_option linter.unusedSimpArgs false

theorem nextF_cases (p : List Nat) (z : Int) (hb : ∀ x ∈ p, x < 256) :
    (z = p.length ∧ nextF p z = ⟨0, [], z, 0⟩) ∨ (z ≠ p.length ∧ nextF p z = ⟨0, [], z, 2⟩) ∨
    ∃ (n pl : Nat) (pay : List Nat), z = n ∧ nextF p z = ⟨pl, pay, ((n + 18 + pay.length : Nat) : Int), 1⟩ ∧ pl < 18446744073709551616 ∧ 1 ≤ pay.length ∧ pay.length ≤ 65535 ∧ (∀ x ∈ pay, x < 256) ∧ n + 18 + pay.length ≤ p.length ∧ (p.drop n).take (18 + pay.length) = frB pl pay ∧ firstF (p.drop n) = some (pl, pay) := by
  by_cases h1 : z = p.length
  · exact Or.inl ⟨h1, by unfold nextF; rw [if_pos h1]⟩
  refine Or.inr ?_
  by_cases h2 : z < 0 ∨ (p.length : Int) < z
  · exact Or.inl ⟨h1, by unfold nextF; rw [if_neg h1, if_pos h2]⟩
  obtain ⟨n, rfl⟩ : ∃ n : Nat, z = n := ⟨z.toNat, by omega⟩
  have hN : nextF p n = match firstF (p.drop n) with
    | none => ⟨0, [], n, 2⟩
    | some x => ⟨x.1, x.2, (n : Int) + 18 + x.2.length, 1⟩ := by
    unfold nextF; rw [if_neg h1, if_neg h2, Int.toNat_natCast]; try (cases firstF (p.drop n) <;> rfl)
  cases hf : firstF (p.drop n) with
  | none => exact Or.inl ⟨h1, by rw [hN, hf]⟩
  | some x =>
    obtain ⟨pl, pay⟩ := x
    have hfm := firstF_form hf (fun x hx => hb x (List.mem_of_mem_drop hx))
    have hlen : n + 18 + pay.length ≤ p.length := by
      have := congrArg List.length hfm.2.2.2.2
      rw [List.length_append, frB_len, List.length_drop] at this
      omega
    refine Or.inr ⟨n, pl, pay, rfl, ?_, hfm.1, hfm.2.1, hfm.2.2.1, hfm.2.2.2.1, hlen, ?_, hf⟩
    · rw [hN, hf]; simp
    · conv => lhs; rw [hfm.2.2.2.2]
      rw [List.take_append_of_le_length (by rw [frB_len]; omega), List.take_of_length_le (by rw [frB_len]; omega)]

theorem Rd.cutN {w : World} {b off cap : Nat} {p : List Nat} (h : Rd w (.slice (some ⟨b, off, none⟩) p.length cap) p) (n N : Nat) (hn : n ≤ N) (hN : N ≤ p.length) : Rd w (.slice (some ⟨b, off + n, none⟩) (N - n) (cap - n)) ((p.drop n).take (N - n)) := by
  obtain ⟨ao', len', cap', he, _, h2, ⟨h3, h3'⟩, h4, h5, h6⟩ := h
  cases he
  refine ⟨_, _, _, rfl, by rw [List.length_take, List.length_drop]; omega, by omega, ⟨by omega, by omega⟩, fun h => by simp at h, fun x hx => h5 x (List.mem_of_mem_drop (List.mem_of_mem_take hx)), fun hp => ?_⟩
  obtain ⟨b', off', e, hc⟩ := h6 (by omega)
  cases e
  refine ⟨b, off + n, rfl, fun i hi => ?_⟩
  have := hc (n + i) (by omega)
  rw [Nat.add_assoc, this, List.getD_eq_getElem?_getD, List.getD_eq_getElem?_getD, List.getElem?_take, if_pos hi, List.getElem?_drop]
theorem encE_good {p : List Nat} (h1 : 1 ≤ p.length) (h2 : p.length ≤ 65535) : encE p = 0 := by unfold encE; rw [if_neg (by omega), if_neg (by omega)]
theorem encB_good {pl : Nat} {p : List Nat} (h1 : 1 ≤ p.length) (h2 : p.length ≤ 65535) : encB pl p = frB pl p := by unfold encB; rw [encE_good h1 h2]; rfl
end Go.Proofs.YtckkalmhekfnhabGreatDoor
namespace Go.Proofs.YtckkalmhekfnhabGreatDoor
open Go.RowKit Go.BigFrame
set_option linter.unusedVariables false
set_option linter.unusedSimpArgs false

set_option maxRecDepth 100000 in
set_option maxHeartbeats 2000000 in
theorem bequal_any (u v : Value) (p q : List Nat) (w : World) (hu : Rd w u p) (hv : Rd w v q) :
    Calls Tryz.prog 139 #[u, v] w fun e w' => e = .returned (.bool (decide (p = q))) ∧ w' = w := by
  have hu5 : Tryz.prog.underlying 5 = some (.int .u8) := by kernel_rfl
  have hu9 : Tryz.prog.underlying 9 = some .string := by kernel_rfl
  have c1 := conv_any u p w hu hu5 hu9
  have c2 := conv_any v q w hv hu5 hu9
  have hd : ((strOf p).toList == (strOf q).toList) = decide (p = q) := by
    rw [ba_toList, ba_toList]
    by_cases h : p = q
    · subst h; simp
    · have h2 : ¬ (strOf p).data.toList = (strOf q).data.toList := fun e => h (strOf_inj hu.byte hv.byte (by
        have e2 := congrArg List.toArray e
        simp only [Array.toArray_toList] at e2
        cases hp : strOf p; cases hq : strOf q
        rw [hp, hq] at e2
        simp only at e2
        rw [e2]))
      rw [decide_eq_false h]
      exact beq_eq_false_iff_ne.2 h2
  have Hd := hide hd
  generalize strOf p = s1 at *
  generalize strOf q = s2 at *
  clear hu hv hu5 hu9 hd
  go_enter Tryz.func139, Tryz.ntmps139
  go_wp2
  go_ret
  exact ⟨by rw [unhide Hd]; rfl, rfl⟩

set_option maxRecDepth 100000 in
set_option maxHeartbeats 1000000 in
theorem bhasP_any (u v : Value) (p q : List Nat) (w : World) (hu : Rd w u p) (hv : Rd w v q) (hl : q.length ≤ p.length) :
    Calls Tryz.prog 111 #[u, v] w fun e w' => e = .returned (.bool (decide (p.take q.length = q))) ∧ w' = w := by
  have HU := hide hu
  have HV := hide hv
  obtain ⟨a1, n1, c1, rfl, hn1, hc1, ⟨hc2, hc3⟩, _⟩ := id hu
  obtain ⟨a2, n2, c2, rfl, hn2, _⟩ := id hv
  subst hn1
  subst hn2
  have hl' : (q.length : Int) ≤ p.length := by omega
  have hc9 : (q.length : Int) ≤ c1 := by omega
  have HC := hide ((unhide HU).take0 hl)
  clear hu hv
  go_enter Tryz.func111, Tryz.ntmps111
  go_wp2_with fail
  refine Calls.mono (bequal_any _ _ (p.take q.length) q w (unhide HC) (unhide HV)) ?_
  rintro e w1 ⟨rfl, rfl⟩
  go_wp2
  go_ret
  exact ⟨rfl, rfl⟩

set_option maxRecDepth 100000 in
set_option maxHeartbeats 1000000 in
theorem cutP_any (b off cap : Nat) (v : Value) (p q : List Nat) (w : World) (hu : Rd w (.slice (some ⟨b, off, none⟩) p.length cap) p) (hv : Rd w v q) (hlt : q.length < p.length) :
    Calls Tryz.prog 70 #[.slice (some ⟨b, off, none⟩) p.length cap, v] w fun e w' => e = .returned (.tuple #[if p.take q.length = q then .slice (some ⟨b, off + q.length, none⟩) (p.length - q.length) (cap - q.length) else .slice (some ⟨b, off, none⟩) p.length cap, .bool (decide (p.take q.length = q))]) ∧ w' = w := by
  have HU := hide hu
  have HV := hide hv
  obtain ⟨_, _, _, he, _, hc1, ⟨hc2, hc3⟩, _⟩ := id hu
  cases he
  obtain ⟨a2, n2, c2, rfl, hn2, _⟩ := id hv
  subst hn2
  have hl : q.length ≤ p.length := by omega
  have hl' : (q.length : Int) ≤ p.length := by omega
  have hcq : ¬ cap = q.length := by omega
  have hc9 : (q.length : Int) ≤ cap := by omega
  clear hu hv
  by_cases he : p.take q.length = q
  · rw [if_pos he, decide_eq_true he]
    have HE := hide (decide_eq_true he)
    clear he
    go_enter Tryz.func70, Tryz.ntmps70
    go_wp2_with fail
    refine Calls.mono (bhasP_any _ _ p q w (unhide HU) (unhide HV) hl) ?_
    rintro e w1 ⟨rfl, rfl⟩
    rw [unhide HE]
    go_wp2
    go_ret2
    exact ⟨by simp, rfl⟩
  · rw [if_neg he, decide_eq_false he]
    have HE := hide (decide_eq_false he)
    clear he
    go_enter Tryz.func70, Tryz.ntmps70
    go_wp2_with fail
    refine Calls.mono (bhasP_any _ _ p q w (unhide HU) (unhide HV) hl) ?_
    rintro e w1 ⟨rfl, rfl⟩
    rw [unhide HE]
    go_wp2
    go_ret2
    exact ⟨by simp, rfl⟩

set_option maxRecDepth 100000 in
set_option maxHeartbeats 2000000 in
theorem numberAt_any (b off cap i : Nat) (p : List Nat) (w : World) (hu : Rd w (.slice (some ⟨b, off, none⟩) p.length cap) p) (hi : i < 3) (hl : p.length = 25) :
    Calls Tryz.prog 71 #[.slice (some ⟨b, off, none⟩) p.length cap, .int .i64 i] w fun e w' => e = .returned (.int .u64 (beL ((p.drop (i * 8)).take 8))) ∧ w' = w := by
  obtain ⟨_, _, _, he, _, hc1, ⟨hc2, hc3⟩, _, hby, hcl⟩ := id hu
  cases he
  obtain ⟨b9, o9, e9, hcell⟩ := hcl (by omega)
  cases e9
  obtain ⟨q, hq⟩ : ∃ q, (p.drop (i * 8)).take 8 = q := ⟨_, rfl⟩
  have hql : q.length = 8 := by rw [← hq, List.length_take, List.length_drop]; omega
  have HC := hide (fun k (hk : k < 8) => by
    have h9 := hcell (i * 8 + k) (by omega)
    have e9 : p.getD (i * 8 + k) 0 = q.getD k 0 := by
      rw [← hq, List.getD_eq_getElem?_getD, List.getD_eq_getElem?_getD, List.getElem?_take, if_pos hk, List.getElem?_drop]
    rw [e9] at h9
    exact h9 : ∀ k, k < 8 → w.cell? ⟨b, off + (i * 8 + k), none⟩ = some (u8 (q.getD k 0)))
  have HB := hide (fun k (hk : k < 8) => by
    have hm : ∀ x ∈ q, x < 256 := fun x hx => by rw [← hq] at hx; exact hby _ (List.mem_of_mem_drop (List.mem_of_mem_take hx))
    rw [List.getD_eq_getElem?_getD, List.getElem?_eq_getElem (by omega)]
    exact hm _ (List.getElem_mem _) : ∀ k, k < 8 → q.getD k 0 < 256)
  have HQL := hide hql
  rw [hq]
  rw [hl] at hc1 ⊢
  clear hu hby hcl hcell hq hql
  have hc4 : (25 : Int) ≤ cap := by omega
  have hi3 : i = 0 ∨ i = 1 ∨ i = 2 := by omega
  clear hi
  rcases hi3 with rfl | rfl | rfl
  all_goals
    have hc5 : ¬ cap = 8 := by omega
    have hc6 : ¬ cap = 16 := by omega
    have hc7 : ¬ cap = 0 := by omega
    go_enter Tryz.func71, Tryz.ntmps71
    go_wp2_with fail
    go_loopw [5, 16] (fun t5 t16 wr => ∃ k : Nat, k ≤ 8 ∧ t16 = .int .i64 k ∧ t5 = .int .u64 (beL (q.take k)) ∧ wr = w) (fun _ i _ => 8 - (intOf i).toNat)
    case atStart => exact ⟨0, Nat.zero_le _, rfl, by simp [beL], rfl⟩
    case round =>
      obtain ⟨k, hk, rfl, rfl, rfl⟩ := hrel
      by_cases hlt : k < 8
      · have hck := unhide HC k hlt
        have hcb := unhide HB k hlt
        have hsn := beL_snoc q k (by rw [unhide HQL]; exact hlt)
        have hval := or_byte (beL (q.take k)) (q.getD k 0) hcb
        rw [← hsn] at hval
        obtain ⟨c, hcc⟩ : ∃ c, q.getD k 0 = c := ⟨_, rfl⟩
        have ha1 := beL_lt (q.take k)
        obtain ⟨a, ha⟩ : ∃ a, beL (q.take k) = a := ⟨_, rfl⟩
        obtain ⟨a', ha'⟩ : ∃ a', beL (q.take (k + 1)) = a' := ⟨_, rfl⟩
        rw [hcc] at hck hcb hval
        rw [ha] at hval ha1 ⊢
        rw [ha'] at hval
        have Ha' := hide ha'
        have hlt' : (k : Int) < 8 := by omega
        clear hcc ha ha' hsn
        simp only [Nat.zero_mul, Nat.zero_add, Nat.one_mul, Nat.reduceMul, ← Nat.add_assoc] at hck
        go_wp2
        go_roundw
        case rel => exact ⟨k + 1, by omega, by go_num, by rw [unhide Ha'], trivial⟩
        case measure => simp [intOf]; omega
      · have hlt' : ¬ (k : Int) < 8 := by omega
        obtain rfl : k = 8 := by omega
        have HT := hide (List.take_of_length_le (by rw [unhide HQL]; exact Nat.le_refl _) : q.take 8 = q)
        rw [unhide HT]
        go_wp2
        go_ret
        exact ⟨rfl, rfl⟩
end Go.Proofs.YtckkalmhekfnhabGreatDoor
/-
  Laws for drawn regions, by genreg.py. No program.
-/
namespace Go.Proofs.YtckkalmhekfnhabGreatDoor
open Go Go.RowKit Go.BigFrame
set_option linter.unusedVariables false
set_option linter.unusedSimpArgs false
section
variable {P : Program} {Q : Exit → Act → World → Prop}
theorem wp_sh13 {id : Nat} {o0 o1 o2 o3 o4 o5 o6 o7 o8 o9 o10 o11 o12 : Oper} {a : Act} {w : World} (hm : P.follows .mixedOrders = true) (hs : Region.noSelect #[o0, o1, o2, o3, o4, o5, o6, o7, o8, o9, o10, o11, o12] = true)
    (f0 : Region.free .any #[o0, o1, o2, o3, o4, o5, o6, o7, o8, o9, o10, o11, o12] #[false, false, false, false, false, false, false, false, false, false, false, false, false] 0 = true) (r0 : (Region.ready .any #[o0, o1, o2, o3, o4, o5, o6, o7, o8, o9, o10, o11, o12] #[false, false, false, false, false, false, false, false, false, false, false, false, false]).contains 0 = true)
    (f2 : Region.free .any #[o0, o1, o2, o3, o4, o5, o6, o7, o8, o9, o10, o11, o12] #[true, false, false, false, false, false, false, false, false, false, false, false, false] 2 = true) (r2 : (Region.ready .any #[o0, o1, o2, o3, o4, o5, o6, o7, o8, o9, o10, o11, o12] #[true, false, false, false, false, false, false, false, false, false, false, false, false]).contains 2 = true)
    (f4 : Region.free .any #[o0, o1, o2, o3, o4, o5, o6, o7, o8, o9, o10, o11, o12] #[true, false, true, false, false, false, false, false, false, false, false, false, false] 4 = true) (r4 : (Region.ready .any #[o0, o1, o2, o3, o4, o5, o6, o7, o8, o9, o10, o11, o12] #[true, false, true, false, false, false, false, false, false, false, false, false, false]).contains 4 = true)
    (f6 : Region.free .any #[o0, o1, o2, o3, o4, o5, o6, o7, o8, o9, o10, o11, o12] #[true, false, true, false, true, false, false, false, false, false, false, false, false] 6 = true) (r6 : (Region.ready .any #[o0, o1, o2, o3, o4, o5, o6, o7, o8, o9, o10, o11, o12] #[true, false, true, false, true, false, false, false, false, false, false, false, false]).contains 6 = true)
    (f7 : Region.free .any #[o0, o1, o2, o3, o4, o5, o6, o7, o8, o9, o10, o11, o12] #[true, false, true, false, true, false, true, false, false, false, false, false, false] 7 = true) (r7 : (Region.ready .any #[o0, o1, o2, o3, o4, o5, o6, o7, o8, o9, o10, o11, o12] #[true, false, true, false, true, false, true, false, false, false, false, false, false]).contains 7 = true)
    (f8 : Region.free .any #[o0, o1, o2, o3, o4, o5, o6, o7, o8, o9, o10, o11, o12] #[true, false, true, false, true, false, true, true, false, false, false, false, false] 8 = true) (r8 : (Region.ready .any #[o0, o1, o2, o3, o4, o5, o6, o7, o8, o9, o10, o11, o12] #[true, false, true, false, true, false, true, true, false, false, false, false, false]).contains 8 = true)
    (f9 : Region.free .any #[o0, o1, o2, o3, o4, o5, o6, o7, o8, o9, o10, o11, o12] #[true, false, true, false, true, false, true, true, true, false, false, false, false] 9 = true) (r9 : (Region.ready .any #[o0, o1, o2, o3, o4, o5, o6, o7, o8, o9, o10, o11, o12] #[true, false, true, false, true, false, true, true, true, false, false, false, false]).contains 9 = true)
    (q_ : Region.ready .any #[o0, o1, o2, o3, o4, o5, o6, o7, o8, o9, o10, o11, o12] #[true, false, true, false, true, false, true, true, true, true, false, false, false] = [1, 11])
    (q1_ : Region.ready .any #[o0, o1, o2, o3, o4, o5, o6, o7, o8, o9, o10, o11, o12] #[true, true, true, false, true, false, true, true, true, true, false, false, false] = [3, 11])
    (q11_ : Region.ready .any #[o0, o1, o2, o3, o4, o5, o6, o7, o8, o9, o10, o11, o12] #[true, false, true, false, true, false, true, true, true, true, false, true, false] = [1])
    (q1_3_ : Region.ready .any #[o0, o1, o2, o3, o4, o5, o6, o7, o8, o9, o10, o11, o12] #[true, true, true, true, true, false, true, true, true, true, false, false, false] = [5, 11])
    (f1_3_5_10 : Region.free .any #[o0, o1, o2, o3, o4, o5, o6, o7, o8, o9, o10, o11, o12] #[true, true, true, true, true, true, true, true, true, true, false, false, false] 10 = true) (r1_3_5_10 : (Region.ready .any #[o0, o1, o2, o3, o4, o5, o6, o7, o8, o9, o10, o11, o12] #[true, true, true, true, true, true, true, true, true, true, false, false, false]).contains 10 = true)
    (q1_11_ : Region.ready .any #[o0, o1, o2, o3, o4, o5, o6, o7, o8, o9, o10, o11, o12] #[true, true, true, false, true, false, true, true, true, true, false, true, false] = [3])
    (q1_3_5_ : Region.ready .any #[o0, o1, o2, o3, o4, o5, o6, o7, o8, o9, o10, o11, o12] #[true, true, true, true, true, true, true, true, true, true, true, false, false] = [11])
    (q1_3_11_ : Region.ready .any #[o0, o1, o2, o3, o4, o5, o6, o7, o8, o9, o10, o11, o12] #[true, true, true, true, true, false, true, true, true, true, false, true, false] = [5])
    (f1_3_11_5_10 : Region.free .any #[o0, o1, o2, o3, o4, o5, o6, o7, o8, o9, o10, o11, o12] #[true, true, true, true, true, true, true, true, true, true, false, true, false] 10 = true) (r1_3_11_5_10 : (Region.ready .any #[o0, o1, o2, o3, o4, o5, o6, o7, o8, o9, o10, o11, o12] #[true, true, true, true, true, true, true, true, true, true, false, true, false]).contains 10 = true)
    (q1_3_5_11_ : Region.ready .any #[o0, o1, o2, o3, o4, o5, o6, o7, o8, o9, o10, o11, o12] #[true, true, true, true, true, true, true, true, true, true, true, true, false] = [12])
    (q1_3_5_11_12_ : Region.ready .any #[o0, o1, o2, o3, o4, o5, o6, o7, o8, o9, o10, o11, o12] #[true, true, true, true, true, true, true, true, true, true, true, true, true] = [])
    (g1 : o1.guard = none)    (g3 : o3.guard = none)    (g5 : o5.guard = none)    (g11 : o11.guard = none)    (g12 : o12.guard = none)
    (ne11_1 : ∀ d, o11.dst = some d → o1.dst ≠ some d)
    (ne11_3 : ∀ d, o11.dst = some d → o3.dst ≠ some d)
    (ne11_5 : ∀ d, o11.dst = some d → o5.dst ≠ some d)
    (ne11_10 : ∀ d, o11.dst = some d → o10.dst ≠ some d)
    (v0 v2 v4 v6 v7 v8 v9 : Value) (A0 A1 A2 A3 A4 A5 A6 : Act)
    (S : World → Prop)
    (I_ : World → Prop)
    (I1_ : Value → World → Prop)
    (I11_ : Value → World → Prop)
    (I1_3_ : Value → Value → World → Prop)
    (I1_11_ : Value → Value → World → Prop)
    (I1_3_5_ : Value → Value → Value → World → Prop)
    (I1_3_11_ : Value → Value → Value → World → Prop)
    (I1_3_5_11_ : Value → Value → Value → Value → World → Prop)
    (I1_3_5_11_12_ : Value → Value → Value → Value → Value → World → Prop)
    (v10 : Value → Value → Value → Value)
    (p0 : a.put o0.dst v0 = A0) (hy0 : YieldsIf P #[o0, o1, o2, o3, o4, o5, o6, o7, o8, o9, o10, o11, o12] S o0 v0 a)
    (p2 : A0.put o2.dst v2 = A1) (hy2 : YieldsIf P #[o0, o1, o2, o3, o4, o5, o6, o7, o8, o9, o10, o11, o12] S o2 v2 A0)
    (p4 : A1.put o4.dst v4 = A2) (hy4 : YieldsIf P #[o0, o1, o2, o3, o4, o5, o6, o7, o8, o9, o10, o11, o12] S o4 v4 A1)
    (p6 : A2.put o6.dst v6 = A3) (hy6 : YieldsIf P #[o0, o1, o2, o3, o4, o5, o6, o7, o8, o9, o10, o11, o12] S o6 v6 A2)
    (p7 : A3.put o7.dst v7 = A4) (hy7 : YieldsIf P #[o0, o1, o2, o3, o4, o5, o6, o7, o8, o9, o10, o11, o12] S o7 v7 A3)
    (p8 : A4.put o8.dst v8 = A5) (hy8 : YieldsIf P #[o0, o1, o2, o3, o4, o5, o6, o7, o8, o9, o10, o11, o12] S o8 v8 A4)
    (p9 : A5.put o9.dst v9 = A6) (hy9 : YieldsIf P #[o0, o1, o2, o3, o4, o5, o6, o7, o8, o9, o10, o11, o12] S o9 v9 A5)
    (i0 : I_ w.drew)
    (hIS : (∀ w', I_  w' → S w') ∧ (∀ (u1 : Value) w', I1_ u1 w' → S w') ∧ (∀ (u11 : Value) w', I11_ u11 w' → S w') ∧ (∀ (u1 u3 : Value) w', I1_3_ u1 u3 w' → S w') ∧ (∀ (u1 u11 : Value) w', I1_11_ u1 u11 w' → S w') ∧ (∀ (u1 u3 u5 : Value) w', I1_3_5_ u1 u3 u5 w' → S w') ∧ (∀ (u1 u3 u11 : Value) w', I1_3_11_ u1 u3 u11 w' → S w') ∧ (∀ (u1 u3 u5 u11 : Value) w', I1_3_5_11_ u1 u3 u5 u11 w' → S w') ∧ (∀ (u1 u3 u5 u11 u12 : Value) w', I1_3_5_11_12_ u1 u3 u5 u11 u12 w' → S w'))
    (s_1 : ∀ w', I_  w' → ∀ K : Act → World → Prop, (∀ (u1 : Value) w2, I1_ u1 w2 → K (A6.put o1.dst u1) w2) → o1.wp P A6 w' K (NoPanic Q))
    (s_11 : ∀ w', I_  w' → ∀ K : Act → World → Prop, (∀ (u11 : Value) w2, I11_ u11 w2 → K (A6.put o11.dst u11) w2) → o11.wp P A6 w' K (NoPanic Q))
    (s1_3 : ∀ (u1 : Value) w', I1_ u1 w' → ∀ K : Act → World → Prop, (∀ (u3 : Value) w2, I1_3_ u1 u3 w2 → K ((A6.put o1.dst u1).put o3.dst u3) w2) → o3.wp P (A6.put o1.dst u1) w' K (NoPanic Q))
    (s1_11 : ∀ (u1 : Value) w', I1_ u1 w' → ∀ K : Act → World → Prop, (∀ (u11 : Value) w2, I1_11_ u1 u11 w2 → K ((A6.put o1.dst u1).put o11.dst u11) w2) → o11.wp P (A6.put o1.dst u1) w' K (NoPanic Q))
    (s11_1 : ∀ (u11 : Value) w', I11_ u11 w' → ∀ K : Act → World → Prop, (∀ (u1 : Value) w2, I1_11_ u1 u11 w2 → K ((A6.put o11.dst u11).put o1.dst u1) w2) → o1.wp P (A6.put o11.dst u11) w' K (NoPanic Q))
    (s1_3_5 : ∀ (u1 u3 : Value) w', I1_3_ u1 u3 w' → ∀ K : Act → World → Prop, (∀ (u5 : Value) w2, I1_3_5_ u1 u3 u5 w2 → K (((A6.put o1.dst u1).put o3.dst u3).put o5.dst u5) w2) → o5.wp P ((A6.put o1.dst u1).put o3.dst u3) w' K (NoPanic Q))
    (s1_3_11 : ∀ (u1 u3 : Value) w', I1_3_ u1 u3 w' → ∀ K : Act → World → Prop, (∀ (u11 : Value) w2, I1_3_11_ u1 u3 u11 w2 → K (((A6.put o1.dst u1).put o3.dst u3).put o11.dst u11) w2) → o11.wp P ((A6.put o1.dst u1).put o3.dst u3) w' K (NoPanic Q))
    (s1_11_3 : ∀ (u1 u11 : Value) w', I1_11_ u1 u11 w' → ∀ K : Act → World → Prop, (∀ (u3 : Value) w2, I1_3_11_ u1 u3 u11 w2 → K (((A6.put o1.dst u1).put o11.dst u11).put o3.dst u3) w2) → o3.wp P ((A6.put o1.dst u1).put o11.dst u11) w' K (NoPanic Q))
    (s1_3_5_11 : ∀ (u1 u3 u5 : Value) w', I1_3_5_ u1 u3 u5 w' → ∀ K : Act → World → Prop, (∀ (u11 : Value) w2, I1_3_5_11_ u1 u3 u5 u11 w2 → K (((((A6.put o1.dst u1).put o3.dst u3).put o5.dst u5).put o10.dst (v10 u1 u3 u5)).put o11.dst u11) w2) → o11.wp P ((((A6.put o1.dst u1).put o3.dst u3).put o5.dst u5).put o10.dst (v10 u1 u3 u5)) w' K (NoPanic Q))
    (s1_3_11_5 : ∀ (u1 u3 u11 : Value) w', I1_3_11_ u1 u3 u11 w' → ∀ K : Act → World → Prop, (∀ (u5 : Value) w2, I1_3_5_11_ u1 u3 u5 u11 w2 → K ((((A6.put o1.dst u1).put o3.dst u3).put o11.dst u11).put o5.dst u5) w2) → o5.wp P (((A6.put o1.dst u1).put o3.dst u3).put o11.dst u11) w' K (NoPanic Q))
    (s1_3_5_11_12 : ∀ (u1 u3 u5 u11 : Value) w', I1_3_5_11_ u1 u3 u5 u11 w' → ∀ K : Act → World → Prop, (∀ (u12 : Value) w2, I1_3_5_11_12_ u1 u3 u5 u11 u12 w2 → K ((((((A6.put o1.dst u1).put o3.dst u3).put o5.dst u5).put o10.dst (v10 u1 u3 u5)).put o11.dst u11).put o12.dst u12) w2) → o12.wp P (((((A6.put o1.dst u1).put o3.dst u3).put o5.dst u5).put o10.dst (v10 u1 u3 u5)).put o11.dst u11) w' K (NoPanic Q))
    (y1_3_5_10 : ∀ (u1 u3 u5 : Value) w', I1_3_5_ u1 u3 u5 w' → YieldsIf P #[o0, o1, o2, o3, o4, o5, o6, o7, o8, o9, o10, o11, o12] S o10 (v10 u1 u3 u5) (((A6.put o1.dst u1).put o3.dst u3).put o5.dst u5))
    (y1_3_11_5_10 : ∀ (u1 u3 u5 u11 : Value) w', I1_3_5_11_ u1 u3 u5 u11 w' → YieldsIf P #[o0, o1, o2, o3, o4, o5, o6, o7, o8, o9, o10, o11, o12] S o10 (v10 u1 u3 u5) ((((A6.put o1.dst u1).put o3.dst u3).put o5.dst u5).put o11.dst u11))
    (h : ∀ (u1 u3 u5 u11 u12 : Value) w', I1_3_5_11_12_ u1 u3 u5 u11 u12 w' → Q .normal ((((((A6.put o1.dst u1).put o3.dst u3).put o5.dst u5).put o10.dst (v10 u1 u3 u5)).put o11.dst u11).put o12.dst u12) w') :
    (Code.region id #[o0, o1, o2, o3, o4, o5, o6, o7, o8, o9, o10, o11, o12] true).wp P Q a w := by
  subst p0 p2 p4 p6 p7 p8 p9
  obtain ⟨z_, z1_, z11_, z1_3_, z1_11_, z1_3_5_, z1_3_11_, z1_3_5_11_, z1_3_5_11_12_⟩ := hIS
  refine wp_region_noPanic ?_
  refine wp_region_held_drew (S := S) hm (z_ _ i0) (fun hH => ?_)
  show wpAnyH P .any #[o0, o1, o2, o3, o4, o5, o6, o7, o8, o9, o10, o11, o12] (NoPanic Q) S 13 #[false, false, false, false, false, false, false, false, false, false, false, false, false] a w.drew
  refine wpAnyH_take (i := 0) (oi := o0) rfl hs f0 r0 (fun _ _ _ h => h) hy0 hH ?_
  refine wpAnyH_take (i := 2) (oi := o2) rfl hs f2 r2 (fun _ _ _ h => h) hy2 hH ?_
  refine wpAnyH_take (i := 4) (oi := o4) rfl hs f4 r4 (fun _ _ _ h => h) hy4 hH ?_
  refine wpAnyH_take (i := 6) (oi := o6) rfl hs f6 r6 (fun _ _ _ h => h) hy6 hH ?_
  refine wpAnyH_take (i := 7) (oi := o7) rfl hs f7 r7 (fun _ _ _ h => h) hy7 hH ?_
  refine wpAnyH_take (i := 8) (oi := o8) rfl hs f8 r8 (fun _ _ _ h => h) hy8 hH ?_
  refine wpAnyH_take (i := 9) (oi := o9) rfl hs f9 r9 (fun _ _ _ h => h) hy9 hH ?_
  generalize (((((((a.put o0.dst v0).put o2.dst v2).put o4.dst v4).put o6.dst v6).put o7.dst v7).put o8.dst v8).put o9.dst v9) = B at *
  have wa1 : ∀ y, Region.wanted o1 y = true := fun y => by unfold Region.wanted; rw [g1]
  have wa3 : ∀ y, Region.wanted o3 y = true := fun y => by unfold Region.wanted; rw [g3]
  have wa5 : ∀ y, Region.wanted o5 y = true := fun y => by unfold Region.wanted; rw [g5]
  have wa11 : ∀ y, Region.wanted o11 y = true := fun y => by unfold Region.wanted; rw [g11]
  have wa12 : ∀ y, Region.wanted o12 y = true := fun y => by unfold Region.wanted; rw [g12]
  have t1_3_5_11_12_ : ∀ (u1 u3 u5 u11 u12 : Value) w', I1_3_5_11_12_ u1 u3 u5 u11 u12 w' → wpAnyH P .any #[o0, o1, o2, o3, o4, o5, o6, o7, o8, o9, o10, o11, o12] (NoPanic Q) S 0 #[true, true, true, true, true, true, true, true, true, true, true, true, true] ((((((B.put o1.dst u1).put o3.dst u3).put o5.dst u5).put o10.dst (v10 u1 u3 u5)).put o11.dst u11).put o12.dst u12) w' := by
    intro u1 u3 u5 u11 u12 w0 i0
    exact ⟨q1_3_5_11_12_, NoPanic.normal (h u1 u3 u5 u11 u12 w0 i0)⟩
  have t1_3_5_11_ : ∀ (u1 u3 u5 u11 : Value) w', I1_3_5_11_ u1 u3 u5 u11 w' → wpAnyH P .any #[o0, o1, o2, o3, o4, o5, o6, o7, o8, o9, o10, o11, o12] (NoPanic Q) S 1 #[true, true, true, true, true, true, true, true, true, true, true, true, false] (((((B.put o1.dst u1).put o3.dst u3).put o5.dst u5).put o10.dst (v10 u1 u3 u5)).put o11.dst u11) w' := by
    intro u1 u3 u5 u11 w0 i0
    refine wpAnyH_ready (rs := [12]) q1_3_5_11_ (by simp) (AllReadyH.cons (o := o12) rfl (fun K hK => ?_) AllReadyH.nil)
    · rw [if_pos (wa12 _)]
      refine s1_3_5_11_12 u1 u3 u5 u11 w0 i0 K (fun u12 w1 i1 => hK.out _ _ (z1_3_5_11_12_ u1 u3 u5 u11 u12 w1 i1) (fun _ => ?_))
      clear hK
      exact t1_3_5_11_12_ u1 u3 u5 u11 u12 w1 i1
  have t1_3_11_ : ∀ (u1 u3 u11 : Value) w', I1_3_11_ u1 u3 u11 w' → wpAnyH P .any #[o0, o1, o2, o3, o4, o5, o6, o7, o8, o9, o10, o11, o12] (NoPanic Q) S 3 #[true, true, true, true, true, false, true, true, true, true, false, true, false] (((B.put o1.dst u1).put o3.dst u3).put o11.dst u11) w' := by
    intro u1 u3 u11 w0 i0
    refine wpAnyH_ready (rs := [5]) q1_3_11_ (by simp) (AllReadyH.cons (o := o5) rfl (fun K hK => ?_) AllReadyH.nil)
    · rw [if_pos (wa5 _)]
      refine s1_3_11_5 u1 u3 u11 w0 i0 K (fun u5 w1 i1 => hK.out _ _ (z1_3_5_11_ u1 u3 u5 u11 w1 i1) (fun _ => ?_))
      clear hK
      rw [Act.put_comm _ _ _ ne11_5]
      refine wpAnyH_take (i := 10) (oi := o10) rfl hs f1_3_11_5_10 r1_3_11_5_10 (fun _ _ _ h => h) (y1_3_11_5_10 u1 u3 u5 u11 w1 i1) (z1_3_5_11_ u1 u3 u5 u11 w1 i1) ?_
      rw [Act.put_comm _ _ _ ne11_10]
      exact t1_3_5_11_ u1 u3 u5 u11 w1 i1
  have t1_3_5_ : ∀ (u1 u3 u5 : Value) w', I1_3_5_ u1 u3 u5 w' → wpAnyH P .any #[o0, o1, o2, o3, o4, o5, o6, o7, o8, o9, o10, o11, o12] (NoPanic Q) S 2 #[true, true, true, true, true, true, true, true, true, true, true, false, false] ((((B.put o1.dst u1).put o3.dst u3).put o5.dst u5).put o10.dst (v10 u1 u3 u5)) w' := by
    intro u1 u3 u5 w0 i0
    refine wpAnyH_ready (rs := [11]) q1_3_5_ (by simp) (AllReadyH.cons (o := o11) rfl (fun K hK => ?_) AllReadyH.nil)
    · rw [if_pos (wa11 _)]
      refine s1_3_5_11 u1 u3 u5 w0 i0 K (fun u11 w1 i1 => hK.out _ _ (z1_3_5_11_ u1 u3 u5 u11 w1 i1) (fun _ => ?_))
      clear hK
      exact t1_3_5_11_ u1 u3 u5 u11 w1 i1
  have t1_11_ : ∀ (u1 u11 : Value) w', I1_11_ u1 u11 w' → wpAnyH P .any #[o0, o1, o2, o3, o4, o5, o6, o7, o8, o9, o10, o11, o12] (NoPanic Q) S 4 #[true, true, true, false, true, false, true, true, true, true, false, true, false] ((B.put o1.dst u1).put o11.dst u11) w' := by
    intro u1 u11 w0 i0
    refine wpAnyH_ready (rs := [3]) q1_11_ (by simp) (AllReadyH.cons (o := o3) rfl (fun K hK => ?_) AllReadyH.nil)
    · rw [if_pos (wa3 _)]
      refine s1_11_3 u1 u11 w0 i0 K (fun u3 w1 i1 => hK.out _ _ (z1_3_11_ u1 u3 u11 w1 i1) (fun _ => ?_))
      clear hK
      rw [Act.put_comm _ _ _ ne11_3]
      exact t1_3_11_ u1 u3 u11 w1 i1
  have t1_3_ : ∀ (u1 u3 : Value) w', I1_3_ u1 u3 w' → wpAnyH P .any #[o0, o1, o2, o3, o4, o5, o6, o7, o8, o9, o10, o11, o12] (NoPanic Q) S 4 #[true, true, true, true, true, false, true, true, true, true, false, false, false] ((B.put o1.dst u1).put o3.dst u3) w' := by
    intro u1 u3 w0 i0
    refine wpAnyH_ready (rs := [5, 11]) q1_3_ (by simp) (AllReadyH.cons (o := o5) rfl (fun K hK => ?_) (AllReadyH.cons (o := o11) rfl (fun K hK => ?_) AllReadyH.nil))
    · rw [if_pos (wa5 _)]
      refine s1_3_5 u1 u3 w0 i0 K (fun u5 w1 i1 => hK.out _ _ (z1_3_5_ u1 u3 u5 w1 i1) (fun _ => ?_))
      clear hK
      refine wpAnyH_take (i := 10) (oi := o10) rfl hs f1_3_5_10 r1_3_5_10 (fun _ _ _ h => h) (y1_3_5_10 u1 u3 u5 w1 i1) (z1_3_5_ u1 u3 u5 w1 i1) ?_
      exact t1_3_5_ u1 u3 u5 w1 i1
    · rw [if_pos (wa11 _)]
      refine s1_3_11 u1 u3 w0 i0 K (fun u11 w1 i1 => hK.out _ _ (z1_3_11_ u1 u3 u11 w1 i1) (fun _ => ?_))
      clear hK
      exact t1_3_11_ u1 u3 u11 w1 i1
  have t11_ : ∀ (u11 : Value) w', I11_ u11 w' → wpAnyH P .any #[o0, o1, o2, o3, o4, o5, o6, o7, o8, o9, o10, o11, o12] (NoPanic Q) S 5 #[true, false, true, false, true, false, true, true, true, true, false, true, false] (B.put o11.dst u11) w' := by
    intro u11 w0 i0
    refine wpAnyH_ready (rs := [1]) q11_ (by simp) (AllReadyH.cons (o := o1) rfl (fun K hK => ?_) AllReadyH.nil)
    · rw [if_pos (wa1 _)]
      refine s11_1 u11 w0 i0 K (fun u1 w1 i1 => hK.out _ _ (z1_11_ u1 u11 w1 i1) (fun _ => ?_))
      clear hK
      rw [Act.put_comm _ _ _ ne11_1]
      exact t1_11_ u1 u11 w1 i1
  have t1_ : ∀ (u1 : Value) w', I1_ u1 w' → wpAnyH P .any #[o0, o1, o2, o3, o4, o5, o6, o7, o8, o9, o10, o11, o12] (NoPanic Q) S 5 #[true, true, true, false, true, false, true, true, true, true, false, false, false] (B.put o1.dst u1) w' := by
    intro u1 w0 i0
    refine wpAnyH_ready (rs := [3, 11]) q1_ (by simp) (AllReadyH.cons (o := o3) rfl (fun K hK => ?_) (AllReadyH.cons (o := o11) rfl (fun K hK => ?_) AllReadyH.nil))
    · rw [if_pos (wa3 _)]
      refine s1_3 u1 w0 i0 K (fun u3 w1 i1 => hK.out _ _ (z1_3_ u1 u3 w1 i1) (fun _ => ?_))
      clear hK
      exact t1_3_ u1 u3 w1 i1
    · rw [if_pos (wa11 _)]
      refine s1_11 u1 w0 i0 K (fun u11 w1 i1 => hK.out _ _ (z1_11_ u1 u11 w1 i1) (fun _ => ?_))
      clear hK
      exact t1_11_ u1 u11 w1 i1
  have t_ : ∀ w', I_  w' → wpAnyH P .any #[o0, o1, o2, o3, o4, o5, o6, o7, o8, o9, o10, o11, o12] (NoPanic Q) S 6 #[true, false, true, false, true, false, true, true, true, true, false, false, false] B w' := by
    intro w0 i0
    refine wpAnyH_ready (rs := [1, 11]) q_ (by simp) (AllReadyH.cons (o := o1) rfl (fun K hK => ?_) (AllReadyH.cons (o := o11) rfl (fun K hK => ?_) AllReadyH.nil))
    · rw [if_pos (wa1 _)]
      refine s_1  w0 i0 K (fun u1 w1 i1 => hK.out _ _ (z1_ u1 w1 i1) (fun _ => ?_))
      clear hK
      exact t1_ u1 w1 i1
    · rw [if_pos (wa11 _)]
      refine s_11  w0 i0 K (fun u11 w1 i1 => hK.out _ _ (z11_ u11 w1 i1) (fun _ => ?_))
      clear hK
      exact t11_ u11 w1 i1
  exact t_ w.drew i0

end
end Go.Proofs.YtckkalmhekfnhabGreatDoor
/-
  One operation: a call, by its contract.
-/
namespace Go.Proofs.YtckkalmhekfnhabGreatDoor
open Go Go.RowKit Go.BigFrame
set_option linter.unusedVariables false
set_option linter.unusedSimpArgs false

theorem wp_callN {o : Oper} {a : Act} {w : World} {K : Act → World → Prop} {Q : Exit → Act → World → Prop} {f : FuncId} {xs : Array Operand} {ts : Array TypeId} (ho : o.op = .call { callee := .value (.func f), args := xs, argTypes := ts })
    (hcl : ∀ args W, (callFunc f args).run Tryz.prog W = .ok (.enter f args) W) (us : List Value) (he : xs.toList.map a.eval = us) {R : Ending → World → Prop}
    (hc : Calls Tryz.prog f us.toArray w R) (h : ∀ e w', R e w' → ∃ v, e = .returned v ∧ K (a.put o.dst v) w') : o.wp Tryz.prog a w K Q := by
  have he2 : xs.map a.eval = us.toArray := by rw [← he]; cases xs; simp only [List.map_toArray]
  unfold Oper.wp execOp
  simp only [ho]
  have hf : a.eval (.func f) = .func (.func f) #[] #[] := rfl
  simp only [resolve, invoke, hf, he2, Sem.run_bind, Sem.run_pure, Result.andThen_ok, hcl]
  simp [Deferred.ofValue, hcl, go_sem]
  refine hc.mono ?_
  intro e w2 h2
  obtain ⟨v, rfl, h3⟩ := h e w2 h2
  exact h3
end Go.Proofs.YtckkalmhekfnhabGreatDoor
namespace Go.Proofs.YtckkalmhekfnhabGreatDoor
open Go.RowKit Go.BigFrame
set_option linter.unusedVariables false
set_option linter.unusedSimpArgs false

theorem put4_heap {w : World} {g : Nat} {a b c d : Value} {t : TypeId} (h : w.heap[g]? = some (.cells #[a, b, c, d] t (0, 0))) (x y z u : Value) : ((((w.setCell ⟨g, 0, none⟩ x).setCell ⟨g, 1, none⟩ y).setCell ⟨g, 2, none⟩ z).setCell ⟨g, 3, none⟩ u).heap[g]? = some (.cells #[x, y, z, u] t (0, 0)) := by
  rw [heap_setCell_same _ g 3 _ t _ (heap_setCell_same _ g 2 _ t _ (heap_setCell_same _ g 1 _ t _ (heap_setCell_same w g 0 _ t _ h)))]; rfl
theorem put4_kept {w0 w : World} (k : Kept [] w0 w) (g : Nat) (hg : w0.heap.size ≤ g) (x y z u : Value) : Kept [] w0 ((((w.setCell ⟨g, 0, none⟩ x).setCell ⟨g, 1, none⟩ y).setCell ⟨g, 2, none⟩ z).setCell ⟨g, 3, none⟩ u) := (((k.setCell (Or.inr hg) x).setCell (Or.inr hg) y).setCell (Or.inr hg) z).setCell (Or.inr hg) u
theorem Tryz.size_head : (Tryz.prog.info? 33).map (·.size) = some 4 := by kernel_rfl
theorem hfroz {w : World} {b : Nat} {cs : Array Value} {t : TypeId} (h : w.heap[b]? = some (.cells cs t (0, 0))) : w.frozen? ⟨b, 0, none⟩ = false ∧ w.frozen? ⟨b, 1, none⟩ = false ∧ w.frozen? ⟨b, 2, none⟩ = false ∧ w.frozen? ⟨b, 3, none⟩ = false :=
  ⟨frozen_of_row _ _ _ _ _ h, frozen_of_row _ _ _ _ _ h, frozen_of_row _ _ _ _ _ h, frozen_of_row _ _ _ _ _ h⟩
theorem wp_allochead {o : Oper} {a : Act} {w : World} {K : Act → World → Prop} {Q : Exit → Act → World → Prop} (ho : o.op = .alloc 33) (h : K (a.put o.dst (.pointer (some ⟨w.heap.size, 0, none⟩))) (w.alloc (.cells #[.int .u64 0, .int .u64 0, .int .u64 0, .int .i64 0] 33))) : o.wp Tryz.prog a w K Q := by
  unfold Oper.wp execOp
  simp only [ho]
  go_simp
  exact h
theorem wrap_small {n : Nat} (h : n < 256) : IntKind.i64.wrap (n : Int) = (n : Int) := by
  simp [IntKind.wrap, IntKind.bits, IntKind.signed]; omega
/-- A head that was laid behind W. -/
def Ald (W : World) (u : Value) (cs : Array Value) (w : World) : Prop := ∃ g, u = .pointer (some ⟨g, 0, none⟩) ∧ W.heap.size ≤ g ∧ w.heap[g]? = some (.cells cs 33 (0, 0))
theorem ald_new {W w : World} (k : Kept [] W w) : Ald W (.pointer (some ⟨w.heap.size, 0, none⟩)) #[.int .u64 0, .int .u64 0, .int .u64 0, .int .i64 0] (w.alloc (.cells #[.int .u64 0, .int .u64 0, .int .u64 0, .int .i64 0] 33)) := ⟨_, rfl, k.size, heap_alloc_new _ _⟩
/-- The head with which p begins. -/
structure HdR where
  a : Nat
  b : Nat
  c : Nat
  d : Nat
def payH (pl : Nat) (pay : List Nat) : Bool := decide (pay.length = 30 ∧ pay.take 5 = [78, 84, 82, 89, 49] ∧ beL ((pay.drop 5).take 8) = pl ∧ 1 ≤ pay.getD 29 0 ∧ pay.getD 29 0 ≤ 32)
def hdF (p : List Nat) : Option HdR := match firstF p with
  | none => none
  | some x => if payH x.1 x.2 then some ⟨beL ((x.2.drop 5).take 8), beL ((x.2.drop 13).take 8), beL ((x.2.drop 21).take 8), x.2.getD 29 0⟩ else none
def hdC (p : List Nat) : HdR := (hdF p).getD ⟨0, 0, 0, 0⟩
def hdN (p : List Nat) : Nat := if (hdF p).isSome then 48 else 0
theorem nextF_kind {p : List Nat} (h : (nextF p 0).kind ≠ 1) : hdF p = none := by
  cases hf : firstF p with
  | none => unfold hdF; rw [hf]
  | some x =>
    exfalso
    apply h
    unfold nextF
    have hp : 0 < p.length := by
      rcases Nat.eq_zero_or_pos p.length with h0 | h0
      · rw [firstF_short (by omega)] at hf; cases hf
      · exact h0
    rw [if_neg (by omega), if_neg (by omega)]
    simp [hf]

set_option maxRecDepth 100000 in
set_option maxHeartbeats 4000000 in
theorem readHead_any (v : Value) (p : List Nat) (w : World) (h : Rd w v p) :
    Calls Tryz.prog 36 #[v] w fun e w' => e = .returned (.tuple #[.agg #[.int .u64 (hdC p).a, .int .u64 (hdC p).b, .int .u64 (hdC p).c, .int .i64 (hdC p).d], .int .i64 (hdN p), .bool (hdF p).isSome]) ∧ Kept [] w w' := by
  have H := hide h
  obtain ⟨a1, n1, c1, rfl, hn1, _⟩ := id h
  subst hn1
  clear h
  have HZ0 := hide (heap_alloc_new w (.cells #[.int .u64 0, .int .u64 0, .int .u64 0, .int .i64 0] 33))
  have HK0 := hide ((Kept.refl [] w).alloc (.cells #[.int .u64 0, .int .u64 0, .int .u64 0, .int .i64 0] 33))
  obtain ⟨X, hX⟩ : ∃ X, hdC p = X := ⟨_, rfl⟩
  obtain ⟨Y, hY⟩ : ∃ Y, hdN p = Y := ⟨_, rfl⟩
  obtain ⟨Z, hZ⟩ : ∃ Z, (hdF p).isSome = Z := ⟨_, rfl⟩
  rw [hX, hY, hZ]
  have HNO := hide (fun (h0 : hdF p = none) => by
    rw [← hX, ← hY, ← hZ]
    exact ⟨by simp [hdC, h0], by simp [hdN, h0], by simp [h0]⟩ : hdF p = none → X = ⟨0, 0, 0, 0⟩ ∧ Y = 0 ∧ Z = false)
  have HYE := hide (fun (x : HdR) (h0 : hdF p = some x) => by
    rw [← hX, ← hY, ← hZ]
    exact ⟨by simp [hdC, h0], by simp [hdN, h0], by simp [h0]⟩ : ∀ x, hdF p = some x → X = x ∧ Y = 48 ∧ Z = true)
  clear hX hY hZ
  go_enter Tryz.func36, Tryz.ntmps36
  go_wp2_with fail
  refine Calls.mono (next_any _ p 0 _ ((unhide H).old (unhide HK0) (by simp)) (by omega)) ?_
  rintro e w1 ⟨v1, rfl, n1, k1⟩
  obtain ⟨av, nv, cv, rfl, hnv, _⟩ := id n1.1
  have HN1 := hide n1
  have HZ1 := hide (k1.heap (unhide HZ0) (by simp))
  have HK1 := hide ((unhide HK0).trans k1 (by simp))
  have HLT1 := hide (lt_of_block (unhide HZ1) : w.heap.size < w1.heap.size)
  clear n1 k1 hnv
  have HZW := hide (((Kept.refl [] w1).alloc (.cells #[.int .u64 ((nextF p 0).pl : Int), .slice av nv cv] 82)).heap (unhide HZ1) (by simp))
  have HKW := hide ((unhide HK1).alloc (.cells #[.int .u64 ((nextF p 0).pl : Int), .slice av nv cv] 82))
  have HFW := hide (heap_alloc_new w1 (.cells #[.int .u64 ((nextF p 0).pl : Int), .slice av nv cv] 82))
  have HNW := hide ((unhide HN1).1.old ((Kept.refl [] w1).alloc (.cells #[.int .u64 ((nextF p 0).pl : Int), .slice av nv cv] 82)) (by simp))
  obtain ⟨W1, hW1⟩ : ∃ W, w1.alloc (.cells #[.int .u64 ((nextF p 0).pl : Int), .slice av nv cv] 82) = W := ⟨_, rfl⟩
  have HS1 := hide (by rw [← hW1]; simp : w1.heap.size < W1.heap.size)
  rw [hW1] at HZW HKW HFW HNW
  have HW1 := hide hW1
  clear hW1
  obtain ⟨d0, d1, d2, d3⟩ := hcells (unhide HZW)
  obtain ⟨f0, f1, f2, f3⟩ := hfroz (unhide HZW)
  have g0 : W1.cell? ⟨w1.heap.size, 0, none⟩ = some (.int .u64 ((nextF p 0).pl : Int)) := by rw [cell_of_row _ _ _ _ _ _ (unhide HFW)]; rfl
  have g1 : W1.cell? ⟨w1.heap.size, 1, none⟩ = some (.slice av nv cv) := by rw [cell_of_row _ _ _ _ _ _ (unhide HFW)]; rfl
  have HNK := hide (fun h => nextF_kind (p := p) h)
  have hcase := nextF_cases p 0 (unhide H).byte
  by_cases hkd : (nextF p 0).kind = 1
  · rcases hcase with ⟨_, hN⟩ | ⟨_, hN⟩ | ⟨m, pl, pay, hzn, hN, b1, b2, b3, b4, b5, b6, b7⟩
    · rw [hN] at hkd; simp at hkd
    · rw [hN] at hkd; simp at hkd
    · obtain rfl : m = 0 := by omega
      rw [List.drop_zero] at b7
      rw [hN] at HN1 HFW HNW HW1 g0 ⊢
      simp only at HN1 HFW HNW HW1 g0 ⊢
      have hnv : nv = pay.length := by obtain ⟨_, _, _, e, h9, _⟩ := (unhide HN1).1; cases e; exact h9.symm
      subst hnv
      have HHF := hide (by unfold hdF; rw [b7] : hdF p = if payH pl pay then some ⟨beL ((pay.drop 5).take 8), beL ((pay.drop 13).take 8), beL ((pay.drop 21).take 8), pay.getD 29 0⟩ else none)
      have hpl : (pl : Int) ≤ 18446744073709551615 := by omega
      clear hN hkd hzn b5 b6 b7 HNK
      by_cases hl30 : pay.length = 30
      · have HPL := hide hl30
        obtain ⟨_, _, _, he9, _, hcap9, ⟨hcm9, _⟩, _, _, hcl9⟩ := id (unhide HNW)
        cases he9
        obtain ⟨bq, oq, e9, _⟩ := hcl9 (by omega)
        cases e9
        clear hcl9
        have hcv : 30 ≤ cv := by omega
        clear hcap9
        rw [hl30] at HNW HN1 HFW HW1 g1 ⊢
        clear hl30
        obtain ⟨HHF30, hhf⟩ : ∃ q, q = pay := ⟨_, rfl⟩
        clear HHF30 hhf
        have kc := fun (w : World) (C : Array Value) (n c : Nat) => Lib.run_convert_bytes_const (P := Tryz.prog) w 29 5 C n c Tryz.underlying29 Tryz.underlying5
        have hsz1 : (w1.alloc (.cells #[.int .u64 (pl : Int), .slice (some ⟨bq, oq, none⟩) 30 cv] 82)).heap.size = w1.heap.size + 1 := by simp
        have kc1 := kc (w1.alloc (.cells #[.int .u64 (pl : Int), .slice (some ⟨bq, oq, none⟩) 30 cv] 82)) #[.int .u8 78, .int .u8 84, .int .u8 82, .int .u8 89, .int .u8 49] 5 5
        rw [hsz1] at kc1
        clear kc hsz1
        rw [← unhide HW1] at g0 g1
        go_wp2_with fail
        clear kc1 d0 d1 d2 d3 f0 f1 f2 f3 g0 g1
        rw [unhide HW1]
        have HK3 := hide ((Kept.refl [] W1).alloc (.cells #[.int .u8 78, .int .u8 84, .int .u8 82, .int .u8 89, .int .u8 49] 5 (5, 6)))
        have HR3 := hide (rd_row [78, 84, 82, 89, 49] (heap_alloc_new W1 (.cells #[.int .u8 78, .int .u8 84, .int .u8 82, .int .u8 89, .int .u8 49] 5 (5, 6))) rfl (by decide) 5 rfl (by decide))
        rw [show W1.heap.size = w1.heap.size + 1 by rw [← unhide HW1]; simp] at HR3
        obtain ⟨W3, hW3⟩ : ∃ W, W1.alloc (.cells #[.int .u8 78, .int .u8 84, .int .u8 82, .int .u8 89, .int .u8 49] 5 (5, 6)) = W := ⟨_, rfl⟩
        rw [hW3] at HK3 HR3 ⊢
        clear hW3
        have HZ3 := hide ((unhide HK3).heap (unhide HZW) (by simp))
        have HF3 := hide ((unhide HK3).heap (unhide HFW) (by simp))
        have HKW3 := hide ((unhide HKW).trans (unhide HK3) (by simp))
        have HNW3 := hide ((unhide HNW).old (unhide HK3) (by simp))
        have hcut := cutP_any bq oq cv _ pay [78, 84, 82, 89, 49] W3 (by rw [unhide HPL]; exact unhide HNW3) (unhide HR3) (by rw [unhide HPL]; decide)
        rw [unhide HPL] at hcut
        refine Calls.mono hcut ?_
        clear hcut
        rintro e w4 ⟨rfl, hw4⟩
        subst w4
        obtain ⟨d0, d1, d2, d3⟩ := hcells (unhide HZ3)
        obtain ⟨f0, f1, f2, f3⟩ := hfroz (unhide HZ3)
        by_cases hpre : pay.take 5 = [78, 84, 82, 89, 49]
        · simp only [List.length_cons, List.length_nil, Nat.zero_add, Nat.reduceAdd, hpre, if_true, decide_true, Nat.reduceSub]
          have hfl : (pay.drop 5).length = 25 := by rw [List.length_drop, unhide HPL]
          have HFP := hide (by
            have h9 := Rd.cutN (n := 5) (N := 30) (p := pay) (by rw [unhide HPL]; exact unhide HNW3) (by decide) (by rw [unhide HPL]; exact Nat.le_refl _)
            rw [List.take_of_length_le (by rw [List.length_drop, unhide HPL]; exact Nat.le_refl _)] at h9
            exact h9 : Rd W3 (.slice (some ⟨bq, oq + 5, none⟩) 25 (cv - 5)) (pay.drop 5))
          obtain ⟨m0, hm0⟩ : ∃ m, beL ((pay.drop 5).take 8) = m := ⟨_, rfl⟩
          obtain ⟨m1, hm1⟩ : ∃ m, beL ((pay.drop 13).take 8) = m := ⟨_, rfl⟩
          obtain ⟨m2, hm2⟩ : ∃ m, beL ((pay.drop 21).take 8) = m := ⟨_, rfl⟩
          obtain ⟨wz, hwz⟩ : ∃ m, pay.getD 29 0 = m := ⟨_, rfl⟩
          have hwl : wz < 256 := by
            rw [← hwz, List.getD_eq_getElem?_getD, List.getElem?_eq_getElem (by rw [unhide HPL]; decide)]
            exact (unhide HNW3).byte _ (List.getElem_mem _)
          have HC24 := hide (by
            obtain ⟨_, _, _, e9, _, _, _, _, _, hcl⟩ := unhide HFP
            cases e9
            obtain ⟨b9, o9, e9, hc⟩ := hcl (by decide)
            cases e9
            have h9 := hc 24 (by decide)
            rw [← hwz]
            have e9 : (pay.drop 5).getD 24 0 = pay.getD 29 0 := by simp [List.getD_eq_getElem?_getD]
            rw [e9] at h9
            exact h9 : W3.cell? ⟨bq, oq + 5 + 24, none⟩ = some (.int .u8 (wz : Int)))
          have hnum : ∀ w', Kept [] W3 w' → ∀ i : Nat, i < 3 → Calls Tryz.prog 71 #[.slice (some ⟨bq, oq + 5, none⟩) 25 (cv - 5), .int .i64 i] w' fun e w2 => e = .returned (.int .u64 (beL (((pay.drop 5).drop (i * 8)).take 8) : Nat)) ∧ w2 = w' := by
            intro w' k i hi
            have h9 := numberAt_any bq (oq + 5) (cv - 5) i (pay.drop 5) w' (by rw [hfl]; exact (unhide HFP).old k (by simp)) hi hfl
            rw [hfl] at h9
            exact h9
          have HHF2 := hide (unhide HHF)
          rw [hm0, hm1, hm2, hwz] at HHF2
          have Hm0 := hide (by rw [← hm0]; rfl : m0 = beL (((pay.drop 5).drop (0 * 8)).take 8))
          have Hm1 := hide (by rw [← hm1, List.drop_drop] : m1 = beL (((pay.drop 5).drop (1 * 8)).take 8))
          have Hm2 := hide (by rw [← hm2, List.drop_drop] : m2 = beL (((pay.drop 5).drop (2 * 8)).take 8))
          have HPH := hide (by unfold payH; rw [hm0, hwz, unhide HPL]; simp [hpre] : payH pl pay = decide (m0 = pl ∧ 1 ≤ wz ∧ wz ≤ 32))
          clear hm0 hm1 hm2 hwz hfl HHF
          go_upto_region 7 with fail
          refine wp_sh13 (by kernel_rfl) (by kernel_rfl) (by kernel_rfl) (by kernel_rfl) (by kernel_rfl) (by kernel_rfl) (by kernel_rfl) (by kernel_rfl) (by kernel_rfl) (by kernel_rfl) (by kernel_rfl) (by kernel_rfl) (by kernel_rfl) (by kernel_rfl) (by kernel_rfl) (by kernel_rfl) (by kernel_rfl) (by kernel_rfl) (by kernel_rfl) (by kernel_rfl) (by kernel_rfl) (by kernel_rfl) (by kernel_rfl) (by kernel_rfl) (by kernel_rfl) (by kernel_rfl) (by kernel_rfl) (by kernel_rfl) (by kernel_rfl) rfl rfl rfl rfl rfl (by simp) (by simp) (by simp) (by simp)
            (.slice (some ⟨bq, oq + 5, none⟩) 25 (cv - 5)) (.slice (some ⟨bq, oq + 5, none⟩) 25 (cv - 5)) (.slice (some ⟨bq, oq + 5, none⟩) 25 (cv - 5)) (.slice (some ⟨bq, oq + 5, none⟩) 25 (cv - 5)) (.pointer (some ⟨bq, oq + 5 + 24, none⟩)) (.int .u8 (wz : Int)) (.int .i64 (wz : Int)) _ _ _ _ _ _ _
            (fun w' => w'.cell? ⟨bq, oq + 5 + 24, none⟩ = some (.int .u8 (wz : Int)))
            (fun  w' => Kept [] W3 w') (fun u1 w' => u1 = .int .u64 (m0 : Int) ∧ Kept [] W3 w') (fun u11 w' => Kept [] W3 w' ∧ Ald W3 u11 #[.int .u64 0, .int .u64 0, .int .u64 0, .int .i64 0] w') (fun u1 u3 w' => u1 = .int .u64 (m0 : Int) ∧ u3 = .int .u64 (m1 : Int) ∧ Kept [] W3 w') (fun u1 u11 w' => u1 = .int .u64 (m0 : Int) ∧ Kept [] W3 w' ∧ Ald W3 u11 #[.int .u64 0, .int .u64 0, .int .u64 0, .int .i64 0] w') (fun u1 u3 u5 w' => u1 = .int .u64 (m0 : Int) ∧ u3 = .int .u64 (m1 : Int) ∧ u5 = .int .u64 (m2 : Int) ∧ Kept [] W3 w') (fun u1 u3 u11 w' => u1 = .int .u64 (m0 : Int) ∧ u3 = .int .u64 (m1 : Int) ∧ Kept [] W3 w' ∧ Ald W3 u11 #[.int .u64 0, .int .u64 0, .int .u64 0, .int .i64 0] w') (fun u1 u3 u5 u11 w' => u1 = .int .u64 (m0 : Int) ∧ u3 = .int .u64 (m1 : Int) ∧ u5 = .int .u64 (m2 : Int) ∧ Kept [] W3 w' ∧ Ald W3 u11 #[.int .u64 0, .int .u64 0, .int .u64 0, .int .i64 0] w') (fun u1 u3 u5 u11 u12 w' => u1 = .int .u64 (m0 : Int) ∧ u3 = .int .u64 (m1 : Int) ∧ u5 = .int .u64 (m2 : Int) ∧ Kept [] W3 w' ∧ Ald W3 u11 #[.int .u64 (m0 : Int), .int .u64 (m1 : Int), .int .u64 (m2 : Int), .int .i64 (wz : Int)] w')
            (fun u1 u3 u5 => .agg #[u1, u3, u5, .int .i64 (wz : Int)])
            (by simp only [Act.put, List.setIfInBounds_toArray, List.set_cons_zero, List.set_cons_succ]; rfl) (by exact Or.inl ⟨by rfl, fun W' hW' => by go_simp⟩)
            (by simp only [Act.put, List.setIfInBounds_toArray, List.set_cons_zero, List.set_cons_succ]; rfl) (by exact Or.inl ⟨by rfl, fun W' hW' => by go_simp⟩)
            (by simp only [Act.put, List.setIfInBounds_toArray, List.set_cons_zero, List.set_cons_succ]; rfl) (by exact Or.inl ⟨by rfl, fun W' hW' => by go_simp⟩)
            (by simp only [Act.put, List.setIfInBounds_toArray, List.set_cons_zero, List.set_cons_succ]; rfl) (by exact Or.inl ⟨by rfl, fun W' hW' => by go_simp⟩)
            (by simp only [Act.put, List.setIfInBounds_toArray, List.set_cons_zero, List.set_cons_succ]; rfl) (by exact Or.inl ⟨by rfl, fun W' hW' => by go_simp⟩)
            (by simp only [Act.put, List.setIfInBounds_toArray, List.set_cons_zero, List.set_cons_succ]; rfl) (by exact Or.inl ⟨by rfl, fun W' hW' => run_load1 5 _ rfl ⟨bq, oq + 5 + 24, none⟩ rfl W' _ .u8 Tryz.underlying5 hW'⟩)
            (by simp only [Act.put, List.setIfInBounds_toArray, List.set_cons_zero, List.set_cons_succ]; rfl) (by exact Or.inl ⟨by rfl, fun W' hW' => by go_simp; exact wrap_small hwl⟩)
            ((Kept.refl [] W3).drew)
            ⟨fun  w' h => (h).cell (unhide HC24) (by simp), fun u1 w' h => (h.2).cell (unhide HC24) (by simp), fun u11 w' h => (h.1).cell (unhide HC24) (by simp), fun u1 u3 w' h => (h.2.2).cell (unhide HC24) (by simp), fun u1 u11 w' h => (h.2.1).cell (unhide HC24) (by simp), fun u1 u3 u5 w' h => (h.2.2.2).cell (unhide HC24) (by simp), fun u1 u3 u11 w' h => (h.2.2.1).cell (unhide HC24) (by simp), fun u1 u3 u5 u11 w' h => (h.2.2.2.1).cell (unhide HC24) (by simp), fun u1 u3 u5 u11 u12 w' h => (h.2.2.2.1).cell (unhide HC24) (by simp)⟩
            (by
              rintro w' k K hK
              refine wp_callN rfl Tryz.call71 [.slice (some ⟨bq, oq + 5, none⟩) 25 (cv - 5), .int .i64 0] rfl (hnum w' k 0 (by decide)) ?_
              rintro e w2 ⟨rfl, rfl⟩
              exact ⟨_, rfl, hK _ _ (⟨by rw [← unhide Hm0], k⟩)⟩) (by
              rintro w' k K hK
              exact wp_allochead rfl (hK _ _ ⟨k.alloc _, ald_new k⟩)) (by
              rintro u1 w' ⟨rfl, k⟩ K hK
              refine wp_callN rfl Tryz.call71 [.slice (some ⟨bq, oq + 5, none⟩) 25 (cv - 5), .int .i64 1] rfl (hnum w' k 1 (by decide)) ?_
              rintro e w2 ⟨rfl, rfl⟩
              exact ⟨_, rfl, hK _ _ (⟨rfl, by rw [← unhide Hm1], k⟩)⟩) (by
              rintro u1 w' ⟨rfl, k⟩ K hK
              exact wp_allochead rfl (hK _ _ ⟨rfl, k.alloc _, ald_new k⟩)) (by
              rintro u11 w' ⟨k, al⟩ K hK
              refine wp_callN rfl Tryz.call71 [.slice (some ⟨bq, oq + 5, none⟩) 25 (cv - 5), .int .i64 0] rfl (hnum w' k 0 (by decide)) ?_
              rintro e w2 ⟨rfl, rfl⟩
              exact ⟨_, rfl, hK _ _ (⟨by rw [← unhide Hm0], k, al⟩)⟩) (by
              rintro u1 u3 w' ⟨rfl, rfl, k⟩ K hK
              refine wp_callN rfl Tryz.call71 [.slice (some ⟨bq, oq + 5, none⟩) 25 (cv - 5), .int .i64 2] rfl (hnum w' k 2 (by decide)) ?_
              rintro e w2 ⟨rfl, rfl⟩
              exact ⟨_, rfl, hK _ _ (⟨rfl, rfl, by rw [← unhide Hm2], k⟩)⟩) (by
              rintro u1 u3 w' ⟨rfl, rfl, k⟩ K hK
              exact wp_allochead rfl (hK _ _ ⟨rfl, rfl, k.alloc _, ald_new k⟩)) (by
              rintro u1 u11 w' ⟨rfl, k, al⟩ K hK
              refine wp_callN rfl Tryz.call71 [.slice (some ⟨bq, oq + 5, none⟩) 25 (cv - 5), .int .i64 1] rfl (hnum w' k 1 (by decide)) ?_
              rintro e w2 ⟨rfl, rfl⟩
              exact ⟨_, rfl, hK _ _ (⟨rfl, by rw [← unhide Hm1], k, al⟩)⟩) (by
              rintro u1 u3 u5 w' ⟨rfl, rfl, rfl, k⟩ K hK
              exact wp_allochead rfl (hK _ _ ⟨rfl, rfl, rfl, k.alloc _, ald_new k⟩)) (by
              rintro u1 u3 u11 w' ⟨rfl, rfl, k, al⟩ K hK
              refine wp_callN rfl Tryz.call71 [.slice (some ⟨bq, oq + 5, none⟩) 25 (cv - 5), .int .i64 2] rfl (hnum w' k 2 (by decide)) ?_
              rintro e w2 ⟨rfl, rfl⟩
              exact ⟨_, rfl, hK _ _ (⟨rfl, rfl, by rw [← unhide Hm2], k, al⟩)⟩)
            (by
              rintro u1 u3 u5 u11 w' ⟨rfl, rfl, rfl, k, g, rfl, hg, hh⟩ K hK
              simp only [Act.put, List.setIfInBounds_toArray, List.set_cons_zero, List.set_cons_succ] at hK ⊢
              have hk2 := hK undef _ ⟨trivial, trivial, trivial, Kept.setRow k (Or.inr hg) #[.int .u64 (m0 : Int), .int .u64 (m1 : Int), .int .u64 (m2 : Int), .int .i64 (wz : Int)], g, rfl, hg, setRow_heap _ _ _ _ _ _ hh⟩
              clear hK
              exact wp_store_row 33 (.tmp 10) (.tmp 47) rfl g #[.int .u64 (m0 : Int), .int .u64 (m1 : Int), .int .u64 (m2 : Int), .int .i64 (wz : Int)] rfl rfl 33 #[.int .u64 0, .int .u64 0, .int .u64 0, .int .i64 0] hh Tryz.size_head rfl (by simp [Value.oneCell']) hk2)
            (by rintro u1 u3 u5 w' ⟨rfl, rfl, rfl, k⟩; exact Or.inl ⟨by rfl, fun W' hW' => by go_simp⟩)
            (by rintro u1 u3 u5 u11 w' ⟨rfl, rfl, rfl, k, al⟩; exact Or.inl ⟨by rfl, fun W' hW' => by go_simp⟩)
            ?_
          rintro u1 u3 u5 u11 u12 w5 ⟨rfl, rfl, rfl, k5, g, rfl, hg, hh⟩
          simp only [Act.put, List.setIfInBounds_toArray, List.set_cons_zero, List.set_cons_succ]
          have HGK := hide (k5.heap (unhide HF3) (by simp))
          have HZ5 := hide (k5.heap (unhide HZ3) (by simp))
          have HK5 := hide ((unhide HKW3).trans k5 (by simp))
          have HG5 := hide hh
          have hgn : w.heap.size ≠ g := by
            have := (unhide HKW3).size; have := lt_of_block (unhide HZ3); omega
          have HGN := hide hgn
          clear k5 hh hgn hg d0 d1 d2 d3 f0 f1 f2 f3 hnum HK3 HR3 HZ3 HF3 HKW3 HNW3
          obtain ⟨d0, d1, d2, d3⟩ := hcells (unhide HZ5)
          obtain ⟨f0, f1, f2, f3⟩ := hfroz (unhide HZ5)
          obtain ⟨x0, x1, x2, x3⟩ := hcells (unhide HG5)
          have g0 : w5.cell? ⟨w1.heap.size, 0, none⟩ = some (.int .u64 (pl : Int)) := by rw [cell_of_row _ _ _ _ _ _ (unhide HGK)]; rfl
          by_cases hpm : m0 = pl
          · have hne : ((m0 : Int) != (pl : Int)) = false := by simp [hpm]
            go_wp2_with fail
            refine Calls.mono (isWidth_any (wz : Int) _) ?_
            rintro e w6 ⟨rfl, hw6⟩
            subst w6
            have HWD := hide (by unfold wideB; simp only [decide_eq_decide]; omega : wideB (wz : Int) = decide (1 ≤ wz ∧ wz ≤ 32))
            by_cases hwd : wideB (wz : Int) = true
            · rw [hwd]
              have HV := hide (unhide HYE _ (by rw [unhide HHF2, if_pos (by rw [unhide HPH]; rw [unhide HWD] at hwd; simpa [hpm] using hwd)]))
              go_wp2
              refine bodyPost_ret (v := .tuple #[.agg #[.int .u64 (pl : Int), .int .u64 (m1 : Int), .int .u64 (m2 : Int), .int .i64 (wz : Int)], .int .i64 48, .bool true]) ?_ rfl ⟨by rw [(unhide HV).1, (unhide HV).2.1, (unhide HV).2.2, hpm]; rfl, put4_kept (unhide HK5) w.heap.size (Nat.le_refl _) _ _ _ _⟩
              exact results_cell_tmp2 rfl _ _ w.heap.size _ #[.int .u64 (pl : Int), .int .u64 (m1 : Int), .int .u64 (m2 : Int), .int .i64 (wz : Int)] (0, 0) _ rfl (put4_heap (unhide HZ5) _ _ _ _) Tryz.underlying33 rfl Tryz.size_head _ _ rfl rfl
            · rw [Bool.not_eq_true] at hwd
              rw [hwd]
              have HV := hide (unhide HNO (by rw [unhide HHF2, if_neg (by rw [unhide HPH]; rw [unhide HWD] at hwd; simpa [hpm] using hwd)]))
              go_wp2
              refine bodyPost_ret (v := .tuple #[.agg #[.int .u64 0, .int .u64 0, .int .u64 0, .int .i64 0], .int .i64 0, .bool false]) ?_ rfl ⟨by rw [(unhide HV).1, (unhide HV).2.1, (unhide HV).2.2]; rfl, put4_kept (unhide HK5) w.heap.size (Nat.le_refl _) _ _ _ _⟩
              exact results_cell_tmp2 rfl _ _ w.heap.size _ #[.int .u64 0, .int .u64 0, .int .u64 0, .int .i64 0] (0, 0) _ rfl (put4_heap (unhide HZ5) _ _ _ _) Tryz.underlying33 rfl Tryz.size_head _ _ rfl rfl
          · have hne : ((m0 : Int) != (pl : Int)) = true := by rw [bne_iff_ne]; omega
            have HV := hide (unhide HNO (by rw [unhide HHF2, if_neg (by rw [unhide HPH]; simp [hpm])]))
            go_wp2
            refine bodyPost_ret (v := .tuple #[.agg #[.int .u64 0, .int .u64 0, .int .u64 0, .int .i64 0], .int .i64 0, .bool false]) ?_ rfl ⟨by rw [(unhide HV).1, (unhide HV).2.1, (unhide HV).2.2]; rfl, put4_kept (unhide HK5) w.heap.size (Nat.le_refl _) _ _ _ _⟩
            exact results_cell_tmp2 rfl _ _ w.heap.size _ #[.int .u64 0, .int .u64 0, .int .u64 0, .int .i64 0] (0, 0) _ rfl (put4_heap (unhide HZ5) _ _ _ _) Tryz.underlying33 rfl Tryz.size_head _ _ rfl rfl
        · simp only [List.length_cons, List.length_nil, Nat.zero_add, Nat.reduceAdd, hpre, if_false, decide_false]
          have HV := hide (unhide HNO (by rw [unhide HHF, if_neg]; simp [payH, hpre]))
          go_wp2
          refine bodyPost_ret (v := .tuple #[.agg #[.int .u64 0, .int .u64 0, .int .u64 0, .int .i64 0], .int .i64 0, .bool false]) ?_ rfl ⟨by rw [(unhide HV).1, (unhide HV).2.1, (unhide HV).2.2]; rfl, put4_kept (unhide HKW3) w.heap.size (Nat.le_refl _) _ _ _ _⟩
          exact results_cell_tmp2 rfl _ _ w.heap.size _ #[.int .u64 0, .int .u64 0, .int .u64 0, .int .i64 0] (0, 0) _ rfl (put4_heap (unhide HZ3) _ _ _ _) Tryz.underlying33 rfl Tryz.size_head _ _ rfl rfl
      · have hl30' : ((pay.length : Int) != 30) = true := by rw [bne_iff_ne]; omega
        have HV := hide (unhide HNO (by rw [unhide HHF, if_neg]; simp [payH, hl30]))
        rw [← unhide HW1] at d0 d1 d2 d3 f0 f1 f2 f3 g0 g1
        go_wp2
        rw [unhide HW1]
        refine bodyPost_ret (v := .tuple #[.agg #[.int .u64 0, .int .u64 0, .int .u64 0, .int .i64 0], .int .i64 0, .bool false]) ?_ rfl ⟨by rw [(unhide HV).1, (unhide HV).2.1, (unhide HV).2.2]; rfl, put4_kept (unhide HKW) w.heap.size (Nat.le_refl _) _ _ _ _⟩
        exact results_cell_tmp2 rfl _ _ w.heap.size _ #[.int .u64 0, .int .u64 0, .int .u64 0, .int .i64 0] (0, 0) _ rfl (put4_heap (unhide HZW) _ _ _ _) Tryz.underlying33 rfl Tryz.size_head _ _ rfl rfl
  · have hkd' : (((nextF p 0).kind : Int) != 1) = true := by rw [bne_iff_ne]; omega
    have HV := hide (unhide HNO (unhide HNK hkd))
    clear hcase
    rw [← unhide HW1] at d0 d1 d2 d3 f0 f1 f2 f3 g0 g1
    go_wp2
    rw [unhide HW1]
    refine bodyPost_ret (v := .tuple #[.agg #[.int .u64 0, .int .u64 0, .int .u64 0, .int .i64 0], .int .i64 0, .bool false]) ?_ rfl ⟨by rw [(unhide HV).1, (unhide HV).2.1, (unhide HV).2.2]; rfl, put4_kept (unhide HKW) w.heap.size (Nat.le_refl _) _ _ _ _⟩
    exact results_cell_tmp2 rfl _ _ w.heap.size _ #[.int .u64 0, .int .u64 0, .int .u64 0, .int .i64 0] (0, 0) _ rfl (put4_heap (unhide HZW) _ _ _ _) Tryz.underlying33 rfl Tryz.size_head _ _ rfl rfl
end Go.Proofs.YtckkalmhekfnhabGreatDoor
namespace Go.Proofs.YtckkalmhekfnhabGreatDoor
open Go.RowKit Go.BigFrame
set_option linter.unusedVariables false
set_option linter.unusedSimpArgs false

/-- Does a frame stand at z whose batch has the index i? -/
def rbOk (p : List Nat) (z : Int) (i : Nat) : Bool := decide ((nextF p z).kind = 1 ∧ (nextF p z).pl = i ∧ (decB (nextF p z).pay).2.2 = 0 ∧ (decB (nextF p z).pay).1 = i)
def rbF (p : List Nat) (z : Int) (i : Nat) : Nat := if rbOk p z i then i else 0
def rbN (p : List Nat) (z : Int) (i : Nat) : Int := if rbOk p z i then (nextF p z).next else 0
def rbE (p : List Nat) (z : Int) (i : Nat) : List En := if rbOk p z i then (decB (nextF p z).pay).2.1 else []
theorem bcells {w : World} {b : Nat} {x0 x1 : Value} {t : TypeId} (h : w.heap[b]? = some (.cells #[x0, x1] t (0, 0))) : w.cell? ⟨b, 0, none⟩ = some x0 ∧ w.cell? ⟨b, 1, none⟩ = some x1 := by
  refine ⟨?_, ?_⟩ <;> rw [cell_of_row _ _ _ _ _ _ h] <;> rfl
theorem bfroz {w : World} {b : Nat} {cs : Array Value} {t : TypeId} (h : w.heap[b]? = some (.cells cs t (0, 0))) : w.frozen? ⟨b, 0, none⟩ = false ∧ w.frozen? ⟨b, 1, none⟩ = false :=
  ⟨frozen_of_row _ _ _ _ _ h, frozen_of_row _ _ _ _ _ h⟩
theorem Tryz.size_batch9 : (Tryz.prog.info? 37).map (·.size) = some 2 := by kernel_rfl

set_option maxRecDepth 100000 in
set_option maxHeartbeats 4000000 in
theorem readBatch_any (v : Value) (p : List Nat) (z : Int) (i : Nat) (w : World) (h : Rd w v p) (hz : -9223372036854775808 ≤ z ∧ z ≤ 9223372036854775807) :
    Calls Tryz.prog 37 #[v, .int .i64 z, .int .u64 i] w fun e w' => ∃ bv, e = .returned (.tuple #[.agg #[.int .u64 (rbF p z i), bv], .int .i64 (rbN p z i), .bool (rbOk p z i)]) ∧ NewN w.heap.size w' bv (rbE p z i) ∧ Kept [] w w' := by
  have H := hide h
  obtain ⟨a1, n1, c1, rfl, hn1, _⟩ := id h
  subst hn1
  clear h
  have HZ0 := hide (heap_alloc_new w (.cells #[.int .u64 0, .slice none 0 0] 37))
  have HK0 := hide ((Kept.refl [] w).alloc (.cells #[.int .u64 0, .slice none 0 0] 37))
  obtain ⟨X, hX⟩ : ∃ X, rbF p z i = X := ⟨_, rfl⟩
  obtain ⟨Y, hY⟩ : ∃ Y, rbN p z i = Y := ⟨_, rfl⟩
  obtain ⟨E, hE⟩ : ∃ E, rbE p z i = E := ⟨_, rfl⟩
  obtain ⟨Z, hZ⟩ : ∃ Z, rbOk p z i = Z := ⟨_, rfl⟩
  rw [hX, hY, hZ, hE]
  have HNO := hide (fun (h0 : rbOk p z i = false) => by
    rw [← hX, ← hY, ← hZ, ← hE]
    exact ⟨by simp [rbF, h0], by simp [rbN, h0], by simp [rbE, h0], h0⟩ : rbOk p z i = false → X = 0 ∧ Y = 0 ∧ E = [] ∧ Z = false)
  have HYE := hide (fun (h0 : rbOk p z i = true) => by
    rw [← hX, ← hY, ← hZ, ← hE]
    exact ⟨by simp [rbF, h0], by simp [rbN, h0], by simp [rbE, h0], h0⟩ : rbOk p z i = true → X = i ∧ Y = (nextF p z).next ∧ E = (decB (nextF p z).pay).2.1 ∧ Z = true)
  have HOK := hide (by unfold rbOk; rfl : rbOk p z i = decide ((nextF p z).kind = 1 ∧ (nextF p z).pl = i ∧ (decB (nextF p z).pay).2.2 = 0 ∧ (decB (nextF p z).pay).1 = i))
  clear hX hY hZ hE
  go_enter Tryz.func37, Tryz.ntmps37
  go_wp2_with fail
  refine Calls.mono (next_any _ p z _ ((unhide H).old (unhide HK0) (by simp)) hz) ?_
  rintro e w1 ⟨v1, rfl, n1, k1⟩
  obtain ⟨av, nv, cv, rfl, hnv, _⟩ := id n1.1
  obtain ⟨N, hN⟩ : ∃ N, nextF p z = N := ⟨_, rfl⟩
  rw [hN] at n1 HYE HOK hnv ⊢
  clear hN
  have HN1 := hide n1.1
  have HZ1 := hide (k1.heap (unhide HZ0) (by simp))
  have HK1 := hide ((unhide HK0).trans k1 (by simp))
  clear n1 k1 hnv
  have HZW := hide (((Kept.refl [] w1).alloc (.cells #[.int .u64 (N.pl : Int), .slice av nv cv] 82)).heap (unhide HZ1) (by simp))
  have HKW := hide ((unhide HK1).alloc (.cells #[.int .u64 (N.pl : Int), .slice av nv cv] 82))
  have HFW := hide (heap_alloc_new w1 (.cells #[.int .u64 (N.pl : Int), .slice av nv cv] 82))
  have HNW := hide ((unhide HN1).old ((Kept.refl [] w1).alloc (.cells #[.int .u64 (N.pl : Int), .slice av nv cv] 82)) (by simp))
  obtain ⟨W1, hW1⟩ : ∃ W, w1.alloc (.cells #[.int .u64 (N.pl : Int), .slice av nv cv] 82) = W := ⟨_, rfl⟩
  rw [hW1] at HZW HKW HFW HNW
  have HW1 := hide hW1
  clear hW1
  obtain ⟨d0, d1⟩ := bcells (unhide HZW)
  obtain ⟨f0, f1⟩ := bfroz (unhide HZW)
  obtain ⟨g0, g1⟩ := bcells (unhide HFW)
  rw [← unhide HW1] at d0 d1 f0 f1 g0 g1
  by_cases hkd : N.kind = 1
  · by_cases hpl : N.pl = i
    · have hkd' : ((N.kind : Int) != 1) = false := by simp [hkd]
      have hpl' : ((N.pl : Int) != (i : Int)) = false := by simp [hpl]
      have HPL := hide hpl
      have HKD := hide hkd
      clear hpl hkd
      go_wp2_with fail
      rw [unhide HW1]
      clear d0 d1 f0 f1 g0 g1
      refine Calls.mono (decodeBatch_any _ N.pay W1 (unhide HNW)) ?_
      rintro e w2 ⟨bv, rfl, nb, k2⟩
      obtain ⟨D, hD⟩ : ∃ D, decB N.pay = D := ⟨_, rfl⟩
      rw [hD] at nb HYE HOK ⊢
      clear hD
      obtain ⟨ab, nbl, cb, _, _, hbv, _⟩ := id nb.rdN
      subst hbv
      have HNB := hide nb
      have HZ2 := hide (k2.heap (unhide HZW) (by simp))
      have HK2 := hide ((unhide HKW).trans k2 (by simp))
      have HL2 := hide (Nat.le_trans (unhide HKW).size (Nat.le_refl _) : w.heap.size ≤ W1.heap.size)
      clear nb k2
      have HZX := hide (((Kept.refl [] w2).alloc (.cells #[.int .u64 (D.1 : Int), .slice ab nbl cb] 37)).heap (unhide HZ2) (by simp))
      have HKX := hide ((unhide HK2).alloc (.cells #[.int .u64 (D.1 : Int), .slice ab nbl cb] 37))
      have HBX := hide (heap_alloc_new w2 (.cells #[.int .u64 (D.1 : Int), .slice ab nbl cb] 37))
      have HNX := hide (((unhide HNB).kept ((Kept.refl [] w2).alloc (.cells #[.int .u64 (D.1 : Int), .slice ab nbl cb] 37)) (by simp)).weak (unhide HL2))
      obtain ⟨W2, hW2⟩ : ∃ W, w2.alloc (.cells #[.int .u64 (D.1 : Int), .slice ab nbl cb] 37) = W := ⟨_, rfl⟩
      rw [hW2] at HZX HKX HBX HNX
      have HW2 := hide hW2
      clear hW2
      obtain ⟨d0, d1⟩ := bcells (unhide HZX)
      obtain ⟨f0, f1⟩ := bfroz (unhide HZX)
      obtain ⟨g0, g1⟩ := bcells (unhide HBX)
      rw [← unhide HW2] at d0 d1 f0 f1 g0 g1
      by_cases he : D.2.2 = 0
      · by_cases hfi : D.1 = i
        · have he' : ((D.2.2 : Int) != 0) = false := by simp [he]
          have hfi' : ((D.1 : Int) != (i : Int)) = false := by simp [hfi]
          have HV := hide (unhide HYE (by rw [unhide HOK]; simp [unhide HKD, unhide HPL, he, hfi]))
          have HFI := hide hfi
          clear hfi he
          go_wp2
          rw [unhide HW2]
          refine bodyPost_ret (v := .tuple #[.agg #[.int .u64 (D.1 : Int), .slice ab nbl cb], .int .i64 N.next, .bool true]) ?_ rfl ⟨.slice ab nbl cb, by rw [(unhide HV).1, (unhide HV).2.1, (unhide HV).2.2.2, unhide HFI], ?_, put2_kept (unhide HKX) w.heap.size (Nat.le_refl _) _ _⟩
          · exact results_cell_tmp2 rfl _ _ w.heap.size _ #[.int .u64 (D.1 : Int), .slice ab nbl cb] (0, 0) _ rfl (put2_heap (unhide HZX) _ _) Tryz.underlying37 rfl Tryz.size_batch9 _ _ rfl rfl
          · rw [(unhide HV).2.2.1]
            refine (unhide HNB).kept (M := [w.heap.size]) ?_ ?_ |>.weak (unhide HL2)
            · rw [← unhide HW2]
              exact (((Kept.refl [w.heap.size] w2).alloc _).setCell (Or.inl (by simp)) _).setCell (Or.inl (by simp)) _
            · have := lt_of_block (unhide HZW); simpa using this
        · have he' : ((D.2.2 : Int) != 0) = false := by simp [he]
          have hfi' : ((D.1 : Int) != (i : Int)) = true := by rw [bne_iff_ne]; omega
          have HV := hide (unhide HNO (by rw [unhide HOK]; simp [hfi]))
          clear hfi he
          go_wp2
          rw [unhide HW2]
          refine bodyPost_ret (v := .tuple #[.agg #[.int .u64 0, .slice none 0 0], .int .i64 0, .bool false]) ?_ rfl ⟨.slice none 0 0, by rw [(unhide HV).1, (unhide HV).2.1, (unhide HV).2.2.2]; rfl, by rw [(unhide HV).2.2.1]; exact (NewN.nil _ _ (put2_kept (unhide HKX) w.heap.size (Nat.le_refl _) _ _).size), put2_kept (unhide HKX) w.heap.size (Nat.le_refl _) _ _⟩
          exact results_cell_tmp2 rfl _ _ w.heap.size _ #[.int .u64 0, .slice none 0 0] (0, 0) _ rfl (put2_heap (unhide HZX) _ _) Tryz.underlying37 rfl Tryz.size_batch9 _ _ rfl rfl
      · have he' : ((D.2.2 : Int) != 0) = true := by rw [bne_iff_ne]; omega
        have HV := hide (unhide HNO (by rw [unhide HOK]; simp [he]))
        clear he
        go_wp2
        rw [unhide HW2]
        refine bodyPost_ret (v := .tuple #[.agg #[.int .u64 0, .slice none 0 0], .int .i64 0, .bool false]) ?_ rfl ⟨.slice none 0 0, by rw [(unhide HV).1, (unhide HV).2.1, (unhide HV).2.2.2]; rfl, by rw [(unhide HV).2.2.1]; exact (NewN.nil _ _ (put2_kept (unhide HKX) w.heap.size (Nat.le_refl _) _ _).size), put2_kept (unhide HKX) w.heap.size (Nat.le_refl _) _ _⟩
        exact results_cell_tmp2 rfl _ _ w.heap.size _ #[.int .u64 0, .slice none 0 0] (0, 0) _ rfl (put2_heap (unhide HZX) _ _) Tryz.underlying37 rfl Tryz.size_batch9 _ _ rfl rfl
    · have hkd' : ((N.kind : Int) != 1) = false := by simp [hkd]
      have hpl' : ((N.pl : Int) != (i : Int)) = true := by rw [bne_iff_ne]; omega
      have HV := hide (unhide HNO (by rw [unhide HOK]; simp [hpl]))
      clear hpl hkd
      go_wp2
      rw [unhide HW1]
      refine bodyPost_ret (v := .tuple #[.agg #[.int .u64 0, .slice none 0 0], .int .i64 0, .bool false]) ?_ rfl ⟨.slice none 0 0, by rw [(unhide HV).1, (unhide HV).2.1, (unhide HV).2.2.2]; rfl, by rw [(unhide HV).2.2.1]; exact (NewN.nil _ _ (put2_kept (unhide HKW) w.heap.size (Nat.le_refl _) _ _).size), put2_kept (unhide HKW) w.heap.size (Nat.le_refl _) _ _⟩
      exact results_cell_tmp2 rfl _ _ w.heap.size _ #[.int .u64 0, .slice none 0 0] (0, 0) _ rfl (put2_heap (unhide HZW) _ _) Tryz.underlying37 rfl Tryz.size_batch9 _ _ rfl rfl
  · have hkd' : ((N.kind : Int) != 1) = true := by rw [bne_iff_ne]; omega
    have HV := hide (unhide HNO (by rw [unhide HOK]; simp [hkd]))
    clear hkd
    go_wp2
    rw [unhide HW1]
    refine bodyPost_ret (v := .tuple #[.agg #[.int .u64 0, .slice none 0 0], .int .i64 0, .bool false]) ?_ rfl ⟨.slice none 0 0, by rw [(unhide HV).1, (unhide HV).2.1, (unhide HV).2.2.2]; rfl, by rw [(unhide HV).2.2.1]; exact (NewN.nil _ _ (put2_kept (unhide HKW) w.heap.size (Nat.le_refl _) _ _).size), put2_kept (unhide HKW) w.heap.size (Nat.le_refl _) _ _⟩
    exact results_cell_tmp2 rfl _ _ w.heap.size _ #[.int .u64 0, .slice none 0 0] (0, 0) _ rfl (put2_heap (unhide HZW) _ _) Tryz.underlying37 rfl Tryz.size_batch9 _ _ rfl rfl

end Go.Proofs.YtckkalmhekfnhabGreatDoor
namespace Go.Proofs.YtckkalmhekfnhabGreatDoor
set_option linter.unusedVariables false
set_option linter.unusedSimpArgs false
theorem fuv_short (x : Nat) : ∀ k a n, n < (uv x).length → (fuv ((uv x).take n) k a).2 = 0 := by
  induction x using uv.induct with
  | case1 x h => intro k a n hn; rw [uv_lt h] at hn ⊢; simp at hn; subst hn; simp [fuv]
  | case2 x h ih =>
    intro k a n hn
    rw [uv_ge (by omega)] at hn ⊢
    cases n with
    | zero => simp [fuv]
    | succ n =>
      simp only [List.take_succ_cons, List.length_cons] at hn ⊢
      rw [fuv]
      split
      · rfl
      · rw [if_pos (by omega)]
        exact ih _ _ n (by omega)

theorem fuv_back (x : Nat) : ∀ k a r, x * 128 ^ k < 18446744073709551616 → k ≤ 9 → (0 < k → 0 < x) → fuv (uv x ++ r) k a = (a + x * 128 ^ k, k + (uv x).length) := by
  have h9 : (128 : Nat) ^ 9 = 9223372036854775808 := (by decide)
  induction x using uv.induct with
  | case1 x h =>
    intro k a r hx hk h0
    rw [uv_lt h]
    simp only [List.cons_append, List.nil_append, List.length_cons, List.length_nil]
    rw [fuv, if_neg, if_neg (by omega), if_neg (by omega), Nat.mod_eq_of_lt h]
    rintro ⟨rfl, h1⟩
    rw [h9] at hx
    have := h0 (by omega); omega
  | case2 x h ih =>
    intro k a r hx hk h0
    rw [uv_ge (by omega)]
    simp only [List.cons_append, List.length_cons]
    have hk9 : k ≠ 9 := by
      rintro rfl
      rw [h9] at hx
      omega
    have hpow : 128 ^ (k + 1) = 128 ^ k * 128 := Nat.pow_succ ..
    have hsum : x % 128 * 128 ^ k + x / 128 * 128 ^ (k + 1) = x * 128 ^ k := by
      rw [hpow, show x / 128 * (128 ^ k * 128) = (x / 128 * 128) * 128 ^ k from by rw [Nat.mul_comm (128 ^ k) 128, Nat.mul_assoc], ← Nat.add_mul]
      congr 1; omega
    rw [fuv, if_neg (by omega), if_pos (by omega), ih (k + 1) _ r (by omega) (by omega) (by omega)]
    have hm : (x % 128 + 128) % 128 = x % 128 := by omega
    rw [hm]
    simp only [Prod.mk.injEq]
    omega

theorem beL_wide (v : Nat) : ∀ n a, n ≤ 8 → a * 256 ^ n + v % 256 ^ n < 18446744073709551616 → (wide v n).foldl (fun a c => (a * 256 + c) % 18446744073709551616) a = a * 256 ^ n + v % 256 ^ n := by
  intro n
  induction n with
  | zero => intro a _ _; simp [wide, Nat.mod_one]
  | succ n ih =>
    intro a hn h
    have hpow : 256 ^ (n + 1) = 256 ^ n * 256 := Nat.pow_succ ..
    have hv : v % 256 ^ (n + 1) = v / 256 ^ n % 256 * 256 ^ n + v % 256 ^ n := by
      rw [hpow, Nat.mod_mul]
      rw [Nat.mul_comm (256 ^ n)]; omega
    have hpos : 0 < 256 ^ n := Nat.pow_pos (by omega)
    have e1 : a * 256 ^ (n + 1) = a * 256 * 256 ^ n := by rw [hpow, Nat.mul_comm (256 ^ n) 256, Nat.mul_assoc]
    have e2 : (a * 256 + v / 256 ^ n % 256) * 256 ^ n = a * 256 * 256 ^ n + v / 256 ^ n % 256 * 256 ^ n := Nat.add_mul ..
    have hle : a * 256 + v / 256 ^ n % 256 ≤ (a * 256 + v / 256 ^ n % 256) * 256 ^ n := Nat.le_mul_of_pos_right _ hpos
    simp only [wide, List.foldl_cons]
    rw [Nat.mod_eq_of_lt (by omega), ih _ (by omega) (by omega)]
    omega

theorem rNum_back {P : List Nat} {i v n : Nat} {r : List Nat} (hd : P.drop i = wide v n ++ r) (hn : n ≤ 8) (hv : v < 256 ^ n) : rNum P i 0 n = (v, i + n, 0) := by
  have h1 := congrArg List.length hd
  simp [wide_len] at h1
  have h2 : (P.drop i).take n = wide v n := by rw [hd]; simp [wide_len, List.take_append]
  have h3 : 256 ^ n ≤ 256 ^ 8 := Nat.pow_le_pow_right (by omega) hn
  have h4 : (256 : Nat) ^ 8 = 18446744073709551616 := (by decide)
  have h5 := beL_wide v n 0 hn (by rw [Nat.mod_eq_of_lt hv]; omega)
  simp only [Nat.zero_mul, Nat.zero_add, Nat.mod_eq_of_lt hv] at h5
  simp only [rNum, ne_eq, not_true_eq_false, if_false]
  rw [if_neg (by omega), h2]
  simp only [beL, h5]
theorem rNum_short {P : List Nat} {i n : Nat} (hd : (P.drop i).length < n) : rNum P i 0 n = (0, i, 3) := by
  simp at hd
  simp [rNum, hd]

theorem rUvar_back {P : List Nat} {i x : Nat} {r : List Nat} (hd : P.drop i = uv x ++ r) (hx : x < 18446744073709551616) : rUvar P i 0 = (x, i + (uv x).length, 0) := by
  have h := fuv_back x 0 0 r (by omega) (by omega) (by omega)
  have hp := uv_pos x
  simp only [rUvar, hd, h, ne_eq, not_true_eq_false, if_false]
  rw [if_neg (by omega)]; simp
theorem rRaw_back {P : List Nat} {i : Nat} {p r : List Nat} (hd : P.drop i = p ++ r) (hi : i ≤ P.length) : rRaw P i 0 p.length = (p, i + p.length, 0) := by
  have h1 := congrArg List.length hd
  simp at h1
  simp only [rRaw, ne_eq, not_true_eq_false, if_false]
  rw [if_neg (by omega), if_neg (by omega), hd]
  simp
theorem rBlob_back {P : List Nat} {i : Nat} {p r : List Nat} {m : Int} (hd : P.drop i = uv p.length ++ p ++ r) (hm : (p.length : Int) ≤ m) (hp : p.length < 18446744073709551616) : rBlob P i 0 m = (p, i + ((uv p.length).length + p.length), 0) := by
  have h := fuv_back p.length 0 0 (p ++ r) (by omega) (by omega) (by omega)
  rw [← List.append_assoc] at h
  have hq := uv_pos p.length
  simp only [rBlob, hd, h, ne_eq, not_true_eq_false, if_false, Nat.zero_add, Nat.pow_zero, Nat.mul_one]
  rw [if_neg (by omega), if_neg (by omega), if_neg (by omega), if_neg (by simp)]
  simp
theorem fold_form (r : List Nat) : ∀ a, (∀ y ∈ r, y < 256) → ∃ s, s < 256 ^ r.length ∧ r.foldl (fun a c => a * 256 + c) a = a * 256 ^ r.length + s := by
  induction r with
  | nil => intro a _; exact ⟨0, by simp, by simp⟩
  | cons c r ih =>
    intro a hb
    obtain ⟨s, hs, e⟩ := ih (a * 256 + c) (fun y hy => hb y (by simp [hy]))
    have hc := hb c (by simp)
    refine ⟨c * 256 ^ r.length + s, ?_, ?_⟩
    · simp only [List.length_cons]
      rw [Nat.pow_succ]
      have : c * 256 ^ r.length ≤ 255 * 256 ^ r.length := Nat.mul_le_mul (by omega) (Nat.le_refl _)
      omega
    · simp only [List.foldl_cons, List.length_cons]
      rw [e, Nat.pow_succ, Nat.add_mul, Nat.mul_comm (256 ^ r.length) 256, ← Nat.mul_assoc]; omega
theorem wide_fold (r : List Nat) : ∀ a, (∀ y ∈ r, y < 256) → wide (r.foldl (fun a c => a * 256 + c) a) r.length = r := by
  induction r with
  | nil => intro a _; rfl
  | cons c r ih =>
    intro a hb
    have hb' : ∀ y ∈ r, y < 256 := fun y hy => hb y (by simp [hy])
    have hc := hb c (by simp)
    obtain ⟨s, hs, e⟩ := fold_form r (a * 256 + c) hb'
    have h2 := ih (a * 256 + c) hb'
    simp only [List.foldl_cons, List.length_cons, wide]
    rw [h2, e]
    have hp : 0 < 256 ^ r.length := Nat.pow_pos (by omega)
    have : ((a * 256 + c) * 256 ^ r.length + s) / 256 ^ r.length = a * 256 + c := by
      rw [Nat.add_comm, Nat.add_mul_div_right _ _ hp, Nat.div_eq_of_lt hs, Nat.zero_add]
    rw [this]
    congr 1; omega
theorem fold_mod (r : List Nat) : ∀ a, (∀ y ∈ r, y < 256) → (a + 1) * 256 ^ r.length ≤ 18446744073709551616 → r.foldl (fun a c => (a * 256 + c) % 18446744073709551616) a = r.foldl (fun a c => a * 256 + c) a := by
  induction r with
  | nil => intro a _ _; rfl
  | cons c r ih =>
    intro a hb h
    have hc := hb c (by simp)
    simp only [List.foldl_cons]
    have hp : 0 < 256 ^ r.length := Nat.pow_pos (by omega)
    simp only [List.length_cons, Nat.pow_succ] at h
    have h2 : (a * 256 + c + 1) * 256 ^ r.length ≤ (a + 1) * (256 ^ r.length * 256) := by
      rw [Nat.mul_comm (256 ^ r.length) 256, ← Nat.mul_assoc]
      exact Nat.mul_le_mul (by omega) (Nat.le_refl _)
    have h3 : a * 256 + c + 1 ≤ (a * 256 + c + 1) * 256 ^ r.length := Nat.le_mul_of_pos_right _ hp
    rw [Nat.mod_eq_of_lt (by omega)]
    exact ih _ (fun y hy => hb y (by simp [hy])) (by omega)
theorem wide_beL {r : List Nat} (hb : ∀ y ∈ r, y < 256) (hl : r.length ≤ 8) : wide (beL r) r.length = r ∧ beL r < 256 ^ r.length := by
  have hpow : 256 ^ r.length ≤ 256 ^ 8 := Nat.pow_le_pow_right (by omega) hl
  have h8 : (256 : Nat) ^ 8 = 18446744073709551616 := (by decide)
  have e : beL r = r.foldl (fun a c => a * 256 + c) 0 := fold_mod r 0 hb (by omega)
  obtain ⟨s, hs, e2⟩ := fold_form r 0 hb
  rw [e]
  exact ⟨wide_fold r 0 hb, by rw [e2]; omega⟩

theorem rNum_one {P : List Nat} {i n v j : Nat} (h : rNum P i 0 n = (v, j, 0)) (hb : ∀ y ∈ P, y < 256) (hn : n ≤ 8) (hi : i ≤ P.length) : wide v n = (P.drop i).take n ∧ j = i + n ∧ j ≤ P.length ∧ v < 256 ^ n := by
  simp only [rNum, ne_eq, not_true_eq_false, if_false] at h
  split at h
  · simp at h
  · rename_i h1
    simp only [Prod.mk.injEq] at h
    obtain ⟨rfl, rfl, _⟩ := h
    have hl : ((P.drop i).take n).length = n := by simp; omega
    have := wide_beL (r := (P.drop i).take n) (fun y hy => hb y (List.mem_of_mem_drop (List.mem_of_mem_take hy))) (by omega)
    rw [hl] at this
    exact ⟨this.1, rfl, by omega, this.2⟩

theorem fuv_one (q : List Nat) : ∀ k a x s, (∀ y ∈ q, y < 256) → fuv q k a = (x, s) → s ≠ 0 → ∃ y, x = a + y * 128 ^ k ∧ k < s ∧ uv y = q.take (s - k) ∧ (0 < k → 0 < y) := by
  induction q with
  | nil => intro k a x s _ h hs; simp [fuv] at h; omega
  | cons c r ih =>
    intro k a x s hb h hs
    have hc := hb c (by simp)
    rw [fuv] at h
    split at h
    · simp at h; omega
    · split at h
      · rename_i h1 h2
        obtain ⟨y, hx, hk, hu, hy⟩ := ih (k + 1) _ x s (fun y hy => hb y (by simp [hy])) h hs
        have hy' := hy (by omega)
        refine ⟨y * 128 + c % 128, ?_, by omega, ?_, fun _ => by omega⟩
        · rw [hx, Nat.pow_succ, Nat.add_mul, Nat.mul_assoc, Nat.mul_comm 128 (128 ^ k)]; omega
        · rw [uv_ge (by omega)]
          have e1 : (y * 128 + c % 128) % 128 + 128 = c := by omega
          have e2 : (y * 128 + c % 128) / 128 = y := by omega
          rw [e1, e2, hu]
          rw [show s - k = (s - (k + 1)) + 1 from by omega, List.take_succ_cons]
      · split at h
        · simp at h; omega
        · rename_i h1 h2 h3
          simp only [Prod.mk.injEq] at h
          obtain ⟨rfl, rfl⟩ := h
          refine ⟨c, by rw [Nat.mod_eq_of_lt (by omega)], by omega, ?_, fun _ => by omega⟩
          rw [uv_lt (by omega), show k + 1 - k = 1 from by omega]
          simp

theorem rUvar_one {P : List Nat} {i v j : Nat} (h : rUvar P i 0 = (v, j, 0)) (hb : ∀ y ∈ P, y < 256) (hi : i ≤ P.length) : uv v = (P.drop i).take (j - i) ∧ i ≤ j ∧ j ≤ P.length ∧ v < 18446744073709551616 := by
  simp only [rUvar, ne_eq, not_true_eq_false, if_false] at h
  split at h
  · simp at h
  · rename_i h1
    simp only [Prod.mk.injEq] at h
    obtain ⟨rfl, rfl, _⟩ := h
    have hle := fuv_le (P.drop i) 0 0
    have hlt := fuv_lt (P.drop i) 0 0 (by decide) (by decide)
    obtain ⟨y, hx, hk, hu, _⟩ := fuv_one (P.drop i) 0 0 _ _ (fun y hy => hb y (List.mem_of_mem_drop hy)) (rfl : fuv (P.drop i) 0 0 = ((fuv (P.drop i) 0 0).1, (fuv (P.drop i) 0 0).2)) h1
    simp only [Nat.pow_zero, Nat.mul_one, Nat.zero_add, Nat.sub_zero] at hx hu
    simp at hle
    exact ⟨by rw [hx, hu]; congr 1; omega, by omega, by omega, hlt⟩

theorem rRaw_one {P : List Nat} {i j : Nat} {n : Int} {q : List Nat} (h : rRaw P i 0 n = (q, j, 0)) (hi : i ≤ P.length) : q = (P.drop i).take (j - i) ∧ i ≤ j ∧ j ≤ P.length := by
  simp only [rRaw, ne_eq, not_true_eq_false, if_false] at h
  split at h
  · simp at h
  · split at h
    · simp at h
    · rename_i h1 h2
      simp only [Prod.mk.injEq] at h
      obtain ⟨rfl, rfl, _⟩ := h
      exact ⟨by congr 1; omega, by omega, by omega⟩

theorem rBlob_one {P : List Nat} {i j : Nat} {n : Int} {q : List Nat} (h : rBlob P i 0 n = (q, j, 0)) (hb : ∀ y ∈ P, y < 256) (hi : i ≤ P.length) : uv q.length ++ q = (P.drop i).take (j - i) ∧ i ≤ j ∧ j ≤ P.length := by
  simp only [rBlob, ne_eq, not_true_eq_false, if_false] at h
  have hle := fuv_le (P.drop i) 0 0
  have hone := fuv_one (P.drop i) 0 0 _ _ (fun y hy => hb y (List.mem_of_mem_drop hy)) (rfl : fuv (P.drop i) 0 0 = ((fuv (P.drop i) 0 0).1, (fuv (P.drop i) 0 0).2))
  obtain ⟨x, s, hf⟩ : ∃ x s, fuv (P.drop i) 0 0 = (x, s) := ⟨_, _, rfl⟩
  rw [hf] at h hle hone
  simp only at h hle hone
  split at h
  · simp at h
  · split at h
    · simp at h
    · split at h
      · simp at h
      · split at h
        · simp at h
        · rename_i h1 h2 h3 h4
          simp only [Prod.mk.injEq] at h
          obtain ⟨rfl, rfl, _⟩ := h
          obtain ⟨y, hx, hk, hu, _⟩ := hone h2
          simp only [Nat.pow_zero, Nat.mul_one, Nat.zero_add, Nat.sub_zero] at hx hu
          subst hx
          simp only [List.length_drop] at hle h4
          have hl : (((P.drop i).drop s).take x).length = x := by simp; omega
          rw [hl, hu, show i + (s + x) - i = s + x from by omega]
          exact ⟨(List.take_add).symm, by omega, by omega⟩
end Go.Proofs.YtckkalmhekfnhabGreatDoor
namespace Go.Proofs.YtckkalmhekfnhabGreatDoor
open Go.RowKit
set_option linter.unusedVariables false
set_option linter.unusedSimpArgs false

theorem drop_next {P : List Nat} {i : Nat} {a r : List Nat} (h : P.drop i = a ++ r) : P.drop (i + a.length) = r := by
  rw [← List.drop_drop, h, List.drop_left]
theorem rBlob_len {P : List Nat} {i e j : Nat} {m : Nat} {q : List Nat} (h : rBlob P i e m = (q, j, 0)) : q.length ≤ m := by
  unfold rBlob at h
  split at h
  · rename_i h1; injection h with h2 h3; injection h3 with h3 h4; exact absurd h4 h1
  split at h
  · injection h with h2 h3; injection h3 with h3 h4; omega
  split at h
  · injection h with h2 h3; injection h3 with h3 h4; omega
  split at h
  · injection h with h2 h3; injection h3 with h3 h4; omega
  split at h
  · injection h with h2 h3; injection h3 with h3 h4; omega
  · rename_i h1 h2 h3 h4 h5
    injection h with h2 h3
    rw [← h2, List.length_take]; omega
theorem rBlob_held {P : List Nat} {i e : Nat} {m : Int} {q : List Nat} {j : Nat} (h : rBlob P i e m = (q, j, 0)) : e = 0 := by
  unfold rBlob at h
  split at h
  · rename_i h1; injection h with h2 h3; injection h3 with h3 h4
  · rename_i h1; exact Decidable.not_not.1 h1
theorem rUvar_held {P : List Nat} {i e v j : Nat} (h : rUvar P i e = (v, j, 0)) : e = 0 := by
  unfold rUvar at h
  split at h
  · rename_i h1; injection h with h2 h3; injection h3 with h3 h4
  · rename_i h1; exact Decidable.not_not.1 h1
theorem wide1 (k : Nat) (h : k < 256) : wide k 1 = [k] := by simp [wide, Nat.mod_eq_of_lt h]

theorem takeE_back {P : List Nat} {i : Nat} {e : En} {r : List Nat} (hd : P.drop i = enB e ++ r) (hc : chkE e = 0) : takeE P i = (e, i + (enB e).length, 0) := by
  obtain ⟨k, key, val⟩ := e
  unfold chkE at hc
  simp only at hc
  split at hc
  · omega
  rename_i hl
  split at hc
  · omega
  rename_i hk
  have hk' : k = 1 ∨ (k = 2 ∧ val = []) := by
    rcases (by omega : k = 1 ∨ (k = 2 ∧ val.length = 0)) with h | ⟨h, h0⟩
    · exact Or.inl h
    · exact Or.inr ⟨h, List.eq_nil_of_length_eq_zero h0⟩
  rcases hk' with rfl | ⟨rfl, rfl⟩
  · simp only [enB, if_true] at hd ⊢
    have n1 : rNum P i 0 1 = (1, i + 1, 0) := rNum_back (v := 1) (n := 1) (r := uv key.length ++ key ++ (uv val.length ++ val) ++ r) (by rw [hd]; simp [wide1]) (by decide) (by decide)
    have hd1 : P.drop (i + 1) = uv key.length ++ key ++ (uv val.length ++ val ++ r) := by
      have := drop_next (a := [1]) (r := uv key.length ++ key ++ (uv val.length ++ val) ++ r) (P := P) (i := i) (by rw [hd]; simp)
      rw [show i + 1 = i + [1].length from rfl, this]; simp
    have n2 : rBlob P (i + 1) 0 64 = (key, i + 1 + ((uv key.length).length + key.length), 0) := rBlob_back hd1 (by omega) (by omega)
    have hd2 : P.drop (i + 1 + ((uv key.length).length + key.length)) = uv val.length ++ val ++ r := by
      have := drop_next hd1
      rw [List.length_append] at this
      exact this
    have n3 : rBlob P (i + 1 + ((uv key.length).length + key.length)) 0 256 = (val, i + 1 + ((uv key.length).length + key.length) + ((uv val.length).length + val.length), 0) := rBlob_back hd2 (by omega) (by omega)
    unfold takeE
    simp only [n1, n2, n3]
    simp only [Nat.reduceMod, true_or, if_true, List.length_cons, List.length_append, Prod.mk.injEq, true_and, and_true]
    omega
  · simp only [enB] at hd ⊢
    rw [if_neg (by decide)] at hd ⊢
    have n1 : rNum P i 0 1 = (2, i + 1, 0) := rNum_back (v := 2) (n := 1) (r := uv key.length ++ key ++ r) (by rw [hd]; simp [wide1]) (by decide) (by decide)
    have hd1 : P.drop (i + 1) = uv key.length ++ key ++ r := by
      have := drop_next (a := [2]) (r := uv key.length ++ key ++ r) (P := P) (i := i) (by rw [hd]; simp)
      rw [show i + 1 = i + [2].length from rfl, this]
    have n2 : rBlob P (i + 1) 0 64 = (key, i + 1 + ((uv key.length).length + key.length), 0) := rBlob_back hd1 (by omega) (by omega)
    unfold takeE
    simp only [n1, n2]
    simp only [Nat.reduceMod, List.length_cons, List.length_append, List.length_nil]
    simp
    omega

theorem takeN_back {P : List Nat} : ∀ (es : List En) (i : Nat) (r : List Nat), P.drop i = entB es ++ r → (∀ e ∈ es, chkE e = 0) → takeN P i es.length = (es, i + (entB es).length, 0)
  | [], i, r, _, _ => by simp [takeN, entB]
  | e :: es, i, r, hd, hc => by
    have hd1 : P.drop i = enB e ++ (entB es ++ r) := by rw [hd]; simp [entB]
    have h1 := takeE_back hd1 (hc e (by simp))
    have h2 := takeN_back es _ r (drop_next hd1) (fun x hx => hc x (by simp [hx]))
    simp only [List.length_cons, takeN, h1, h2]
    simp [entB]
    omega
theorem fold_zero : ∀ es : List En, (∀ e ∈ es, chkE e = 0) → es.foldl (fun a e => leastE a (chkE e)) 0 = 0
  | [], _ => rfl
  | x :: xs, h => by
    rw [List.foldl_cons, h x (by simp)]
    exact fold_zero xs (fun e he => h e (by simp [he]))
theorem chkB_iff {f : Nat} {es : List En} : chkB f es = 0 ↔ cntE f es.length = 0 ∧ ∀ e ∈ es, chkE e = 0 := by
  refine ⟨fun h => foldl_zero es _ h, fun ⟨h1, h2⟩ => ?_⟩
  unfold chkB
  rw [h1]
  exact fold_zero es h2
theorem takeB_back {P : List Nat} {f : Nat} {es : List En} {r : List Nat} (hd : P = batB f es ++ r) (hc : chkB f es = 0) (hf : f < 18446744073709551616) : takeB P 0 = (f, es, (batB f es).length, 0) := by
  obtain ⟨c1, c2⟩ := chkB_iff.1 hc
  have hn : es.length ≤ 64 := by unfold cntE at c1; split at c1 <;> omega
  have hd0 : P.drop 0 = uv f ++ (uv es.length ++ (entB es ++ r)) := by rw [List.drop_zero, hd]; simp [batB]
  have n1 := rUvar_back hd0 hf
  have hd1 := drop_next hd0
  have n2 := rUvar_back hd1 (by omega)
  have n3 := takeN_back es _ r (drop_next hd1) c2
  unfold takeB
  simp only [n1, n2, n3, c1]
  simp [batB]
  omega

theorem rNum1_one {P : List Nat} {i x j : Nat} (h : rNum P i 0 1 = (x, j, 0)) (hb : ∀ y ∈ P, y < 256) (hi : i ≤ P.length) : [x] = (P.drop i).take 1 ∧ j = i + 1 ∧ j ≤ P.length ∧ x < 256 := by
  obtain ⟨h1, h2, h3, h4⟩ := rNum_one h hb (by decide) hi
  have h4' : x < 256 := by simpa using h4
  rw [wide1 x h4'] at h1
  exact ⟨h1, h2, h3, h4'⟩
theorem take_join (P : List Nat) {i j k : Nat} (h1 : i ≤ j) (h2 : j ≤ k) : (P.drop i).take (k - i) = (P.drop i).take (j - i) ++ (P.drop j).take (k - j) := by
  rw [show k - i = (j - i) + (k - j) by omega, List.take_add, List.drop_drop, show i + (j - i) = j by omega]
theorem takeE_one {P : List Nat} {i : Nat} {e : En} {j : Nat} (h : takeE P i = (e, j, 0)) (hb : ∀ y ∈ P, y < 256) (hi : i ≤ P.length) : enB e = (P.drop i).take (j - i) ∧ i ≤ j ∧ j ≤ P.length ∧ chkE e = 0 := by
  unfold takeE at h
  obtain ⟨⟨x, i1, e1⟩, hx⟩ : ∃ t, rNum P i 0 1 = t := ⟨_, rfl⟩
  rw [hx] at h
  simp only at h
  obtain ⟨⟨key, i2, e2⟩, hy⟩ : ∃ t, rBlob P i1 e1 64 = t := ⟨_, rfl⟩
  rw [hy] at h
  simp only at h
  split at h
  · split at h
    · rename_i h12 hk1
      obtain ⟨⟨val, i3, e3⟩, hz⟩ : ∃ t, rBlob P i2 e2 256 = t := ⟨_, rfl⟩
      rw [hz] at h
      simp only at h
      injection h with h1 h2
      injection h2 with h2 h3
      subst h2
      subst h3
      have he2 := rBlob_held hz
      subst he2
      have he1 := rBlob_held hy
      subst he1
      obtain ⟨a1, a2, a3, a4⟩ := rNum1_one hx hb hi
      obtain ⟨b1, b2, b3⟩ := rBlob_one hy hb a3
      obtain ⟨c1, c2, c3⟩ := rBlob_one hz hb b3
      have l1 := rBlob_len (m := 64) hy
      have l2 := rBlob_len (m := 256) hz
      have hx1 : x = 1 := by omega
      subst hx1
      subst h1
      refine ⟨?_, by omega, c3, ?_⟩
      · rw [take_join P (by omega : i ≤ i1) (by omega : i1 ≤ i3), take_join P b2 c2, show i1 - i = 1 by omega, ← a1, ← b1, ← c1]
        simp [enB]
      · unfold chkE
        simp only
        rw [if_neg (by omega), if_neg (by omega)]
    · rename_i h12 hk1
      injection h with h1 h2
      injection h2 with h2 h3
      subst h2
      subst h3
      have he1 := rBlob_held hy
      subst he1
      obtain ⟨a1, a2, a3, a4⟩ := rNum1_one hx hb hi
      obtain ⟨b1, b2, b3⟩ := rBlob_one hy hb a3
      have l1 := rBlob_len (m := 64) hy
      have hx1 : x = 2 := by omega
      subst hx1
      subst h1
      refine ⟨?_, by omega, b3, ?_⟩
      · rw [take_join P (by omega : i ≤ i1) (by omega : i1 ≤ i2), show i1 - i = 1 by omega, ← a1, ← b1]
        simp [enB]
      · unfold chkE
        simp only [List.length_nil]
        rw [if_neg (by omega), if_neg (by omega)]
  · injection h with h1 h2
    injection h2 with h2 h3
    omega

theorem takeN_one {P : List Nat} (hb : ∀ y ∈ P, y < 256) : ∀ (n i : Nat) (es : List En) (j : Nat), takeN P i n = (es, j, 0) → i ≤ P.length → entB es = (P.drop i).take (j - i) ∧ i ≤ j ∧ j ≤ P.length ∧ es.length = n ∧ ∀ e ∈ es, chkE e = 0
  | 0, i, es, j, h, hi => by
    simp only [takeN, Prod.mk.injEq, and_true] at h
    obtain ⟨rfl, rfl⟩ := h
    simp [entB, hi]
  | n + 1, i, es, j, h, hi => by
    obtain ⟨⟨e, i1, f1⟩, hx⟩ : ∃ t, takeE P i = t := ⟨_, rfl⟩
    simp only [takeN, hx] at h
    split at h
    · rename_i hf
      injection h with h1 h2
      injection h2 with h2 h3
      exact absurd h3 hf
    · rename_i hf
      have hf0 : f1 = 0 := Decidable.not_not.1 hf
      subst hf0
      obtain ⟨a1, a2, a3, a4⟩ := takeE_one hx hb hi
      obtain ⟨⟨es', j', f'⟩, hy⟩ : ∃ t, takeN P i1 n = t := ⟨_, rfl⟩
      rw [hy] at h
      injection h with h1 h2
      injection h2 with h2 h3
      simp only at h1 h2 h3
      subst h2
      subst h3
      obtain ⟨b1, b2, b3, b4, b5⟩ := takeN_one hb n i1 es' j' hy a3
      subst h1
      refine ⟨?_, by omega, b3, by simp [b4], ?_⟩
      · rw [take_join P a2 b2, ← a1, ← b1]; simp [entB]
      · intro x hx'
        rcases List.mem_cons.1 hx' with rfl | hx'
        · exact a4
        · exact b5 x hx'
theorem takeB_one {P : List Nat} {f j : Nat} {es : List En} (h : takeB P 0 = (f, es, j, 0)) (hb : ∀ y ∈ P, y < 256) : batB f es = P.take j ∧ j ≤ P.length ∧ chkB f es = 0 ∧ f < 18446744073709551616 := by
  unfold takeB at h
  obtain ⟨⟨x, i1, e1⟩, hx⟩ : ∃ t, rUvar P 0 0 = t := ⟨_, rfl⟩
  rw [hx] at h
  simp only at h
  obtain ⟨⟨n, i2, e2⟩, hy⟩ : ∃ t, rUvar P i1 e1 = t := ⟨_, rfl⟩
  rw [hy] at h
  simp only at h
  split at h
  · rename_i h1
    injection h with h2 h3; injection h3 with h3 h4; injection h4 with h4 h5
    exact absurd h5 h1
  rename_i he
  split at h
  · rename_i h1
    injection h with h2 h3; injection h3 with h3 h4; injection h4 with h4 h5
    exact absurd h5 h1
  rename_i hc
  have he0 : e2 = 0 := Decidable.not_not.1 he
  subst he0
  have he1 := rUvar_held hy
  subst he1
  injection h with h2 h3
  subst h2
  obtain ⟨a1, a2, a3, a4⟩ := rUvar_one hx hb (Nat.zero_le _)
  obtain ⟨b1, b2, b3, b4⟩ := rUvar_one hy hb a3
  obtain ⟨c1, c2, c3, c4, c5⟩ := takeN_one hb n i2 es j h3 b3
  refine ⟨?_, c3, chkB_iff.2 ⟨?_, c5⟩, a4⟩
  · have e0 := take_join P (Nat.zero_le i1) (by omega : i1 ≤ j)
    rw [List.drop_zero] at e0
    rw [show j = j - 0 by omega, e0, take_join P b2 c2, ← b1, ← c1]
    rw [List.drop_zero] at a1
    rw [← a1, ← c4]
    rfl
  · rw [c4]; exact Decidable.not_not.1 hc

theorem decB_one {P : List Nat} {f : Nat} {es : List En} (h : decB P = (f, es, 0)) (hb : ∀ y ∈ P, y < 256) : P = batB f es ∧ chkB f es = 0 ∧ f < 18446744073709551616 := by
  unfold decB at h
  obtain ⟨⟨f', es', j, e⟩, hx⟩ : ∃ t, takeB P 0 = t := ⟨_, rfl⟩
  rw [hx] at h
  simp only at h
  split at h
  · rename_i h1
    injection h with h2 h3; injection h3 with h3 h4
    exact absurd h4 h1
  rename_i he
  have he0 : e = 0 := Decidable.not_not.1 he
  subst he0
  obtain ⟨a1, a2, a3, a4⟩ := takeB_one hx hb
  split at h
  · rename_i h1
    injection h with h2 h3; injection h3 with h3 h4
    exact absurd h4 h1
  rename_i hd
  injection h with h2 h3; injection h3 with h3 h4
  subst h2
  subst h3
  refine ⟨?_, a3, a4⟩
  have hj : ¬ j < P.length := fun h9 => hd (by unfold doneE; rw [if_pos ⟨rfl, h9⟩]; decide)
  rw [a1, List.take_of_length_le (by omega)]
theorem decB_back {f : Nat} {es : List En} (hc : chkB f es = 0) (hf : f < 18446744073709551616) : decB (batB f es) = (f, es, 0) := by
  have h := takeB_back (P := batB f es) (r := []) (by simp) hc hf
  unfold decB
  rw [h]
  simp [doneE]
theorem decB_more {f : Nat} {es : List En} {r : List Nat} (hc : chkB f es = 0) (hf : f < 18446744073709551616) (hr : r ≠ []) : (decB (batB f es ++ r)).2.2 = 3 := by
  have h := takeB_back (P := batB f es ++ r) (r := r) rfl hc hf
  have hl : 0 < r.length := List.length_pos_iff.2 hr
  unfold decB
  rw [h]
  simp [doneE, hl]
theorem decB_less {f : Nat} {es : List En} {n : Nat} (hc : chkB f es = 0) (hf : f < 18446744073709551616) (hb : ∀ y ∈ batB f es, y < 256) (hn : n < (batB f es).length) : (decB ((batB f es).take n)).2.2 ≠ 0 := by
  intro h
  obtain ⟨⟨f', es', e⟩, hx⟩ : ∃ t, decB ((batB f es).take n) = t := ⟨_, rfl⟩
  rw [hx] at h
  simp only at h
  subst h
  obtain ⟨a1, a2, a3⟩ := decB_one hx (fun y hy => hb y (List.mem_of_mem_take hy))
  have h1 := takeB_back (P := batB f es) (r := []) (by simp) hc hf
  have h2 := takeB_back (P := batB f es) (r := (batB f es).drop n) (by rw [← a1, List.take_append_drop]) a2 a3
  rw [h1] at h2
  injection h2 with h3 h4; injection h4 with h4 h5; injection h5 with h5 h6
  have h7 := congrArg List.length a1
  rw [List.length_take] at h7
  omega

theorem decE_one {P : List Nat} {e : En} (h : decE P = (e, 0)) (hb : ∀ y ∈ P, y < 256) : P = enB e ∧ chkE e = 0 := by
  unfold decE at h
  obtain ⟨⟨e', j, f⟩, hx⟩ : ∃ t, takeE P 0 = t := ⟨_, rfl⟩
  rw [hx] at h
  simp only at h
  split at h
  · rename_i h1
    injection h with h2 h3
    exact absurd h3 h1
  rename_i he
  have he0 : f = 0 := Decidable.not_not.1 he
  subst he0
  obtain ⟨a1, a2, a3, a4⟩ := takeE_one hx hb (Nat.zero_le _)
  split at h
  · rename_i h1
    injection h with h2 h3
    exact absurd h3 h1
  rename_i hd
  injection h with h2 h3
  subst h2
  refine ⟨?_, a4⟩
  have hj : ¬ j < P.length := fun h9 => hd (by unfold doneE; rw [if_pos ⟨rfl, h9⟩]; decide)
  rw [a1, List.drop_zero, List.take_of_length_le (by omega)]
theorem decE_back {e : En} (hc : chkE e = 0) : decE (enB e) = (e, 0) := by
  have h := takeE_back (P := enB e) (i := 0) (r := []) (by simp) hc
  unfold decE
  rw [h]
  simp [doneE]
theorem decE_more {e : En} {r : List Nat} (hc : chkE e = 0) (hr : r ≠ []) : (decE (enB e ++ r)).2 = 3 := by
  have h := takeE_back (P := enB e ++ r) (i := 0) (r := r) rfl hc
  have hl : 0 < r.length := List.length_pos_iff.2 hr
  unfold decE
  rw [h]
  simp [doneE, hl]
theorem decE_less {e : En} {n : Nat} (hc : chkE e = 0) (hb : ∀ y ∈ enB e, y < 256) (hn : n < (enB e).length) : (decE ((enB e).take n)).2 ≠ 0 := by
  intro h
  obtain ⟨⟨e', f⟩, hx⟩ : ∃ t, decE ((enB e).take n) = t := ⟨_, rfl⟩
  rw [hx] at h
  simp only at h
  subst h
  obtain ⟨a1, a2⟩ := decE_one hx (fun y hy => hb y (List.mem_of_mem_take hy))
  have h1 := takeE_back (P := enB e) (i := 0) (r := []) (by simp) hc
  have h2 := takeE_back (P := enB e) (i := 0) (r := (enB e).drop n) (by rw [List.drop_zero, ← a1, List.take_append_drop]) a2
  rw [h1] at h2
  injection h2 with h3 h4; injection h4 with h4 h5
  have h7 := congrArg List.length a1
  rw [List.length_take] at h7
  omega
end Go.Proofs.YtckkalmhekfnhabGreatDoor
namespace Go.Proofs.YtckkalmhekfnhabGreatDoor
open Go.RowKit Go.BigFrame
set_option linter.unusedVariables false
set_option linter.unusedSimpArgs false

theorem batB_lenS {f : Nat} {es : List En} (h : chkB f es = 0) (hf : f < 18446744073709551616) : 0 < (batB f es).length ∧ (batB f es).length ≤ 30000 := by
  obtain ⟨h1, h2, _, h4⟩ := chkB_zero h
  have h5 := entB_len es h4
  have h6 := uv_len f hf
  have h7 := uv_len es.length (by omega)
  have h8 : 0 < (uv f).length := uv_pos f
  unfold batB
  simp only [List.length_append]
  omega
/-- The frame of a batch. -/
def sbB (f : Nat) (es : List En) : List Nat := if chkB f es = 0 then frB f (batB f es) else []

set_option maxRecDepth 100000 in
set_option maxHeartbeats 2000000 in
theorem segBatch_any (f : Nat) (v : Value) (es : List En) (w : World) (hf : f < 18446744073709551616) (h : RdN w v es) :
    Calls Tryz.prog 10 #[.agg #[.int .u64 f, v]] w fun r w' => ∃ v', r = .returned (.tuple #[v', .int .i64 (chkB f es)]) ∧ NewB w w' v' (sbB f es) ∧ Kept [] w w' := by
  have H := hide h
  obtain ⟨a1, n1, c1, _, _, rfl, _⟩ := id h
  clear h
  obtain ⟨B, hB⟩ : ∃ B, sbB f es = B := ⟨_, rfl⟩
  have HBB := hide hB.symm
  rw [hB]
  clear hB
  have HK0 := hide ((Kept.refl [] w).alloc (.cells #[.int .u64 f, .slice a1 n1 c1] 37))
  have HB0 := hide (heap_alloc_new w (.cells #[.int .u64 f, .slice a1 n1 c1] 37))
  obtain ⟨W1, hW1⟩ : ∃ W, w.alloc (.cells #[.int .u64 f, .slice a1 n1 c1] 37) = W := ⟨_, rfl⟩
  rw [hW1] at HK0 HB0
  have HW1 := hide hW1
  clear hW1
  obtain ⟨d0, d1⟩ := bcells (unhide HB0)
  rw [← unhide HW1] at d0 d1
  go_enter Tryz.func10, Tryz.ntmps10
  go_wp2_with fail
  rw [unhide HW1]
  clear d0 d1
  refine Calls.mono (encodeBatch_any f _ es W1 hf ((unhide H).old (unhide HK0))) ?_
  rintro e w2 ⟨v2, rfl, n2, k2⟩
  obtain ⟨a2, l2, c2, rfl, _⟩ := id n2.1
  have HN2 := hide n2
  have HK2 := hide ((unhide HK0).trans k2 (by simp))
  have HB2 := hide (k2.heap (unhide HB0) (by simp))
  clear n2 k2
  by_cases hc : chkB f es = 0
  · have HB := hide (by simp [sbB, hc] : sbB f es = frB f (batB f es))
    have HL := hide (batB_lenS hc hf)
    rw [if_pos hc] at HN2
    rw [hc]
    obtain ⟨d0, d1⟩ := bcells (unhide HB2)
    go_wp2_with fail
    refine Calls.mono (encode_any f _ (batB f es) w2 (unhide HN2).1 hf) ?_
    rintro e w3 ⟨v3, rfl, n3, k3⟩
    rw [encE_good (by have := (unhide HL).1; omega) (by have := (unhide HL).2; omega)]
    rw [encB_good (by have := (unhide HL).1; omega) (by have := (unhide HL).2; omega)] at n3
    have HN3 := hide n3
    have HK3 := hide ((unhide HK2).trans k3 (by simp))
    obtain ⟨a3, l3, c3, rfl, _⟩ := id n3.1
    clear n3 k3 d0 d1
    go_wp2
    go_ret2
    exact ⟨_, by rw [hc]; rfl, by rw [unhide HBB, unhide HB]; exact (unhide HN3).weak (unhide HK2).size, unhide HK3⟩
  · have HB := hide (by simp [sbB, hc] : sbB f es = [])
    have hc' : ((chkB f es : Int) != 0) = true := by rw [bne_iff_ne]; omega
    go_wp2
    go_ret2
    exact ⟨_, rfl, by rw [unhide HBB, unhide HB]; exact NewB.nil _ _, unhide HK2⟩
end Go.Proofs.YtckkalmhekfnhabGreatDoor
