import Derived.Test.YtckkalmhekfnhabGreatDoorEDec2
namespace Go.Proofs.YtckkalmhekfnhabGreatDoor
open Go.RowKit Go.BigFrame
set_option linter.unusedVariables false
set_option linter.unusedSimpArgs false

def cntE (f n : Nat) : Nat := if 64 < n then 2 else if n = 0 ∨ 18446744073709551615 - f < n then 3 else 0
def leastE (a b : Nat) : Nat := if a = 0 ∨ (b ≠ 0 ∧ b < a) then b else a
def chkB (f : Nat) (es : List En) : Nat := es.foldl (fun a e => leastE a (chkE e)) (cntE f es.length)
def entB (es : List En) : List Nat := (es.map enB).flatten
def batB (f : Nat) (es : List En) : List Nat := uv f ++ (uv es.length ++ entB es)

/-- The slice value v reads as these entries. -/
def RdN (w : World) (v : Value) (es : List En) : Prop :=
  ∃ (ao : Option Addr) (len cap : Nat) (kv vv : Nat → Value), v = .slice ao len cap ∧ es.length = len ∧ len ≤ cap ∧ cap ≤ 9223372036854775807 ∧ (∀ i (h : i < es.length), OkE w es[i] (kv i) (vv i)) ∧
    (0 < len → ∃ b off, ao = some ⟨b, off, none⟩ ∧ ∀ i (h : i < es.length), w.rangeAt b (off + i * 3) (enC es[i] (kv i) (vv i)).toList)
theorem rangeE_kept {L : List Nat} {w w' : World} {b o : Nat} {cs : List Value} (h : w.rangeAt b o cs) (k : Kept L w w') (hb : b ∉ L) : w'.rangeAt b o cs := fun j v hv => k.cell (h j v hv) hb
theorem RdN.old {w w' : World} {v : Value} {es : List En} (h : RdN w v es) (k : Kept [] w w') : RdN w' v es := by
  obtain ⟨ao, len, cap, kv, vv, h1, h2, h3, h4, h5, h6⟩ := h
  refine ⟨ao, len, cap, kv, vv, h1, h2, h3, h4, fun i hi => (h5 i hi).old k, fun hp => ?_⟩
  obtain ⟨b, off, e, hc⟩ := h6 hp
  exact ⟨b, off, e, fun i hi => rangeE_kept (hc i hi) k (by simp)⟩
theorem RdN.nil (w : World) : RdN w (.slice none 0 0) [] := ⟨none, 0, 0, fun _ => undef, fun _ => undef, rfl, rfl, Nat.le_refl _, by omega, fun i h => by simp at h, fun h => by omega⟩

set_option maxRecDepth 100000 in
set_option maxHeartbeats 1000000 in
theorem checkCount_any (f n : Nat) (w : World) (hf : f < 18446744073709551616) (hn : n < 18446744073709551616) :
    Calls Tryz.prog 106 #[.int .u64 f, .int .u64 n] w fun r w' => r = .returned (.int .i64 (cntE f n)) ∧ w' = w := by
  obtain ⟨E, hE⟩ : ∃ E, cntE f n = E := ⟨_, rfl⟩
  rw [hE]
  have HE := hide hE
  clear hE
  have hw : IntKind.u64.wrap (18446744073709551615 - (f : Int)) = 18446744073709551615 - (f : Int) := by
    simp [IntKind.wrap, IntKind.signed, IntKind.bits]; omega
  have hw' : (18446744073709551615 - (f : Int)) % 18446744073709551616 = 18446744073709551615 - (f : Int) := by omega
  go_enter Tryz.func106, Tryz.ntmps106
  by_cases h1 : 64 < n
  · have h1' : (64 : Int) < n := by omega
    have HE2 := hide (by rw [← unhide HE]; simp [cntE, h1] : E = 2)
    go_wp2
    go_ret
    exact ⟨by rw [unhide HE2]; rfl, rfl⟩
  · have h1' : ¬ (64 : Int) < n := by omega
    by_cases h2 : n = 0
    · have h2' : ((n : Int) == 0) = true := by rw [h2]; rfl
      have HE2 := hide (by rw [← unhide HE]; simp [cntE, h2] : E = 3)
      clear h2
      go_wp2
      go_ret
      exact ⟨by rw [unhide HE2]; rfl, rfl⟩
    · have h2' : ((n : Int) == 0) = false := by rw [beq_eq_false_iff_ne]; omega
      by_cases h3 : 18446744073709551615 - f < n
      · have h3' : 18446744073709551615 - (f : Int) < n := by omega
        have HE2 := hide (by rw [← unhide HE]; simp [cntE, h1, h2, h3] : E = 3)
        go_wp2
        go_ret
        exact ⟨by rw [unhide HE2]; rfl, rfl⟩
      · have h3' : ¬ 18446744073709551615 - (f : Int) < n := by omega
        have HE2 := hide (by rw [← unhide HE]; simp [cntE, h1, h2, h3] : E = 0)
        go_wp2
        go_ret
        exact ⟨by rw [unhide HE2]; rfl, rfl⟩

set_option maxRecDepth 100000 in
set_option maxHeartbeats 1000000 in
theorem least_any (a b : Nat) (w : World) :
    Calls Tryz.prog 107 #[.int .i64 a, .int .i64 b] w fun r w' => r = .returned (.int .i64 (leastE a b)) ∧ w' = w := by
  obtain ⟨E, hE⟩ : ∃ E, leastE a b = E := ⟨_, rfl⟩
  rw [hE]
  have HE := hide hE
  clear hE
  go_enter Tryz.func107, Tryz.ntmps107
  by_cases h1 : a = 0
  · have h1' : ((a : Int) == 0) = true := by rw [h1]; rfl
    have HE2 := hide (by rw [← unhide HE]; simp [leastE, h1] : E = b)
    clear h1
    go_wp2
    go_ret
    exact ⟨by rw [unhide HE2]; rfl, rfl⟩
  · have h1' : ((a : Int) == 0) = false := by rw [beq_eq_false_iff_ne]; omega
    by_cases h2 : b = 0
    · have h2' : ((b : Int) != 0) = false := by rw [h2]; rfl
      have HE2 := hide (by rw [← unhide HE]; simp [leastE, h1, h2] : E = a)
      clear h1 h2
      go_wp2
      go_ret
      exact ⟨by rw [unhide HE2]; rfl, rfl⟩
    · have h2' : ((b : Int) != 0) = true := by rw [bne_iff_ne]; omega
      by_cases h3 : b < a
      · have h3' : (b : Int) < a := by omega
        have HE2 := hide (by rw [← unhide HE]; simp [leastE, h1, h2, h3] : E = b)
        clear h1 h2
        go_wp2
        go_ret
        exact ⟨by rw [unhide HE2]; rfl, rfl⟩
      · have h3' : ¬ (b : Int) < a := by omega
        have HE2 := hide (by rw [← unhide HE]; simp [leastE, h1, h2, h3] : E = a)
        clear h1 h2
        go_wp2
        go_ret
        exact ⟨by rw [unhide HE2]; rfl, rfl⟩

theorem foldl_snoc {α β : Type} (g : β → α → β) (z : β) (l : List α) (i : Nat) (h : i < l.length) : (l.take (i + 1)).foldl g z = g ((l.take i).foldl g z) l[i] := by
  rw [List.take_succ_eq_append_getElem h, List.foldl_append]; rfl

set_option maxRecDepth 100000 in
set_option maxHeartbeats 1000000 in
theorem checkBatch_any (f : Nat) (v : Value) (es : List En) (w : World) (hf : f < 18446744073709551616) (h : RdN w v es) :
    Calls Tryz.prog 66 #[.agg #[.int .u64 f, v]] w fun r w' => r = .returned (.int .i64 (chkB f es)) ∧ Kept [] w w' := by
  obtain ⟨ao, len, cap, kv, vv, rfl, h1, h2, h3, h4, h5⟩ := h
  have H4 := hide h4
  have H5 := hide h5
  clear h4 h5
  subst h1
  have HK0 := hide ((Kept.refl [] w).alloc (.cells #[.int .u64 (f : Int), .slice ao es.length cap] 37))
  go_enter Tryz.func66, Tryz.ntmps66
  go_wp2_with fail
  refine Calls.mono (checkCount_any f es.length _ hf (by omega)) ?_
  rintro r w1 ⟨rfl, rfl⟩
  go_wp2_with fail
  go_loopw [16, 3] (fun t12 t4 wr => ∃ (i : Nat), i ≤ es.length ∧ t12 = .int .i64 i ∧ t4 = .int .i64 ((es.take i).foldl (fun a e => leastE a (chkE e)) (cntE f es.length) : Nat) ∧ Hid (Kept [] w wr)) (fun t _ _ => es.length - (intOf t).toNat)
  case atStart => exact ⟨0, Nat.zero_le _, rfl, rfl, HK0⟩
  case round =>
    obtain ⟨i, hi, rfl, rfl, HK⟩ := hrel
    by_cases hlt : i < es.length
    · have hlt' : (i : Int) < es.length := by omega
      obtain ⟨b, off, rfl, hcc⟩ := unhide H5 (by omega)
      have hr := hcc i hlt
      have q0 := (unhide HK).cell (hr 0 _ rfl) (by simp)
      have q1 := (unhide HK).cell (hr 1 _ rfl) (by simp)
      have q2 := (unhide HK).cell (hr 2 _ rfl) (by simp)
      rw [Nat.add_zero] at q0
      have HO := hide ((unhide H4 i hlt).old (unhide HK))
      have HSN := hide (foldl_snoc (fun a e => leastE a (chkE e)) (cntE f es.length) es i hlt)
      clear hcc hr
      generalize kv i = kvi at q1 HO
      generalize vv i = vvi at q2 HO
      generalize es[i] = e at q0 HO HSN
      obtain ⟨a8, m8, c8, rfl, _⟩ := id (unhide HO).key
      obtain ⟨a9, m9, c9, rfl, _⟩ := id (unhide HO).val
      generalize (es.take i).foldl (fun a e => leastE a (chkE e)) (cntE f es.length) = acc at HSN
      go_wp2_with fail
      have HK1 := hide ((unhide HK).alloc (.cells #[.int .u8 (e.k : Int), .slice a8 m8 c8, .slice a9 m9 c9] 44))
      refine Calls.mono (check_any e _ _ _ ((unhide HO).old ((Kept.refl [] wr).alloc _))) ?_
      rintro r w2 ⟨rfl, k2⟩
      have HK2 := hide ((unhide HK1).trans k2 (by simp))
      clear k2
      go_wp2_with fail
      refine Calls.mono (least_any acc (chkE e) _) ?_
      rintro r w3 ⟨rfl, rfl⟩
      rw [← unhide HSN]
      go_wp2
      refine ⟨⟨i + 1, by omega, by go_num, rfl, HK2⟩, ?_⟩
      simp [intOf]; omega
    · have hlt' : ¬ (i : Int) < es.length := by omega
      have hie : i = es.length := by omega
      subst hie
      rw [List.take_length]
      go_wp2
      go_ret
      exact ⟨rfl, unhide HK⟩
end Go.Proofs.YtckkalmhekfnhabGreatDoor
