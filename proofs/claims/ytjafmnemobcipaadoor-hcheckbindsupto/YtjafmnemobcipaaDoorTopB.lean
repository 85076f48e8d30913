import Derived.Test.YtjafmnemobcipaaDoorTopA
import Derived.Test.YtjafmnemobcipaaDoorSame
import Derived.Test.YtjafmnemobcipaaDoorJoin
import Derived.Test.YtjafmnemobcipaaDoorQKeep
import Derived.Deep.RegionHeld3
import Derived.Test.YtjafmnemobcipaaDoorRowz
namespace Go.Proofs.YtjafmnemobcipaaDoor
open Go.RowKit Go.BigFrame
set_option linter.unusedVariables false
set_option linter.unusedSimpArgs false

set_option maxRecDepth 100000 in
set_option maxHeartbeats 1000000 in
theorem unlike_any (z : Int) (g : Nat) (d : List Nat) (w : World) (hz : -9223372036854775808 ≤ z ∧ z ≤ 9223372036854775807) (hd : Dg d) (hg : w.heap[g]? = some (.cells #[.int .i64 z] 3 (0, 0))) :
    Calls Tryd.prog 27 #[.agg (brow d), .pointer (some ⟨g, 0, none⟩)] w fun e w' => e = .returned (.bool (!formB z d)) ∧ Kept [] w w' := by
  have hdl := hd.1
  have HSZ := hide (Tryd.szD hdl)
  have HK0 := hide ((Kept.refl [] w).alloc (.cells (brow d) 29))
  have HGA := hide (heap_alloc_new w (.cells (brow d) 29))
  have c0 : (w.alloc (.cells (brow d) 29)).cell? ⟨g, 0, none⟩ = some (.int .i64 z) := cell_of_row _ g 0 _ _ _ ((unhide HK0).heap hg (by simp))
  go_enter Tryd.func27, Tryd.ntmps27
  go_wp2_with (refine wpList_load_row rfl 29 _ rfl w.heap.size rfl _ (brow d) (0, 0) _ (unhide HGA) Tryd.underlying29 rfl (unhide HSZ) ?_)
  refine Calls.mono (form_any z d _ hz hdl hd.2) ?_
  rintro e w1 ⟨rfl, k1⟩
  have HK1 := hide ((unhide HK0).trans k1 (by simp))
  clear k1 c0
  cases hF : formB z d with
  | true => go_wp2; go_ret; exact ⟨by rw [hF]; rfl, unhide HK1⟩
  | false => go_wp2; go_ret; exact ⟨by rw [hF]; rfl, unhide HK1⟩

set_option maxRecDepth 100000 in
set_option maxHeartbeats 1000000 in
theorem indexFunc_any (z : Int) (g : Nat) (v : Value) (ds : List (List Nat)) (w : World) (hz : -9223372036854775808 ≤ z ∧ z ≤ 9223372036854775807) (hv : RdD w v ds) (hg : w.heap[g]? = some (.cells #[.int .i64 z] 3 (0, 0))) :
    Calls Tryd.prog 60 #[v, .func (.func 27) #[] #[.pointer (some ⟨g, 0, none⟩)]] w fun e w' => (∃ r : Int, e = .returned (.int .i64 r) ∧ -1 ≤ r ∧ r ≤ 9223372036854775807 ∧ (0 ≤ r ↔ ds.all (formB z) = false)) ∧ Kept [] w w' := by
  obtain ⟨ao, len, cap, rfl, h1, h2, h3, h4, h5⟩ := hv
  have H4 := hide h4
  have H5 := hide h5
  clear h4 h5
  subst h1
  go_enter Tryd.func60, Tryd.ntmps60
  go_wp2_with fail
  go_loopw [8] (fun t8 wr => ∃ (i : Nat), i ≤ ds.length ∧ t8 = .int .i64 i ∧ Hid ((ds.take i).all (formB z) = true) ∧ Hid (Kept [] w wr)) (fun t _ => ds.length - (intOf t).toNat)
  case atStart => exact ⟨0, Nat.zero_le _, rfl, hide (by simp), hide (Kept.refl _ _)⟩
  case round =>
    obtain ⟨i, hi, rfl, HA, HK⟩ := hrel
    by_cases hlt : i < ds.length
    · have hlt' : (i : Int) < ds.length := by omega
      obtain ⟨b, o, rfl, hcell⟩ := unhide H5 (by omega)
      have HD := hide (unhide H4 (ds.getD i []) (by rw [List.getD_eq_getElem?_getD, List.getElem?_eq_getElem hlt]; exact List.getElem_mem hlt))
      have HRG := hide (fun j v hv => (unhide HK).cell (hcell i hlt j v hv) (by simp) : wr.rangeAt b (o + i * 32) ((ds.getD i []).map u8))
      have HN := hide (by rw [List.take_succ_eq_append_getElem hlt, List.all_append, unhide HA, List.getD_eq_getElem?_getD, List.getElem?_eq_getElem hlt]; simp : (ds.take (i + 1)).all (formB z) = formB z (ds.getD i []))
      have HM := hide (fun (h : formB z (ds.getD i []) = false) => by
        rw [List.all_eq_false]
        exact ⟨ds.getD i [], by rw [List.getD_eq_getElem?_getD, List.getElem?_eq_getElem hlt]; exact List.getElem_mem hlt, by rw [h]; decide⟩ : formB z (ds.getD i []) = false → ds.all (formB z) = false)
      clear hcell
      obtain ⟨d, hd⟩ : ∃ d, ds.getD i [] = d := ⟨_, rfl⟩
      rw [hd] at HD HRG HN HM
      clear hd
      have hdl := (unhide HD).1
      have HSZ := hide (by rw [List.length_map, hdl]; exact Tryd.size_dig : (Tryd.prog.info? 29).map (·.size) = some (d.map u8).length)
      go_wp2_with (refine wpList_load_mid rfl 29 _ rfl b (o + i * 32) rfl (d.map u8) _ (unhide HRG) Tryd.underlying29 rfl (unhide HSZ) ?_)
      refine Calls.mono (unlike_any z g d _ hz (unhide HD) ((unhide HK).heap hg (by simp))) ?_
      rintro e w1 ⟨rfl, k1⟩
      have HK1 := hide ((unhide HK).trans k1 (by simp))
      clear k1
      generalize formB z d = F at HN HM ⊢
      cases F with
      | true =>
        go_wp2
        refine ⟨⟨i + 1, hlt, by go_num, HN, HK1⟩, ?_⟩
        simp [intOf]; omega
      | false =>
        go_wp2
        go_ret
        exact ⟨⟨i, rfl, by omega, by omega, ⟨fun _ => unhide HM (by simp), fun _ => by omega⟩⟩, unhide HK1⟩
    · have hi' : i = ds.length := by omega
      subst hi'
      have HA2 := hide (by have h9 := unhide HA; rw [List.take_length] at h9; exact h9 : ds.all (formB z) = true)
      go_wp2
      go_ret
      exact ⟨⟨-1, rfl, by omega, by omega, by rw [unhide HA2]; simp⟩, unhide HK⟩

set_option maxRecDepth 100000 in
set_option maxHeartbeats 1000000 in
theorem containsFunc_any (z : Int) (g : Nat) (v : Value) (ds : List (List Nat)) (w : World) (hz : -9223372036854775808 ≤ z ∧ z ≤ 9223372036854775807) (hv : RdD w v ds) (hg : w.heap[g]? = some (.cells #[.int .i64 z] 3 (0, 0))) :
    Calls Tryd.prog 29 #[v, .func (.func 27) #[] #[.pointer (some ⟨g, 0, none⟩)]] w fun e w' => e = .returned (.bool (!ds.all (formB z))) ∧ Kept [] w w' := by
  go_enter Tryd.func29, Tryd.ntmps29
  go_wp2_with fail
  refine Calls.mono (indexFunc_any z g v ds _ hz hv hg) ?_
  rintro e w1 ⟨⟨r, rfl, h1, h2, h3⟩, k1⟩
  have HK1 := hide k1
  clear k1
  cases hA : ds.all (formB z) with
  | true =>
    have hr : ¬ (0 : Int) ≤ r := by rw [h3, hA]; simp
    have hr' : r < 0 := by omega
    have HA := hide hA
    clear h3 hA
    go_wp2; go_ret; exact ⟨by rw [unhide HA]; simp [hr], unhide HK1⟩
  | false =>
    have hr : (0 : Int) ≤ r := h3.2 hA
    have HA := hide hA
    clear h3 hA
    go_wp2; go_ret; exact ⟨by rw [unhide HA]; simp [hr], unhide HK1⟩

set_option maxRecDepth 100000 in
set_option maxHeartbeats 1000000 in
theorem hformed_any (z : Int) (kv : Value) (key : List Nat) (sv : Value) (ss : List (Nat × List (List Nat))) (nv : Value) (known : List (List Nat)) (w : World) (hz : -9223372036854775808 ≤ z ∧ z ≤ 9223372036854775807) (hk : Rd w kv key) (hs : RdS w sv ss) (hn : RdD w nv known) :
    Calls Tryd.prog 14 #[.int .i64 z, kv, sv, nv] w fun e w' => e = .returned (.int .i64 (hfE z key known ss : Int)) ∧ Kept [] w w' := by
  obtain ⟨ao, len, cap, rfl, h1, h2, h3, h4⟩ := hk
  obtain ⟨sa, ls, sc, vs, rfl, s1, s2, s3, s4, s5⟩ := hs
  have HN := hide hn
  have S4 := hide s4
  have S5 := hide s5
  have HK0 := hide ((Kept.refl [] w).alloc (.cells #[.int .i64 z] 3))
  have HG0 := hide (heap_alloc_new w (.cells #[.int .i64 z] 3))
  clear h4 s4 s5 hn
  subst h1
  subst s1
  go_enter Tryd.func14, Tryd.ntmps14
  by_cases hz1 : z < 1
  · have HF := hide (by unfold hfE; rw [if_pos (by unfold widthB; simp; omega)] : hfE z key known ss = 1)
    go_wp2
    go_ret
    exact ⟨by rw [unhide HF]; rfl, unhide HK0⟩
  · by_cases hz2 : 32 < z
    · have HF := hide (by unfold hfE; rw [if_pos (by unfold widthB; simp; omega)] : hfE z key known ss = 1)
      go_wp2
      go_ret
      exact ⟨by rw [unhide HF]; rfl, unhide HK0⟩
    · have hzw : ¬ widthB z = false := by unfold widthB; simp; omega
      by_cases hk : 64 < key.length
      · have hk' : (64 : Int) < key.length := by omega
        have HF := hide (by unfold hfE; rw [if_neg hzw, if_pos hk] : hfE z key known ss = 2)
        go_wp2
        go_ret
        exact ⟨by rw [unhide HF]; rfl, unhide HK0⟩
      · have hk' : ¬ (64 : Int) < key.length := by omega
        have HF := hide (by unfold hfE; rw [if_neg hzw, if_neg hk] : hfE z key known ss = if known.all (formB z) && ss.all (fun s => s.2.all (formB z)) then 0 else 3)
        clear hzw
        go_wp2_with fail
        refine Calls.mono (containsFunc_any z w.heap.size nv known _ hz ((unhide HN).old (unhide HK0)) (unhide HG0)) ?_
        rintro e w1 ⟨rfl, k1⟩
        have HK1 := hide ((unhide HK0).trans k1 (by simp))
        have HG1 := hide (k1.heap (unhide HG0) (by simp))
        clear k1
        cases hA : known.all (formB z) with
        | false =>
          have HF2 := hide (by rw [unhide HF, hA]; rfl : hfE z key known ss = 3)
          clear hA HF
          go_wp2
          go_ret
          exact ⟨by rw [unhide HF2]; rfl, unhide HK1⟩
        | true =>
          have HF2 := hide (by rw [unhide HF, hA, Bool.true_and] : hfE z key known ss = if ss.all (fun s => s.2.all (formB z)) then 0 else 3)
          clear hA HF
          go_wp2_with fail
          go_loopw [27] (fun t27 wr => ∃ (i : Nat), i ≤ ss.length ∧ t27 = .int .i64 i ∧ Hid ((ss.take i).all (fun s => s.2.all (formB z)) = true) ∧ Hid (Kept [] w wr) ∧ Hid (wr.heap[w.heap.size]? = some (.cells #[.int .i64 z] 3 (0, 0)))) (fun t _ => ss.length - (intOf t).toNat)
          case atStart => exact ⟨0, Nat.zero_le _, rfl, hide (by simp), HK1, HG1⟩
          case round =>
            obtain ⟨i, hi, rfl, HA, HK, HG⟩ := hrel
            by_cases hlt : i < ss.length
            · have hlt' : (i : Int) < ss.length := by omega
              obtain ⟨b, o, rfl, hcell⟩ := unhide S5 (by omega)
              have q1 := (unhide HK).cell (hcell i hlt).1 (by simp)
              have q2 := (unhide HK).cell (hcell i hlt).2 (by simp)
              have HD := hide (unhide S4 i hlt)
              have HN := hide (by rw [List.take_succ_eq_append_getElem hlt, List.all_append, unhide HA, List.getD_eq_getElem?_getD, List.getElem?_eq_getElem hlt]; simp : (ss.take (i + 1)).all (fun s => s.2.all (formB z)) = (ss.getD i (0, [])).2.all (formB z))
              have HM := hide (fun (h : (ss.getD i (0, [])).2.all (formB z) = false) => by
                have h9 : ss.all (fun s => s.2.all (formB z)) = false := by
                  rw [List.all_eq_false]
                  exact ⟨ss.getD i (0, []), by rw [List.getD_eq_getElem?_getD, List.getElem?_eq_getElem hlt]; exact List.getElem_mem hlt, by rw [h]; decide⟩
                rw [unhide HF2, h9]; rfl : (ss.getD i (0, [])).2.all (formB z) = false → hfE z key known ss = 3)
              clear hcell
              generalize ss.getD i (0, []) = s at q1 HD HN HM
              generalize vs.getD i undef = vi at q2 HD
              obtain ⟨sb, sk⟩ := s
              simp only at q1 HD HN HM
              obtain ⟨a8, m8, c8, rfl, hm8, _⟩ := id (unhide HD).2
              subst hm8
              have HKa := hide ((unhide HK).alloc (.cells #[.int .u16 sb, .slice a8 sk.length c8] 43))
              have HGa := hide (((Kept.refl [] wr).alloc (.cells #[.int .u16 sb, .slice a8 sk.length c8] 43)).heap (unhide HG) (by simp))
              go_wp2_with fail
              refine Calls.mono (containsFunc_any z w.heap.size _ sk _ hz ((unhide HD).2.old (unhide HKa)) (unhide HGa)) ?_
              rintro e w2 ⟨rfl, k2⟩
              have HK2 := hide ((unhide HKa).trans k2 (by simp))
              have HG2 := hide (k2.heap (unhide HGa) (by simp))
              clear k2 q1 q2
              cases hA : sk.all (formB z) with
              | true =>
                rw [hA] at HN
                clear hA
                go_wp2
                refine ⟨⟨i + 1, hlt, by go_num, HN, HK2, HG2⟩, ?_⟩
                simp [intOf]; omega
              | false =>
                have HX := hide (unhide HM hA)
                clear hA
                go_wp2
                go_ret
                exact ⟨by rw [unhide HX]; rfl, unhide HK2⟩
            · have hi' : i = ss.length := by omega
              subst hi'
              have HA2 := hide (by have h9 := unhide HA; rw [List.take_length] at h9; exact h9 : ss.all (fun s => s.2.all (formB z)) = true)
              go_wp2
              go_ret
              exact ⟨by rw [unhide HF2, unhide HA2]; rfl, unhide HK⟩
end Go.Proofs.YtjafmnemobcipaaDoor

namespace Go.Proofs.YtjafmnemobcipaaDoor
open Go.RowKit
set_option linter.unusedVariables false
set_option linter.unusedSimpArgs false

/-- The string that bytes make. -/
def strOf (p : List Nat) : ByteArray := ⟨(p.map UInt8.ofNat).toArray⟩

theorem ba_loop (s : ByteArray) : ∀ n i r, s.size - i = n → ByteArray.toList.loop s i r = r.reverse ++ s.data.toList.drop i := by
  intro n
  induction n with
  | zero =>
    intro i r h
    rw [ByteArray.toList.loop]
    have h1 : s.size = s.data.toList.length := (Array.length_toList).symm
    rw [if_neg (by omega), List.drop_eq_nil_of_le (by omega), List.append_nil]
  | succ n ih =>
    intro i r h
    rw [ByteArray.toList.loop]
    have h1 : s.size = s.data.toList.length := (Array.length_toList).symm
    have h2 : i < s.data.toList.length := by omega
    rw [if_pos (by omega), ih (i + 1) _ (by omega), List.drop_eq_getElem_cons h2]
    have h3 : s.get! i = s.data.toList[i] := by
      have h4 : i < s.data.size := by simpa using h2
      rw [Array.getElem_toList]
      exact getElem!_pos s.data i h4
    simp [h3]
theorem ba_toList (s : ByteArray) : s.toList = s.data.toList := by
  unfold ByteArray.toList
  rw [ba_loop s _ 0 [] rfl]
  simp

theorem strOf_inj {p q : List Nat} (hp : ∀ x ∈ p, x < 256) (hq : ∀ x ∈ q, x < 256) (h : strOf p = strOf q) : p = q := by
  have h1 : p.map UInt8.ofNat = q.map UInt8.ofNat := by
    have := congrArg (fun b => b.data.toList) h
    simpa [strOf] using this
  have h2 := congrArg (List.map UInt8.toNat) h1
  simp only [List.map_map] at h2
  have e : ∀ l : List Nat, (∀ x ∈ l, x < 256) → l.map (UInt8.toNat ∘ UInt8.ofNat) = l := by
    intro l hl
    conv => rhs; rw [← List.map_id l]
    apply List.map_congr_left
    intro x hx
    have := hl x hx
    simp [UInt8.toNat_ofNat]; omega
  rw [e p hp, e q hq] at h2
  exact h2

theorem conv_any (v : Value) (p : List Nat) (w : World) (h : Rd w v p) (hu5 : Tryd.prog.underlying 5 = some (.int .u8)) (hu9 : Tryd.prog.underlying 9 = some .string) :
    (convert 22 9 v).run Tryd.prog w = .ok (.string (strOf p)) w := by
  obtain ⟨ao, len, cap, rfl, rfl, h2, h3, h4, h5, h6⟩ := h
  have hl : p.length = (p.map UInt8.ofNat).length := by simp
  cases ao with
  | none =>
    have hz := h4 rfl
    have hp0 : p = [] := List.eq_nil_of_length_eq_zero (by omega)
    subst hp0
    rw [run_convert_bytes_string w 22 9 5 none _ cap Tryd.underlying22 hu5 hu9]
    simp [Conv.bytesToString, strOf]
    rfl
  | some a =>
    rw [hl]
    refine run_convert_bytes_back w 22 9 5 a cap (p.map UInt8.ofNat) Tryd.underlying22 hu5 hu9 (fun j hj => ?_)
    simp at hj
    obtain ⟨b, off, he, hc⟩ := h6 (by omega)
    cases he
    have := hc j hj
    rw [Addr.add_mid, this]
    have hb := h5 (p[j]) (List.getElem_mem hj)
    simp [u8, List.getD_eq_getElem?_getD, List.getElem?_eq_getElem hj, UInt8.toNat_ofNat]
    omega

end Go.Proofs.YtjafmnemobcipaaDoor
namespace Go.Proofs.YtjafmnemobcipaaDoor
open Go.RowKit Go.BigFrame
set_option linter.unusedVariables false
set_option linter.unusedSimpArgs false

theorem RdK.cells {w : World} {ao : Option Addr} {len cap : Nat} {ps : List (List Nat × List Nat)} (h : RdK w (.slice ao len cap) ps) : ps.length = len ∧ len ≤ cap ∧ cap ≤ 9223372036854775807 ∧
    ∀ i, i < len → ∃ b off u v, ao = some ⟨b, off, none⟩ ∧ w.cell? ⟨b, off + i * 2, none⟩ = some u ∧ w.cell? ⟨b, off + i * 2 + 1, none⟩ = some v ∧ Rd w u (ps.getD i ([], [])).1 ∧ Rd w v (ps.getD i ([], [])).2 := by
  obtain ⟨ao', len', cap', vs, us, he, h1, h2, h3, h4, h5⟩ := h
  cases he
  refine ⟨h1, h2, h3, fun i hi => ?_⟩
  obtain ⟨b, off, rfl, hc⟩ := h5 (by omega)
  exact ⟨b, off, _, _, rfl, (hc i hi).1, (hc i hi).2, (h4 i hi).1, (h4 i hi).2⟩
theorem valH_skip {key : List Nat} : ∀ (ps : List (List Nat × List Nat)) (i : Nat), i ≤ ps.length → (∀ j, j < i → (ps.getD j ([], [])).1 ≠ key) → valH key ps = valH key (ps.drop i)
  | ps, 0, _, _ => by simp
  | [], i + 1, h, _ => by simp at h
  | p :: r, i + 1, h, hn => by
    have h0 := hn 0 (by omega)
    simp only [List.getD_cons_zero] at h0
    rw [valH, if_neg h0, List.drop_succ_cons]
    exact valH_skip r i (by simpa using h) (fun j hj => by have := hn (j + 1) (by omega); simpa using this)

set_option maxRecDepth 100000 in
set_option maxHeartbeats 2000000 in
theorem bequal_any (u v : Value) (p q : List Nat) (w : World) (hu : Rd w u p) (hv : Rd w v q) :
    Calls Tryd.prog 36 #[u, v] w fun e w' => e = .returned (.bool (decide (p = q))) ∧ w' = w := by
  have hu5 : Tryd.prog.underlying 5 = some (.int .u8) := by kernel_rfl
  have hu9 : Tryd.prog.underlying 9 = some .string := by kernel_rfl
  have c1 := conv_any u p w hu hu5 hu9
  have c2 := conv_any v q w hv hu5 hu9
  have hd : ((strOf p).toList == (strOf q).toList) = decide (p = q) := by
    rw [ba_toList, ba_toList]
    by_cases h : p = q
    · subst h; simp
    · have h2 : ¬ (strOf p).data.toList = (strOf q).data.toList := fun e => h (strOf_inj hu.byte hv.byte (by
        have e2 := congrArg List.toArray e
        simp only [Array.toArray_toList] at e2
        cases hp : strOf p; cases hq : strOf q
        rw [hp, hq] at e2
        simp only at e2
        rw [e2]))
      rw [decide_eq_false h]
      exact beq_eq_false_iff_ne.2 h2
  have Hd := hide hd
  generalize strOf p = s1 at *
  generalize strOf q = s2 at *
  clear hu hv hu5 hu9 hd
  go_enter Tryd.func36, Tryd.ntmps36
  go_wp2
  go_ret
  exact ⟨by rw [unhide Hd]; rfl, rfl⟩

set_option maxRecDepth 100000 in
set_option maxHeartbeats 1000000 in
theorem bclone_any (v : Value) (p : List Nat) (w : World) (h : Rd w v p) :
    Calls Tryd.prog 37 #[v] w fun e w' => (∃ v', e = .returned v' ∧ Rd w' v' p ∧ ∀ x ∈ blk v', w.heap.size ≤ x) ∧ Kept [] w w' := by
  have H := hide h
  obtain ⟨a1, n1, c1, rfl, hn1, hc1, ⟨hc2, hc3⟩, hc4, hc5, hc6⟩ := id h
  subst hn1
  clear h hc6 hc5
  cases a1 with
  | none =>
    have h0 : p.length = 0 := by have := hc4 rfl; omega
    have hp : p = [] := List.eq_nil_of_length_eq_zero h0
    clear hc4
    subst hp
    simp only [List.length_nil]
    have hq : ∀ W : World, (binOp .eql 22 (.slice none 0 c1) (.slice none 0 0)).run Tryd.prog W = .ok (.bool true) W := by
      intro W
      simp only [binOp]
      simp [run_equal_slice_nil W 22 5 none 0 c1 Tryd.underlying22]
    go_enter Tryd.func37, Tryd.ntmps37
    go_wp2
    go_ret
    exact ⟨⟨_, rfl, Rd.nil _, by simp [blk]⟩, Kept.refl _ _⟩
  | some ad =>
    clear hc4
    have HO := hide (World.ownsRow_made (base := w.heap.size) (e := 5) (size := 1) w #[] 0 (Nat.le_refl _) (by unfold maxLen; omega) (by simp))
    have hq : ∀ W : World, (binOp .eql 22 (.slice (some ad) p.length c1) (.slice none 0 0)).run Tryd.prog W = .ok (.bool false) W := by
      intro W
      simp only [binOp]
      simp [run_equal_slice_nil W 22 5 (some ad) p.length c1 Tryd.underlying22]
    go_enter Tryd.func37, Tryd.ntmps37
    go_wp2_with (at_builtin; refine wpList_appendAll rfl (.tmp 5) (.tmp 6) rfl rfl _ w.heap.size (.slice (some ⟨w.heap.size, 0, none⟩) 0 0) [] p (some ad) p.length c1 (unhide HO) ((unhide H).old ((Kept.refl [] w).alloc _) (by simp)) (by simp; omega) (by simp) rfl rfl ?_; intro ao1 cap1 w1 HO1 HG1 HA1; simp only [List.nil_append, List.length_nil, Nat.zero_add] at HO1 HA1; have HK1 := hide (((Kept.refl [] w).alloc _).grown (unhide HG1) (by intro k hk; right; simp [Value.ownBlock] at hk; omega)); clear HG1)
    go_ret
    refine ⟨⟨_, rfl, rd_owns (unhide HO1) (unhide H).byte hc3, ?_⟩, unhide HK1⟩
    intro x hx
    cases ao1 with
    | none => simp [blk] at hx
    | some a => simp [blk] at hx; subst hx; exact ((unhide HO1).lt a.block rfl).1

set_option maxRecDepth 100000 in
set_option maxHeartbeats 1000000 in
theorem valueOf_any (kv pv : Value) (key : List Nat) (ps : List (List Nat × List Nat)) (w : World) (hk : Rd w kv key) (hp : RdK w pv ps) :
    Calls Tryd.prog 17 #[kv, pv] w fun e w' => (∃ v', e = .returned (.tuple #[v', .bool (valH key ps).isSome]) ∧ Rd w' v' ((valH key ps).getD []) ∧ ∀ x ∈ blk v', w.heap.size ≤ x) ∧ Kept [] w w' := by
  have HKY := hide hk
  obtain ⟨ao, n, c, _, _, rfl, _⟩ := id hp
  obtain ⟨h1, h2, h3, h4⟩ := hp.cells
  have H4 := hide h4
  clear h4 hp hk
  subst h1
  go_enter Tryd.func17, Tryd.ntmps17
  go_wp2_with fail
  go_loopw [10] (fun t10 wr => ∃ (i : Nat), i ≤ ps.length ∧ t10 = .int .i64 i ∧ Hid (∀ j, j < i → (ps.getD j ([], [])).1 ≠ key) ∧ Hid (Kept [] w wr)) (fun t _ => ps.length - (intOf t).toNat)
  case atStart => exact ⟨0, Nat.zero_le _, rfl, hide (by intro j hj; omega), hide (Kept.refl _ _)⟩
  case round =>
    obtain ⟨i, hi, rfl, HA, HK⟩ := hrel
    by_cases hlt : i < ps.length
    · have hlt' : (i : Int) < ps.length := by omega
      obtain ⟨b, o, x, y, rfl, c1, c2, r1, r2⟩ := unhide H4 i hlt
      have q1 := (unhide HK).cell c1 (by simp)
      have q2 := (unhide HK).cell c2 (by simp)
      have HX := hide (r1.old (unhide HK) (by simp))
      have HY := hide (r2.old (unhide HK) (by simp))
      have HS := hide (valH_skip (key := key) ps i hi (unhide HA))
      rw [List.drop_eq_getElem_cons hlt] at HS
      have hget : ps.getD i ([], []) = ps[i] := by rw [List.getD_eq_getElem?_getD, List.getElem?_eq_getElem hlt]; rfl
      have HI := hide hget
      rw [hget] at HX HY
      clear c1 c2 r1 r2 hget
      generalize hpi : ps[i] = pi at HX HY HS HI
      clear hpi
      obtain ⟨pk, pw⟩ := pi
      simp only at HX HY
      obtain ⟨a8, m8, c8, rfl, hm8, _⟩ := id (unhide HX)
      obtain ⟨a9, m9, c9, rfl, hm9, _⟩ := id (unhide HY)
      subst hm8
      subst hm9
      have HKa := hide ((Kept.refl [] wr).alloc (.cells #[.slice a8 pk.length c8, .slice a9 pw.length c9] 64))
      have HCW := hide (heap_alloc_new wr (.cells #[.slice a8 pk.length c8, .slice a9 pw.length c9] 64))
      go_wp2_with fail
      refine Calls.mono (bequal_any _ _ pk key _ ((unhide HX).old (unhide HKa) (by simp)) ((unhide HKY).old ((unhide HK).trans (unhide HKa) (by simp)) (by simp))) ?_
      rintro e w1 ⟨rfl, rfl⟩
      have c0 := cell_of_row _ wr.heap.size 1 _ _ _ (unhide HCW)
      by_cases hE : pk = key
      · rw [decide_eq_true hE]
        have HV := hide (by rw [unhide HS, valH, if_pos hE] : valH key ps = some pw)
        clear hE q1 q2
        go_wp2_with fail
        refine Calls.mono (bclone_any _ pw _ ((unhide HY).old (unhide HKa) (by simp))) ?_
        rintro e w2 ⟨⟨v', rfl, hv', hb'⟩, k2⟩
        have HB2 := hide (fun x hx => Nat.le_trans ((unhide HK).trans (unhide HKa) (by simp)).size (hb' x hx) : ∀ x ∈ blk v', w.heap.size ≤ x)
        clear hb'
        have HK2 := hide (((unhide HK).trans (unhide HKa) (by simp)).trans k2 (by simp))
        have HV2 := hide hv'
        clear k2 hv' c0
        go_wp2
        go_ret2
        exact ⟨⟨_, by rw [unhide HV]; rfl, by rw [unhide HV]; exact unhide HV2, unhide HB2⟩, unhide HK2⟩
      · rw [decide_eq_false hE]
        have HA2 := hide (fun j (hj : j < i + 1) => by
          rcases Nat.lt_or_ge j i with h9 | h9
          · exact unhide HA j h9
          · obtain rfl : j = i := by omega
            rw [unhide HI]; exact hE : ∀ j, j < i + 1 → (ps.getD j ([], [])).1 ≠ key)
        clear hE q1 q2 c0
        go_wp2
        refine ⟨⟨i + 1, hlt, by go_num, HA2, hide ((unhide HK).trans (unhide HKa) (by simp))⟩, ?_⟩
        simp [intOf]; omega
    · have hi' : i = ps.length := by omega
      subst hi'
      have HV := hide (by rw [valH_skip (key := key) ps ps.length (Nat.le_refl _) (unhide HA), List.drop_length]; rfl : valH key ps = none)
      go_wp2
      go_ret2
      exact ⟨⟨_, by rw [unhide HV]; rfl, by rw [unhide HV]; exact Rd.nil _, by simp [blk]⟩, unhide HK⟩
end Go.Proofs.YtjafmnemobcipaaDoor
namespace Go.Proofs.YtjafmnemobcipaaDoor
open Go.RowKit Go.BigFrame
set_option linter.unusedVariables false
set_option linter.unusedSimpArgs false

theorem run_bytesOf {P : Program} {w : World} {v : Value} {a : List Nat} (h : Rd w v a) : ∃ r : ByteArray, (Extern.Bytes.bytesOf v).run P w = .ok r w ∧ r.data.toList = a.map b8 := by
  obtain ⟨ao, n, c, rfl, h1, h2, h3, h4, _, h5⟩ := h
  subst h1
  cases ao with
  | none =>
    have h0 : a = [] := List.eq_nil_of_length_eq_zero (by have := h4 rfl; omega)
    subst h0
    exact ⟨.empty, rfl, rfl⟩
  | some p =>
    rcases Nat.eq_zero_or_pos a.length with h0 | h0
    · have h0' : a = [] := List.eq_nil_of_length_eq_zero h0
      subst h0'
      exact ⟨.empty, rfl, rfl⟩
    · obtain ⟨b, off, he, hc⟩ := h5 h0
      cases he
      obtain ⟨r, hr, e⟩ := run_loadBytes (P := P) (w := w) (g := b) a off .empty hc
      exact ⟨r, hr, by rw [e]; simp⟩
theorem run_cmpR {P : Program} {w : World} {u v : Value} {a b : List Nat} (ha : Rd w u a) (hb : Rd w v b) : (Extern.BytealgCompare.compare #[u, v]).run P w = .ok (.int .i64 (ordL a b)) w := by
  obtain ⟨r, hr, he⟩ := run_bytesOf (P := P) ha
  obtain ⟨r', hr', he'⟩ := run_bytesOf (P := P) hb
  change Sem.run P (do pure (goInt (Extern.BytealgCompare.cmp (← Extern.Bytes.bytesOf u) (← Extern.Bytes.bytesOf v)))) w = _
  simp only [Sem.run_bind, hr, hr', Sem.run_pure, Result.andThen]
  rw [Lib.cmp_eq, he, he']
  show Result.ok (goInt (Lib.compareBytes (a.map b8) (b.map b8))) w = _
  rw [cmp_ord a b ha.byte hb.byte]
  rfl

set_option maxRecDepth 100000 in
set_option maxHeartbeats 1000000 in
theorem bcmp_any (u v : Value) (a b : List Nat) (w : World) (ha : Rd w u a) (hb : Rd w v b) :
    Calls Tryd.prog 63 #[u, v] w fun e w' => e = .returned (.int .i64 (ordL a b)) ∧ w' = w := by
  obtain ⟨ao, n, c, rfl, h1, _, _, h4, h5, _⟩ := id ha
  obtain ⟨bo, m, d, rfl, g1, _, _, g4, g5, _⟩ := id hb
  have HC := hide (fun (P : Program) => run_cmpR (P := P) ha hb)
  clear ha hb h4 g4 h5 g5
  go_enter Tryd.func63, Tryd.ntmps63
  go_wp2
  rw [run_callFunc_extern Tryd.func78 (by kernel_rfl) (by kernel_rfl) (by kernel_rfl) (e := Extern.BytealgCompare.compare) (by kernel_rfl), unhide HC]
  simp only [Result.andThen]
  rw [Oper.upon_value]
  go_wp2
  go_ret
  exact ⟨rfl, rfl⟩

theorem risB_down {ps : List (List Nat × List Nat)} {i : Nat} : ∀ (n : Nat), i ≤ n → risB ps i = false → risB ps n = false
  | 0, h, hi => by obtain rfl : i = 0 := by omega
                   exact hi
  | n + 1, h, hi => by
    rcases Nat.lt_or_ge n i with h9 | h9
    · obtain rfl : i = n + 1 := by omega
      exact hi
    · rw [risB, risB_down n h9 hi]; rfl
theorem ordL_bnd : ∀ a b : List Nat, -1 ≤ ordL a b ∧ ordL a b ≤ 1
  | [], [] => by simp [ordL]
  | [], _ :: _ => by simp [ordL]
  | _ :: _, [] => by simp [ordL]
  | x :: a, y :: b => by
    have := ordL_bnd a b
    simp only [ordL]
    split
    · omega
    · split
      · omega
      · exact this

set_option maxRecDepth 100000 in
set_option maxHeartbeats 1000000 in
theorem rising_any (pv : Value) (ps : List (List Nat × List Nat)) (w : World) (hp : RdK w pv ps) :
    Calls Tryd.prog 34 #[pv] w fun e w' => e = .returned (.bool (risB ps ps.length)) ∧ Kept [] w w' := by
  obtain ⟨ao, n, c, _, _, rfl, _⟩ := id hp
  obtain ⟨h1, h2, h3, h4⟩ := hp.cells
  have H4 := hide h4
  clear h4 hp
  subst h1
  go_enter Tryd.func34, Tryd.ntmps34
  go_wp2_with fail
  go_loopw [7] (fun t7 wr => ∃ (i : Nat), i ≤ ps.length ∧ t7 = .int .i64 i ∧ Hid (risB ps i = true) ∧ Hid (Kept [] w wr)) (fun t _ => ps.length - (intOf t).toNat)
  case atStart => exact ⟨0, Nat.zero_le _, rfl, hide rfl, hide (Kept.refl _ _)⟩
  case round =>
    obtain ⟨i, hi, rfl, HA, HK⟩ := hrel
    by_cases hlt : i < ps.length
    · have hlt' : (i : Int) < ps.length := by omega
      obtain ⟨b, o, x, y, rfl, c1, c2, r1, r2⟩ := unhide H4 i hlt
      have HPR := hide (fun (h : 0 < i) => unhide H4 (i - 1) (by omega))
      have q1 := (unhide HK).cell c1 (by simp)
      have q2 := (unhide HK).cell c2 (by simp)
      have HX := hide (r1.old (unhide HK) (by simp))
      have HY := hide (r2.old (unhide HK) (by simp))
      have HST := hide (by rw [risB, unhide HA, Bool.true_and] : risB ps (i + 1) = (decide ((ps.getD i ([], [])).1.length ≤ 64) && (decide ((ps.getD i ([], [])).2.length ≤ 256) && (decide (i = 0) || decide (ordL (ps.getD (i - 1) ([], [])).1 (ps.getD i ([], [])).1 < 0)))))
      clear c1 c2 r1 r2
      generalize ps.getD i ([], []) = pi at HX HY HST
      obtain ⟨pk, pw⟩ := pi
      simp only at HX HY HST
      have HBAD := hide (fun (h : risB ps (i + 1) = false) => risB_down (ps := ps) ps.length hlt h)
      obtain ⟨a8, m8, c8, rfl, hm8, _⟩ := id (unhide HX)
      obtain ⟨a9, m9, c9, rfl, hm9, _⟩ := id (unhide HY)
      subst hm8
      subst hm9
      have HKa := hide ((Kept.refl [] wr).alloc (.cells #[.slice a8 pk.length c8, .slice a9 pw.length c9] 64))
      have HKb := hide ((unhide HK).trans (unhide HKa) (by simp))
      by_cases hk : 64 < pk.length
      · have hk' : (64 : Int) < pk.length := by omega
        have HB := hide (unhide HBAD (by rw [unhide HST, decide_eq_false (by omega)]; rfl))
        go_wp2
        go_ret
        exact ⟨by rw [unhide HB]; rfl, unhide HKb⟩
      · have hk' : ¬ (64 : Int) < pk.length := by omega
        by_cases hv : 256 < pw.length
        · have hv' : (256 : Int) < pw.length := by omega
          have HB := hide (unhide HBAD (by rw [unhide HST, decide_eq_true (by omega), decide_eq_false (by omega)]; rfl))
          go_wp2
          go_ret
          exact ⟨by rw [unhide HB]; rfl, unhide HKb⟩
        · have hv' : ¬ (256 : Int) < pw.length := by omega
          have HST2 := hide (by rw [unhide HST, decide_eq_true (by omega), decide_eq_true (by omega)]; rfl : risB ps (i + 1) = (decide (i = 0) || decide (ordL (ps.getD (i - 1) ([], [])).1 pk < 0)))
          clear HST
          by_cases h0 : i = 0
          · have h0' : ¬ (0 : Int) < i := by omega
            have hi0 : ¬ 0 < i := by omega
            have HN := hide (by rw [unhide HST2, decide_eq_true h0]; rfl : risB ps (i + 1) = true)
            clear HST2 HBAD HPR h0
            go_wp2_with fail
            refine wp_quiet_tail 11 (by kernel_rfl) (by kernel_rfl) ?_
            simp only [List.take_succ_cons, List.take_zero, List.drop_succ_cons, List.drop_zero]
            repeat (go_big_quiet_step (fail))
            refine wpQuiet_nil ?_
            rintro _ ⟨n1, rfl⟩
            go_wp2
            refine ⟨⟨i + 1, hlt, by go_num, HN, hide ((unhide HKb).drewN n1)⟩, ?_⟩
            simp [intOf]; omega
          · have h0' : (0 : Int) < i := by omega
            have hi0 : 0 < i := by omega
            obtain ⟨_, _, x', y', he, c1, c2, r1, r2⟩ := unhide HPR (by omega)
            cases he
            have HST3 := hide (by rw [unhide HST2, decide_eq_false h0]; rfl : risB ps (i + 1) = decide (ordL (ps.getD (i - 1) ([], [])).1 pk < 0))
            have q3 := ((unhide HKb)).cell c1 (by simp)
            have HX' := hide (r1.old (unhide HKb) (by simp))
            clear HST2 HPR c1 c2 r1 r2
            generalize (ps.getD (i - 1) ([], [])).1 = pp at HST3 HX'
            have hsub : ((i : Int) - 1) = ((i - 1 : Nat) : Int) := by omega
            obtain ⟨k, hk9⟩ : ∃ k, i - 1 = k := ⟨_, rfl⟩
            rw [hk9] at q3 hsub
            have hkl : (k : Int) < ps.length := by omega
            obtain ⟨a7, m7, c7, rfl, hm7, _⟩ := id (unhide HX')
            subst hm7
            have HI := hide (by omega : ¬ i = 0)
            clear h0 hk9
            have c8' := cell_of_row _ wr.heap.size 0 _ _ _ (heap_alloc_new wr (.cells #[.slice a8 pk.length c8, .slice a9 pw.length c9] 64))
            go_wp2_with fail
            refine wp_quiet_tail 11 (by kernel_rfl) (by kernel_rfl) ?_
            simp only [List.take_succ_cons, List.take_zero, List.drop_succ_cons, List.drop_zero]
            repeat (go_big_quiet_step (fail))
            refine wpQuiet_nil ?_
            rintro _ ⟨n1, rfl⟩
            go_wp2_with fail
            refine Calls.mono (bcmp_any _ _ pp pk _ ((unhide HX').old ((Kept.refl [] _).drewN n1) (by simp)) ((unhide HX).old ((unhide HKa).drewN n1) (by simp))) ?_
            rintro e w1 ⟨rfl, rfl⟩
            have hob := ordL_bnd pp pk
            generalize ordL pp pk = C at HST3 hob ⊢
            clear q1 q2 q3 hsub hkl c8'
            by_cases hC : C < 0
            · have hC' : ¬ (0 : Int) ≤ C := by omega
              have HN := hide (by rw [unhide HST3, decide_eq_true hC] : risB ps (i + 1) = true)
              clear hC
              go_wp2
              refine ⟨⟨i + 1, hlt, by go_num, HN, hide ((unhide HKb).drewN n1)⟩, ?_⟩
              simp [intOf]; omega
            · have hC' : (0 : Int) ≤ C := by omega
              have HB := hide (unhide HBAD (by rw [unhide HST3, decide_eq_false hC]))
              clear hC
              go_wp2
              go_ret
              exact ⟨by rw [unhide HB]; rfl, (unhide HKb).drewN n1⟩
    · have hi' : i = ps.length := by omega
      subst hi'
      go_wp2
      go_ret
      exact ⟨by rw [unhide HA]; rfl, unhide HK⟩
end Go.Proofs.YtjafmnemobcipaaDoor
namespace Go.Proofs.YtjafmnemobcipaaDoor
open Go.RowKit Go.BigFrame
set_option linter.unusedVariables false
set_option linter.unusedSimpArgs false

theorem RdK.tail {w : World} {b off n c : Nat} {ps : List (List Nat × List Nat)} (h : RdK w (.slice (some ⟨b, off, none⟩) n c) ps) (hp : 0 < n) : RdK w (.slice (some ⟨b, off + 2, none⟩) (n - 1) (c - 1)) (ps.drop 1) := by
  obtain ⟨_, _, _, vs, us, he, h1, h2, h3, h4, h5⟩ := h
  cases he
  refine ⟨_, n - 1, c - 1, vs.drop 1, us.drop 1, rfl, by simp [h1], by omega, by omega, fun i hi => ?_, fun _ => ⟨b, off + 2, rfl, fun i hi => ?_⟩⟩
  · have := h4 (i + 1) (by omega)
    simpa [List.getD_eq_getElem?_getD, Nat.add_comm] using this
  · obtain ⟨b', o', e, hc⟩ := h5 hp
    cases e
    have := hc (i + 1) (by omega)
    rw [show off + (i + 1) * 2 = off + 2 + i * 2 by omega] at this
    simpa [List.getD_eq_getElem?_getD, Nat.add_comm] using this

set_option maxRecDepth 100000 in
set_option maxHeartbeats 1000000 in
theorem hang_any (z : Int) (ks : List Nat) (n : Nat) (pv : Value) (ps : List (List Nat × List Nat)) (w : World) (hz : -9223372036854775808 ≤ z ∧ z ≤ 9223372036854775807) (hks : Dg ks) (hn : n ≤ 1000000000000) (hp : RdK w pv ps) (hp0 : 0 < ps.length) (hT : Tabs w) (hl : ∀ p ∈ ps, p.1.length ≤ 64) :
    Calls Tryd.prog 35 #[.int .i64 z, .agg (brow ks), .int .i64 n, pv] w fun e w' => e = .returned (.bool (hanB z ks n ps)) ∧ Kept [] w w' := by
  obtain ⟨ao, m, c, _, _, rfl, _⟩ := id hp
  obtain ⟨h1, h2, h3, h4⟩ := hp.cells
  obtain ⟨b, o, x, y, rfl, c1, c2, r1, r2⟩ := h4 0 (by omega)
  have HTL : Hid (RdK w (if c = 1 then .slice (some ⟨b, o, none⟩) (m - 1) 0 else .slice (some ⟨b, o + 2, none⟩) (m - 1) (c - 1)) (ps.drop 1)) := hide (by
    by_cases hc9 : c = 1
    · rw [if_pos hc9]
      have h9 : ps.drop 1 = [] := by rw [List.drop_eq_nil_iff]; omega
      rw [h9, show m - 1 = 0 by omega]
      exact ⟨_, 0, 0, [], [], rfl, rfl, Nat.le_refl _, by omega, fun i hi => by omega, fun hh => by omega⟩
    · rw [if_neg hc9]; exact hp.tail (by omega))
  have HX := hide r1
  have HT := hide hT
  have HKS := hide hks
  have hkl := hks.1
  have HL0 := hide (hl _ (by rw [List.getD_eq_getElem?_getD, List.getElem?_eq_getElem hp0]; exact List.getElem_mem hp0) : (ps.getD 0 ([], [])).1.length ≤ 64)
  have HLT := hide (fun p (h : p ∈ ps.drop 1) => hl p (List.mem_of_mem_drop h))
  have HF := hide (by unfold hanB; rfl : hanB z ks n ps = ((ps.drop 1).all (fun p => decide (keyS z p.1 = keyS z (ps.getD 0 ([], [])).1)) && decide (n ≤ comC z (keyS z (ps.getD 0 ([], [])).1) ks)))
  have HK0 := hide ((Kept.refl [] w).alloc (.cells (brow ks) 29))
  have HG0 := hide (heap_alloc_new w (.cells (brow ks) 29))
  have q1 := (unhide HK0).cell c1 (by simp)
  rw [Nat.zero_mul, Nat.add_zero] at q1
  clear h4 hp c1 c2 r1 r2 hT hks hl
  subst h1
  have hp0' : (0 : Int) < ps.length := by omega
  have hp1 : (1 : Int) ≤ ps.length := by omega
  have hp2 : 1 ≤ ps.length := by omega
  have hc1 : (1 : Int) ≤ c := by omega
  generalize (ps.getD 0 ([], [])).1 = k0 at HX HL0 HF
  obtain ⟨a8, m8, c8, rfl, hm8, _⟩ := id (unhide HX)
  subst hm8
  go_enter Tryd.func35, Tryd.ntmps35
  go_wp2_with fail
  refine Calls.mono (key_all z _ k0 _ hz ((unhide HX).old (unhide HK0) (by simp)) (by have := unhide HL0; omega) ((unhide HT).k (unhide HK0))) ?_
  rintro e w1 ⟨rfl, k1⟩
  have HD0 := hide (keyS_dg z k0)
  have HDE : keyS z k0 = sumD z (2 :: k0) := rfl
  rw [← HDE]
  clear HDE
  generalize keyS z k0 = D0 at HD0 HF ⊢
  have hd0 := (unhide HD0).1
  have kN := (k1.alloc (.cells (zb 32) 29)).setRow (g := w1.heap.size) (Or.inr k1.size) (brow D0)
  have HN1 := hide (setRow_heap (w1.alloc (.cells (zb 32) 29)) w1.heap.size (zb 32) (brow D0) 29 (0, 0) (heap_alloc_new _ _))
  have HK1 := hide ((unhide HK0).trans kN (by simp))
  have HG1 := hide (kN.heap (unhide HG0) (by simp))
  have HS0 := hide (Tryd.szD hd0)
  have HSK := hide (Tryd.szD hkl)
  clear kN k1 q1 HK0 HG0
  generalize ps.drop 1 = tl at HTL HLT HF
  obtain hc9 | hc9 : c = 1 ∨ ¬ c = 1 := by omega
  case' inl =>
    rw [if_pos hc9] at HTL
    subst hc9
    go_wp2_with (rw [zb32]; refine wpList_store_row rfl 29 _ _ rfl w1.heap.size (brow D0) rfl rfl _ (zb 32) (heap_alloc_new _ _) (unhide HS0) (by rw [zb_size, brow_size, hd0]) (brow_one _) ?_)
    have t0 : tl.length = 0 := by have := (unhide HTL).cells.1; omega
    have htb : tl.length ≤ 9223372036854775806 := by omega
    have H4 : Hid (∀ i, i < tl.length → ∃ b' off u v, (some (⟨b, o, none⟩ : Addr)) = some ⟨b', off, none⟩ ∧ w.cell? ⟨b', off + i * 2, none⟩ = some u ∧ w.cell? ⟨b', off + i * 2 + 1, none⟩ = some v ∧ Rd w u (tl.getD i ([], [])).1 ∧ Rd w v (tl.getD i ([], [])).2) := hide (fun i hi => by omega)
    clear HTL hc1 hp1 hp2 hp0' hp0
  case' inr =>
    rw [if_neg hc9] at HTL
    go_wp2_with (rw [zb32]; refine wpList_store_row rfl 29 _ _ rfl w1.heap.size (brow D0) rfl rfl _ (zb 32) (heap_alloc_new _ _) (unhide HS0) (by rw [zb_size, brow_size, hd0]) (brow_one _) ?_)
    obtain ⟨t1, t2, t3, t4⟩ := (unhide HTL).cells
    have H4 := hide t4
    have htb : tl.length ≤ 9223372036854775806 := by omega
    clear t4 HTL hc1 hp1 hp2 hp0' hp0 t2 t3 hc9
    generalize ps.length - 1 = N9 at t1 H4 ⊢
    subst t1
  all_goals
    obtain ⟨W, hW⟩ : ∃ W, (w1.alloc (.cells (zb 32) 29)).setRow w1.heap.size (brow D0) = W := ⟨_, rfl⟩
    rw [hW] at HN1 HK1 HG1 ⊢
    clear hW
    go_loopw [29] (fun t29 wr => ∃ (i : Nat), i ≤ tl.length ∧ t29 = .int .i64 i ∧ Hid ((tl.take i).all (fun p => decide (keyS z p.1 = D0)) = true) ∧ Hid (Kept [] w wr) ∧ Hid (wr.heap[w1.heap.size]? = some (.cells (brow D0) 29 (0, 0))) ∧ Hid (wr.heap[w.heap.size]? = some (.cells (brow ks) 29 (0, 0)))) (fun t _ => tl.length - (intOf t).toNat)
    case atStart => exact ⟨0, Nat.zero_le _, rfl, hide (by simp), HK1, HN1, HG1⟩
    case round =>
      obtain ⟨i, hi, rfl, HA, HK, HN, HG⟩ := hrel
      by_cases hlt : i < tl.length
      · first
        | (exfalso; omega)
        | (have hlt' : (i : Int) < tl.length := by omega
           obtain ⟨b', o', x', y', he, c1, c2, r1, r2⟩ := unhide H4 i hlt
           cases he
           have q1 := (unhide HK).cell c1 (by simp)
           have q2 := (unhide HK).cell c2 (by simp)
           have HX1 := hide (r1.old (unhide HK) (by simp))
           have HY1 := hide (r2.old (unhide HK) (by simp))
           have HLI := hide (unhide HLT (tl.getD i ([], [])) (by rw [List.getD_eq_getElem?_getD, List.getElem?_eq_getElem hlt]; exact List.getElem_mem hlt))
           have HNX := hide (by rw [List.take_succ_eq_append_getElem hlt, List.all_append, unhide HA, List.getD_eq_getElem?_getD, List.getElem?_eq_getElem hlt]; simp : (tl.take (i + 1)).all (fun p => decide (keyS z p.1 = D0)) = decide (keyS z (tl.getD i ([], [])).1 = D0))
           have HM := hide (fun (h : ¬ keyS z (tl.getD i ([], [])).1 = D0) => by
             have h9 : tl.all (fun p => decide (keyS z p.1 = D0)) = false := by
               rw [List.all_eq_false]
               exact ⟨tl.getD i ([], []), by rw [List.getD_eq_getElem?_getD, List.getElem?_eq_getElem hlt]; exact List.getElem_mem hlt, by rw [decide_eq_false h]; decide⟩
             rw [unhide HF, h9]; rfl : ¬ keyS z (tl.getD i ([], [])).1 = D0 → hanB z ks n ps = false)
           clear c1 c2 r1 r2
           generalize tl.getD i ([], []) = pi at HX1 HY1 HLI HNX HM
           obtain ⟨pk, pw⟩ := pi
           simp only at HX1 HY1 HLI HNX HM
           obtain ⟨a7, m7, c7, rfl, hm7, _⟩ := id (unhide HX1)
           obtain ⟨a9, m9, c9, rfl, hm9, _⟩ := id (unhide HY1)
           subst hm7
           subst hm9
           have HKa := hide ((Kept.refl [] wr).alloc (.cells #[.slice a7 pk.length c7, .slice a9 pw.length c9] 64))
           go_wp2_with fail
           refine Calls.mono (key_all z _ pk _ hz ((unhide HX1).old (unhide HKa) (by simp)) (by have := unhide HLI; omega) ((unhide HT).k ((unhide HK).trans (unhide HKa) (by simp)))) ?_
           rintro e w2 ⟨rfl, k2⟩
           have HDK := hide (keyS_dg z pk)
           have HDE : keyS z pk = sumD z (2 :: pk) := rfl
           rw [← HDE]
           clear HDE
           generalize keyS z pk = DK at HDK HNX HM ⊢
           have hdk := (unhide HDK).1
           have kN := (((unhide HKa).trans k2 (by simp)).alloc (.cells (zb 32) 29)).setRow (g := w2.heap.size) (Or.inr ((unhide HKa).trans k2 (by simp)).size) (brow DK)
           have HN2 := hide (setRow_heap (w2.alloc (.cells (zb 32) 29)) w2.heap.size (zb 32) (brow DK) 29 (0, 0) (heap_alloc_new _ _))
           have HK2 := hide ((unhide HK).trans kN (by simp))
           have HD2 := hide (kN.heap (unhide HN) (by simp))
           have HG2 := hide (kN.heap (unhide HG) (by simp))
           have HSD := hide (Tryd.szD hdk)
           clear kN k2 q1 q2
           have heq := fun W => dig_eq W DK D0 hdk hd0
           by_cases hE : DK = D0
           · rw [decide_eq_true hE] at heq HNX
             clear hE
             go_wp2_with (first
               | (rw [zb32]; refine wpList_store_row rfl 29 _ _ rfl w2.heap.size (brow DK) rfl rfl _ (zb 32) (heap_alloc_new _ _) (unhide HSD) (by rw [zb_size, brow_size, hdk]) (brow_one _) ?_)
               | (refine wpList_load_row rfl 29 _ rfl w2.heap.size rfl _ (brow DK) (0, 0) _ (unhide HN2) Tryd.underlying29 rfl (unhide HSD) ?_)
               | (refine wpList_load_row rfl 29 _ rfl w1.heap.size rfl _ (brow D0) (0, 0) _ (unhide HD2) Tryd.underlying29 rfl (unhide HS0) ?_))
             refine ⟨⟨i + 1, hlt, by go_num, HNX, HK2, HD2, HG2⟩, ?_⟩
             simp [intOf]; omega
           · have HB := hide (unhide HM hE)
             rw [decide_eq_false hE] at heq
             clear hE
             go_wp2_with (first
               | (rw [zb32]; refine wpList_store_row rfl 29 _ _ rfl w2.heap.size (brow DK) rfl rfl _ (zb 32) (heap_alloc_new _ _) (unhide HSD) (by rw [zb_size, brow_size, hdk]) (brow_one _) ?_)
               | (refine wpList_load_row rfl 29 _ rfl w2.heap.size rfl _ (brow DK) (0, 0) _ (unhide HN2) Tryd.underlying29 rfl (unhide HSD) ?_)
               | (refine wpList_load_row rfl 29 _ rfl w1.heap.size rfl _ (brow D0) (0, 0) _ (unhide HD2) Tryd.underlying29 rfl (unhide HS0) ?_))
             go_ret
             exact ⟨by rw [unhide HB]; rfl, unhide HK2⟩)
      · have hi' : i = tl.length := by omega
        have HF2 := hide (by have h9 := unhide HA; rw [hi', List.take_length] at h9; rw [unhide HF, h9, Bool.true_and] : hanB z ks n ps = decide (n ≤ comC z D0 ks))
        have hlt' : ¬ (i : Int) < tl.length := by omega
        clear hi'
        go_wp2_with (first
          | (refine wpList_load_row rfl 29 _ rfl w1.heap.size rfl _ (brow D0) (0, 0) _ (unhide HN) Tryd.underlying29 rfl (unhide HS0) ?_)
          | (refine wpList_load_row rfl 29 _ rfl w.heap.size rfl _ (brow ks) (0, 0) _ (unhide HG) Tryd.underlying29 rfl (unhide HSK) ?_))
        refine Calls.mono (common_any z D0 ks _ hz (unhide HD0) (unhide HKS)) ?_
        rintro e w3 ⟨rfl, k3⟩
        have HK3 := hide ((unhide HK).trans k3 (by simp))
        clear k3
        generalize comC z D0 ks = CC at HF2 ⊢
        by_cases hcc : n ≤ CC
        · have hcc' : (n : Int) ≤ CC := by omega
          go_wp2
          go_ret
          exact ⟨by rw [unhide HF2, decide_eq_true hcc]; simp [hcc], unhide HK3⟩
        · have hcc' : ¬ (n : Int) ≤ CC := by omega
          go_wp2
          go_ret
          exact ⟨by rw [unhide HF2, decide_eq_false hcc]; simp [hcc], unhide HK3⟩
end Go.Proofs.YtjafmnemobcipaaDoor
namespace Go.Proofs.YtjafmnemobcipaaDoor
open Go.RowKit Go.BigFrame
set_option linter.unusedVariables false
set_option linter.unusedSimpArgs false

set_option maxRecDepth 100000 in
set_option maxHeartbeats 1000000 in
theorem hdigit_any (z : Int) (d : List Nat) (i : Int) (w : World) (hz : -9223372036854775808 ≤ z ∧ z ≤ 9223372036854775807) (hi : -9223372036854775808 ≤ i ∧ i ≤ 9223372036854775807) (hd : Dg d) :
    Calls Tryd.prog 32 #[.int .i64 z, .agg (brow d), .int .i64 i] w fun e w' => e = .returned (.int .i64 (atC z d i : Int)) ∧ Kept [] w w' := by
  have hdl := hd.1
  have HGA := hide (heap_alloc_new w (.cells (brow d) 29))
  have HK0 := hide ((Kept.refl [] w).alloc (.cells (brow d) 29))
  have HSZ := hide (Tryd.szD hdl)
  go_enter Tryd.func32, Tryd.ntmps32
  go_wp2_with (refine wpList_load_row rfl 29 _ rfl w.heap.size rfl _ (brow d) (0, 0) _ (unhide HGA) Tryd.underlying29 rfl (unhide HSZ) ?_)
  refine Calls.mono (at_any z d i _ hz hi hd) ?_
  rintro e w1 ⟨rfl, k1⟩
  have HK1 := hide ((unhide HK0).trans k1 (by simp))
  clear k1
  go_wp2
  go_ret
  exact ⟨rfl, unhide HK1⟩

set_option maxRecDepth 100000 in
set_option maxHeartbeats 1000000 in
theorem fits_any (b : Nat) (ao : Option Addr) (n cap : Nat) (c : Int) (t : Bool) (w : World) (hb : b < 65536) (hn : n ≤ 1000000000000) (hc : -9223372036854775808 ≤ c ∧ c ≤ 9223372036854775807) :
    Calls Tryd.prog 31 #[.agg #[.int .u16 b, .slice ao n cap], .int .i64 c, .bool t] w fun e w' => e = .returned (.bool (fitS b n c t)) ∧ Kept [] w w' := by
  have HK0 := hide ((Kept.refl [] w).alloc (.cells #[.int .u16 b, .slice ao n cap] 43))
  have HG0 := hide (heap_alloc_new w (.cells #[.int .u16 b, .slice ao n cap] 43))
  go_enter Tryd.func31, Tryd.ntmps31
  by_cases h0 : b = 0
  · have hF : fitS b n c t = false := by unfold fitS; rw [h0]; simp
    rw [hF]
    clear hF HG0
    subst h0
    cases t with
    | true =>
      go_wp2_with fail
      go_ret
      exact ⟨rfl, unhide HK0⟩
    | false =>
      go_wp2_with fail
      go_ret
      exact ⟨rfl, unhide HK0⟩
  · have h0' : ¬ (b : Int) = 0 := by omega
    have HF := hide (by unfold fitS; rw [decide_eq_true h0, Bool.true_and] : fitS b n c t = ((hasB b c == t) && decide (cnt b 16 = n + (if t then 1 else 0))))
    generalize fitS b n c t = F at HF ⊢
    have H0 := hide h0
    clear h0
    cases t with
    | true =>
      go_wp2_with fail
      refine Calls.mono (has_any b c _ hb hc) ?_
      rintro e w1 ⟨rfl, k1⟩
      have HK1 := hide ((unhide HK0).trans k1 (by simp))
      have c0 : w1.cell? ⟨w.heap.size, 0, none⟩ = some (.int .u16 b) := cell_of_row w1 w.heap.size _ _ _ _ (k1.heap (unhide HG0) (by simp))
      clear k1
      generalize hasB b c = G at HF ⊢
      cases G with
      | true =>
        go_wp2_with fail
        refine Calls.mono (count_any b _ hb) ?_
        rintro e w2 ⟨rfl, k2⟩
        have HK2 := hide ((unhide HK1).trans k2 (by simp))
        clear k2 c0
        generalize cnt b 16 = C at HF ⊢
        by_cases hC : C = n + 1
        · have hC' : (C : Int) = (n : Int) + 1 := by omega
          go_wp2
          go_ret
          exact ⟨by have h0 := unhide H0; rw [unhide HF, hC]; simp [h0], unhide HK2⟩
        · have hC' : ¬ (C : Int) = (n : Int) + 1 := by omega
          go_wp2
          go_ret
          exact ⟨by have h0 := unhide H0; rw [unhide HF]; simp [hC, h0, hC'], unhide HK2⟩
      | false =>
        go_wp2
        go_ret
        exact ⟨by have h0 := unhide H0; rw [unhide HF]; simp [h0], unhide HK1⟩
    | false =>
      go_wp2_with fail
      refine Calls.mono (has_any b c _ hb hc) ?_
      rintro e w1 ⟨rfl, k1⟩
      have HK1 := hide ((unhide HK0).trans k1 (by simp))
      have c0 : w1.cell? ⟨w.heap.size, 0, none⟩ = some (.int .u16 b) := cell_of_row w1 w.heap.size _ _ _ _ (k1.heap (unhide HG0) (by simp))
      clear k1
      generalize hasB b c = G at HF ⊢
      cases G with
      | false =>
        go_wp2_with fail
        refine Calls.mono (count_any b _ hb) ?_
        rintro e w2 ⟨rfl, k2⟩
        have HK2 := hide ((unhide HK1).trans k2 (by simp))
        clear k2 c0
        generalize cnt b 16 = C at HF ⊢
        by_cases hC : C = n
        · have hC' : (C : Int) = (n : Int) := by omega
          go_wp2
          go_ret
          exact ⟨by have h0 := unhide H0; rw [unhide HF, hC]; simp [h0], unhide HK2⟩
        · have hC' : ¬ (C : Int) = (n : Int) := by omega
          go_wp2
          go_ret
          exact ⟨by have h0 := unhide H0; rw [unhide HF]; simp [hC, h0, hC'], unhide HK2⟩
      | true =>
        go_wp2
        go_ret
        exact ⟨by have h0 := unhide H0; rw [unhide HF]; simp [h0], unhide HK1⟩
end Go.Proofs.YtjafmnemobcipaaDoor
namespace Go.Proofs.YtjafmnemobcipaaDoor
open Go.RowKit Go.BigFrame
set_option linter.unusedVariables false
set_option linter.unusedSimpArgs false

theorem RdS.cells {w : World} {ao : Option Addr} {len cap : Nat} {ss : List (Nat × List (List Nat))} (h : RdS w (.slice ao len cap) ss) : ss.length = len ∧ len ≤ cap ∧ cap ≤ 9223372036854775807 ∧
    ∀ i, i < len → ∃ b off v, ao = some ⟨b, off, none⟩ ∧ w.cell? ⟨b, off + i * 2, none⟩ = some (.int .u16 ((ss.getD i (0, [])).1 : Int)) ∧ w.cell? ⟨b, off + i * 2 + 1, none⟩ = some v ∧ (ss.getD i (0, [])).1 < 65536 ∧ RdD w v (ss.getD i (0, [])).2 := by
  obtain ⟨ao', len', cap', vs, he, h1, h2, h3, h4, h5⟩ := h
  cases he
  refine ⟨h1, h2, h3, fun i hi => ?_⟩
  obtain ⟨b, off, rfl, hc⟩ := h5 (by omega)
  exact ⟨b, off, _, rfl, (hc i hi).1, (hc i hi).2, (h4 i hi).1, (h4 i hi).2⟩
theorem fitsB_down {z : Int} {ks : List Nat} {ss : List (Nat × List (List Nat))} {m i : Nat} : ∀ (n : Nat), i ≤ n → fitsB z ks ss m i = false → fitsB z ks ss m n = false
  | 0, h, hi => by obtain rfl : i = 0 := by omega
                   exact hi
  | n + 1, h, hi => by
    rcases Nat.lt_or_ge n i with h9 | h9
    · obtain rfl : i = n + 1 := by omega
      exact hi
    · rw [fitsB, fitsB_down n h9 hi]; rfl
theorem risB_len {ps : List (List Nat × List Nat)} : ∀ (n : Nat), risB ps n = true → ∀ i, i < n → (ps.getD i ([], [])).1.length ≤ 64
  | 0, _, i, hi => by omega
  | n + 1, h, i, hi => by
    rw [risB] at h
    simp only [Bool.and_eq_true, decide_eq_true_eq] at h
    rcases Nat.lt_or_ge i n with h9 | h9
    · exact risB_len n h.1 i h9
    · obtain rfl : i = n := by omega
      exact h.2.1

theorem atC_lt (z : Int) (d : List Nat) (i : Int) (h : Dg d) : atC z d i < 16 := by
  unfold atC
  split
  · exact dgt_lt h.2 _
  · omega

set_option maxRecDepth 100000 in
set_option maxHeartbeats 2000000 in
theorem proves_any (z : Int) (ks : List Nat) (sv pv : Value) (ss : List (Nat × List (List Nat))) (ps : List (List Nat × List Nat)) (w : World) (hw : widthB z = true) (hks : Dg ks) (hs : RdS w sv ss) (hp : RdK w pv ps) (hT : Tabs w) (hsl : ss.length ≤ 1000000000000) (hpl : ps.length ≤ 1000000000000) (hkl : ∀ s ∈ ss, s.2.length ≤ 1000000000000) :
    Calls Tryd.prog 16 #[.int .i64 z, .agg (brow ks), .agg #[sv, pv]] w fun e w' => e = .returned (.bool (provB z ks ss ps)) ∧ Kept [] w w' := by
  obtain ⟨sa, sn, sc, vs0, rfl, _⟩ := id hs
  obtain ⟨pa, pn, pc, _, _, rfl, _⟩ := id hp
  obtain ⟨h1, h2, h3, h4⟩ := hs.cells
  obtain ⟨g1, g2, g3, g4⟩ := hp.cells
  have H4 := hide h4
  have HP := hide hp
  have HT := hide hT
  have HKS := hide hks
  have HKL := hide hkl
  have hk32 := hks.1
  have HSK := hide (Tryd.szD hk32)
  have hz : 1 ≤ z ∧ z ≤ 32 := width_le hw
  clear h4 g4 hp hs hT hks hkl
  subst h1
  subst g1
  have HK0 := hide (((Kept.refl [] w).alloc (.cells (brow ks) 29)).alloc (.cells #[.slice sa ss.length sc, .slice pa ps.length pc] 26))
  have HG0 := hide (heap_alloc2_old w (.cells (brow ks) 29) (.cells #[.slice sa ss.length sc, .slice pa ps.length pc] 26))
  have HG1 := hide (heap_alloc2_new w (.cells (brow ks) 29) (.cells #[.slice sa ss.length sc, .slice pa ps.length pc] 26))
  go_enter Tryd.func16, Tryd.ntmps16
  obtain ⟨W, hW⟩ : ∃ W, (w.alloc (.cells (brow ks) 29)).alloc (.cells #[.slice sa ss.length sc, .slice pa ps.length pc] 26) = W := ⟨_, rfl⟩
  rw [hW] at HK0 HG0 HG1
  have c0 : W.cell? ⟨w.heap.size + 1, 0, none⟩ = some (.slice sa ss.length sc) := cell_of_row W (w.heap.size + 1) 0 _ _ _ (unhide HG1)
  have hm2 : IntKind.i64.wrap (2 * z) = 2 * z := by simp [IntKind.wrap, IntKind.signed, IntKind.bits]; omega
  have hw2 : RowKit.wrap64 (2 * z) = 2 * z := by unfold RowKit.wrap64; omega
  by_cases hlen : ss.length ≤ 2 * z.toNat
  · have hl' : ¬ (2 * z) < ss.length := by omega
    have HF := hide (by unfold provB; rw [decide_eq_true hlen, Bool.true_and] : provB z ks ss ps = (fitsB z ks ss ps.length ss.length &&
      (decide (ps.length = 0) || ((decide (ss.length = 0) || decide (cnt (ss.getD (ss.length - 1) (0, [])).1 16 ≠ 1)) && (risB ps ps.length && hanB z ks ss.length ps)))))
    clear hlen
    go_wp2_with fail
    clear hW c0 hm2 hw2
    go_loopw [24] (fun t24 wr => ∃ (i : Nat), i ≤ ss.length ∧ t24 = .int .i64 i ∧ Hid (fitsB z ks ss ps.length i = true) ∧ Hid (Kept [] W wr)) (fun t _ => ss.length - (intOf t).toNat)
    case atStart => exact ⟨0, Nat.zero_le _, rfl, hide rfl, hide (Kept.refl _ _)⟩
    case round =>
      obtain ⟨i, hi, rfl, HA, HK⟩ := hrel
      by_cases hlt : i < ss.length
      · have hlt' : (i : Int) < ss.length := by omega
        obtain ⟨b, o, v, rfl, c1, c2, hsb, r2⟩ := unhide H4 i hlt
        have HKw := hide ((unhide HK0).trans (unhide HK) (by simp))
        have q1 := (unhide HKw).cell c1 (by simp)
        have q2 := (unhide HKw).cell c2 (by simp)
        have HX := hide (r2.old (unhide HKw))
        have hsk := unhide HKL (ss.getD i (0, [])) (by rw [List.getD_eq_getElem?_getD, List.getElem?_eq_getElem hlt]; exact List.getElem_mem hlt)
        have HST := hide (by rw [fitsB, unhide HA, Bool.true_and] : fitsB z ks ss ps.length (i + 1) = fitS (ss.getD i (0, [])).1 (ss.getD i (0, [])).2.length (atC z ks i) (decide (i + 1 < ss.length) || decide (0 < ps.length)))
        have HBAD := hide (fun (h : fitsB z ks ss ps.length (i + 1) = false) => (by rw [unhide HF, fitsB_down ss.length hlt h]; rfl : provB z ks ss ps = false))
        have HAC := hide (by have h9 := atC_lt z ks i (unhide HKS); omega : -9223372036854775808 ≤ ((atC z ks i : Nat) : Int) ∧ ((atC z ks i : Nat) : Int) ≤ 9223372036854775807)
        clear c1 c2 r2
        generalize ss.getD i (0, []) = s at q1 HX HST hsb hsk
        obtain ⟨sb, sk⟩ := s
        simp only at q1 HX HST hsb hsk
        obtain ⟨a8, m8, c8, rfl, hm8, _⟩ := id (unhide HX)
        subst hm8
        have HKa := hide ((Kept.refl [] wr).alloc (.cells #[.int .u16 sb, .slice a8 sk.length c8] 43))
        have HNW := hide (heap_alloc_new wr (.cells #[.int .u16 sb, .slice a8 sk.length c8] 43))
        have HGK := hide ((unhide HKa).heap ((unhide HK).heap (unhide HG0) (by simp)) (by simp))
        have cp1 : (wr.alloc (.cells #[.int .u16 sb, .slice a8 sk.length c8] 43)).cell? ⟨w.heap.size + 1, 1, none⟩ = some (.slice pa ps.length pc) := cell_of_row _ (w.heap.size + 1) 1 _ _ _ ((unhide HKa).heap ((unhide HK).heap (unhide HG1) (by simp)) (by simp))
        have HDG := hide (fun w' (hw' : Kept [] (wr.alloc (.cells #[.int .u16 sb, .slice a8 sk.length c8] 43)) w') => (hdigit_any z ks i w' (by omega) (by omega) (unhide HKS)).mono (fun e w2 (h2 : _ ∧ _) => (⟨h2.1, hw'.trans h2.2 (by simp)⟩ : _ ∧ Kept [] (wr.alloc (.cells #[.int .u16 sb, .slice a8 sk.length c8] 43)) w2)))
        have hne : ∀ p : Prop, (∀ w', Kept [] (wr.alloc (.cells #[.int .u16 sb, .slice a8 sk.length c8] 43)) w' → p) = p := fun p => propext ⟨fun h => h _ (Kept.refl [] _), fun h _ _ => h⟩
        obtain hc | hc | hc : i + 1 < ss.length ∨ (¬ i + 1 < ss.length ∧ 0 < ps.length) ∨ (¬ i + 1 < ss.length ∧ ¬ 0 < ps.length) := by omega
        case' inl =>
          have hc' : (i : Int) < ss.length - 1 := by omega
          go_wp2_with fail
          have HV := hide (by rw [unhide HST, decide_eq_true hc, Bool.true_or] : fitsB z ks ss ps.length (i + 1) = fitS sb sk.length (atC z ks i : Nat) true)
          have HFT := hide (fun w' (hw' : Kept [] (wr.alloc (.cells #[.int .u16 sb, .slice a8 sk.length c8] 43)) w') => (fits_any sb a8 sk.length c8 (atC z ks i : Nat) true w' hsb hsk (unhide HAC)).mono (fun e w2 (h2 : _ ∧ _) => (⟨h2.1, hw'.trans h2.2 (by simp)⟩ : _ ∧ Kept [] (wr.alloc (.cells #[.int .u16 sb, .slice a8 sk.length c8] 43)) w2)))
          obtain ⟨F, hF⟩ : ∃ F, fitS sb sk.length (atC z ks i : Nat) true = F := ⟨_, rfl⟩
          rw [hF] at HV HFT
          clear hF
        case' inr.inl =>
          have hc' : ¬ (i : Int) < ss.length - 1 := by omega
          have hc2 : (0 : Int) < ps.length := by omega
          go_wp2_with fail
          have HV := hide (by rw [unhide HST, decide_eq_true hc.2, Bool.or_true] : fitsB z ks ss ps.length (i + 1) = fitS sb sk.length (atC z ks i : Nat) true)
          have HFT := hide (fun w' (hw' : Kept [] (wr.alloc (.cells #[.int .u16 sb, .slice a8 sk.length c8] 43)) w') => (fits_any sb a8 sk.length c8 (atC z ks i : Nat) true w' hsb hsk (unhide HAC)).mono (fun e w2 (h2 : _ ∧ _) => (⟨h2.1, hw'.trans h2.2 (by simp)⟩ : _ ∧ Kept [] (wr.alloc (.cells #[.int .u16 sb, .slice a8 sk.length c8] 43)) w2)))
          obtain ⟨F, hF⟩ : ∃ F, fitS sb sk.length (atC z ks i : Nat) true = F := ⟨_, rfl⟩
          rw [hF] at HV HFT
          clear hF
        case' inr.inr =>
          have hc' : ¬ (i : Int) < ss.length - 1 := by omega
          have hc2 : ¬ (0 : Int) < ps.length := by omega
          go_wp2_with fail
          have HV := hide (by rw [unhide HST, decide_eq_false hc.1, decide_eq_false hc.2, Bool.false_or] : fitsB z ks ss ps.length (i + 1) = fitS sb sk.length (atC z ks i : Nat) false)
          have HFT := hide (fun w' (hw' : Kept [] (wr.alloc (.cells #[.int .u16 sb, .slice a8 sk.length c8] 43)) w') => (fits_any sb a8 sk.length c8 (atC z ks i : Nat) false w' hsb hsk (unhide HAC)).mono (fun e w2 (h2 : _ ∧ _) => (⟨h2.1, hw'.trans h2.2 (by simp)⟩ : _ ∧ Kept [] (wr.alloc (.cells #[.int .u16 sb, .slice a8 sk.length c8] 43)) w2)))
          obtain ⟨F, hF⟩ : ∃ F, fitS sb sk.length (atC z ks i : Nat) false = F := ⟨_, rfl⟩
          rw [hF] at HV HFT
          clear hF
        all_goals
          clear hc hc' q1 q2 HST cp1
          refine wp_region_keep (by kernel_rfl) (by kernel_rfl) ?_
          refine wpQuiet_row rfl 43 (.tmp 9) rfl wr.heap.size rfl _ #[.int .u16 sb, .slice a8 sk.length c8] (0, 0) _ (fun w' hw' => hw'.heap (unhide HNW) (by simp)) Tryd.underlying43 rfl (by kernel_rfl) ?_
          simp only [Act.put, List.setIfInBounds_toArray, List.set_cons_succ, List.set_cons_zero]
          go_big_quiet_step (fail)
          refine wpQuiet_row rfl 29 (.tmp 4) rfl w.heap.size rfl _ (brow ks) (0, 0) _ (fun w' hw' => hw'.heap (unhide HGK) (by simp)) Tryd.underlying29 rfl (unhide HSK) ?_
          simp only [Act.put, List.setIfInBounds_toArray, List.set_cons_succ, List.set_cons_zero]
          go_big_quiet_step (fail)
          go_big_quiet_want
          go_big_quiet_op
          apply Exists.intro
          refine ⟨fun w' hw' => ?_, ?_⟩
          · exact unhide HDG w' hw'
          go_big_quiet_on
          go_big_quiet_step (fail)
          go_big_quiet_want
          go_big_quiet_op
          apply Exists.intro
          refine ⟨fun w' hw' => ?_, ?_⟩
          · exact unhide HFT w' hw'
          go_big_quiet_on
          cases F with
          | true =>
            repeat (go_big_quiet_step (fail))
            refine wpQuiet_nil ?_
            intro w5 hw5
            have HK5 := hide (((unhide HK).trans (unhide HKa) (by simp)).trans hw5 (by simp))
            clear hw5 hne
            go_wp2
            refine ⟨⟨i + 1, hlt, by go_num, HV, HK5⟩, ?_⟩
            simp [intOf]; omega
          | false =>
            have HB := hide (unhide HBAD (unhide HV))
            repeat (go_big_quiet_step (fail))
            refine wpQuiet_nil ?_
            intro w5 hw5
            have HK5 := hide (((unhide HK).trans (unhide HKa) (by simp)).trans hw5 (by simp))
            clear hw5 hne
            go_wp2
            go_ret
            exact ⟨by rw [unhide HB]; rfl, (unhide HK0).trans (unhide HK5) (by simp)⟩
      · have hi' : i = ss.length := by omega
        have hlt' : ¬ (i : Int) < ss.length := by omega
        have HF2 := hide (by rw [unhide HF, ← hi', unhide HA, Bool.true_and] : provB z ks ss ps = (decide (ps.length = 0) || ((decide (ss.length = 0) || decide (cnt (ss.getD (ss.length - 1) (0, [])).1 16 ≠ 1)) && (risB ps ps.length && hanB z ks ss.length ps))))
        have HKw := hide ((unhide HK0).trans (unhide HK) (by simp))
        have HGr := hide ((unhide HK).heap (unhide HG1) (by simp))
        have HGk := hide ((unhide HK).heap (unhide HG0) (by simp))
        have cp0 : wr.cell? ⟨w.heap.size + 1, 0, none⟩ = some (.slice sa ss.length sc) := cell_of_row _ (w.heap.size + 1) 0 _ _ _ (unhide HGr)
        have cp1 : wr.cell? ⟨w.heap.size + 1, 1, none⟩ = some (.slice pa ps.length pc) := cell_of_row _ (w.heap.size + 1) 1 _ _ _ (unhide HGr)
        clear hi' HA HF
        by_cases hp0 : ps.length = 0
        · have hp0' : (ps.length : Int) = 0 := by omega
          have HB := hide (by rw [unhide HF2, decide_eq_true hp0]; rfl : provB z ks ss ps = true)
          clear hp0
          go_wp2
          go_ret
          exact ⟨by rw [unhide HB]; rfl, unhide HKw⟩
        · have hp0' : ¬ (ps.length : Int) = 0 := by omega
          have HB := hide (by rw [unhide HF2, decide_eq_false hp0, Bool.false_or] : provB z ks ss ps = ((decide (ss.length = 0) || decide (cnt (ss.getD (ss.length - 1) (0, [])).1 16 ≠ 1)) && (risB ps ps.length && hanB z ks ss.length ps)))
          clear HF2
          obtain hs0 | hs0 : ss.length = 0 ∨ ¬ ss.length = 0 := by omega
          case' inl =>
            have hs0' : ¬ (0 : Int) ≤ (ss.length : Int) - 1 := by omega
            have HB2 := hide (by rw [unhide HB, decide_eq_true hs0, Bool.true_or, Bool.true_and] : provB z ks ss ps = (risB ps ps.length && hanB z ks ss.length ps))
            clear hs0 HB
            go_wp2_with fail
            obtain ⟨w5, hw5, HK5⟩ : ∃ w5, w5 = wr ∧ Hid (Kept [] wr w5) := ⟨wr, rfl, hide (Kept.refl _ _)⟩
            rw [← hw5]
            clear hw5
          case' inr =>
            have hs0' : (0 : Int) ≤ (ss.length : Int) - 1 := by omega
            obtain ⟨L, hL⟩ : ∃ L, ss.length - 1 = L := ⟨_, rfl⟩
            have hsub : (ss.length : Int) - 1 = (L : Int) := by omega
            have hLlt : L < ss.length := by omega
            have hLl : (L : Int) < ss.length := by omega
            obtain ⟨b, o, v, rfl, c1, c2, hsb, r2⟩ := unhide H4 L hLlt
            have q1 := (unhide HKw).cell c1 (by simp)
            have HB2 := hide (by rw [unhide HB, decide_eq_false hs0, Bool.false_or, hL] : provB z ks ss ps = (decide (cnt (ss.getD L (0, [])).1 16 ≠ 1) && (risB ps ps.length && hanB z ks ss.length ps)))
            clear c1 c2 r2 hL hs0 HB hLlt
            generalize (ss.getD L (0, [])).1 = sb at q1 hsb HB2
            go_wp2_with fail
            refine Calls.mono (count_any sb _ hsb) ?_
            rintro e w5 ⟨rfl, k5⟩
            have HK5 := hide k5
            clear k5 q1 hsub hLl
            generalize cnt sb 16 = C at HB2 ⊢
            have cp2 : w5.cell? ⟨w.heap.size + 1, 1, none⟩ = some (.slice pa ps.length pc) := (unhide HK5).cell cp1 (by simp)
            by_cases hC : C = 1
            · have hC' : (C : Int) = 1 := by omega
              have HB3 := hide (by rw [unhide HB2, decide_eq_false (by omega)]; rfl : provB z ks ss ps = false)
              clear hC
              go_wp2
              go_ret
              exact ⟨by rw [unhide HB3]; rfl, (unhide HKw).trans (unhide HK5) (by simp)⟩
            have hC' : ¬ (C : Int) = 1 := by omega
            have HB3 := hide (by rw [unhide HB2, decide_eq_true hC, Bool.true_and] : provB z ks ss ps = (risB ps ps.length && hanB z ks ss.length ps))
            clear hC HB2
            have HB2 := HB3
            clear HB3 cp0 cp1
            go_wp2_with fail
          all_goals
            have HKx := hide ((unhide HKw).trans (unhide HK5) (by simp))
            refine Calls.mono (rising_any _ ps _ ((unhide HP).old (unhide HKx))) ?_
            rintro e w6 ⟨rfl, k6⟩
            have HK6 := hide ((unhide HK5).trans k6 (by simp))
            have HK6w := hide ((unhide HKx).trans k6 (by simp))
            have HG6 := hide ((unhide HK6).heap (unhide HGr) (by simp))
            have HGk6 := hide ((unhide HK6).heap (unhide HGk) (by simp))
            have d0 := cell_of_row _ (w.heap.size + 1) 0 _ _ _ (unhide HG6)
            have d1 := cell_of_row _ (w.heap.size + 1) 1 _ _ _ (unhide HG6)
            clear k6 HK5 HKx
            cases hR : risB ps ps.length with
            | false =>
              have HB3 := hide (by rw [unhide HB2, hR]; rfl : provB z ks ss ps = false)
              clear hR
              go_wp2
              go_ret
              exact ⟨by rw [unhide HB3]; rfl, unhide HK6w⟩
            | true =>
              have HB3 := hide (by rw [unhide HB2, hR, Bool.true_and] : provB z ks ss ps = hanB z ks ss.length ps)
              have HLN := hide (fun p (h : p ∈ ps) => by
                obtain ⟨j, hj, rfl⟩ := List.getElem_of_mem h
                have h9 := risB_len ps.length hR j hj
                rw [List.getD_eq_getElem?_getD, List.getElem?_eq_getElem hj] at h9
                exact h9 : ∀ p ∈ ps, p.1.length ≤ 64)
              clear hR
              go_wp2_with (refine wpList_load_rowG rfl 29 _ rfl w.heap.size rfl _ (brow ks) (0, 0) _ (unhide HGk6) Tryd.underlying29 rfl (unhide HSK) ?_)
              refine Calls.mono (hang_any z ks ss.length _ ps _ (by omega) (unhide HKS) hsl ((unhide HP).old (unhide HK6w)) (by omega) ((unhide HT).k (unhide HK6w)) (unhide HLN)) ?_
              rintro e w7 ⟨rfl, k7⟩
              have HK7 := hide ((unhide HK6w).trans k7 (by simp))
              clear k7 d0 d1
              cases hH : hanB z ks ss.length ps with
              | true =>
                have HB4 := hide (by rw [unhide HB3, hH] : provB z ks ss ps = true)
                clear hH
                go_wp2
                go_ret
                exact ⟨by rw [unhide HB4]; rfl, unhide HK7⟩
              | false =>
                have HB4 := hide (by rw [unhide HB3, hH] : provB z ks ss ps = false)
                clear hH
                go_wp2
                go_ret
                exact ⟨by rw [unhide HB4]; rfl, unhide HK7⟩
  · have hl' : (2 * z) < ss.length := by omega
    have HF := hide (by unfold provB; rw [decide_eq_false hlen]; rfl : provB z ks ss ps = false)
    clear hlen
    go_wp2
    go_ret
    exact ⟨by rw [unhide HF]; rfl, unhide HK0⟩
end Go.Proofs.YtjafmnemobcipaaDoor
/-
  A drawn return of one row and a value: reads, a store, an assign. By genrs.py. No program.
-/
namespace Go.Proofs.YtjafmnemobcipaaDoor
open Go
set_option linter.unusedVariables false
set_option linter.unusedSimpArgs false
section
variable {P : Program} {Q : Exit → Act → World → Prop}
theorem wp_rs3 {id : Nat} {o0 o1 o2 : Oper} {a : Act} {w : World} (S : World → Prop) (hm : P.follows .mixedOrders = true) (hs : Region.noSelect #[o0, o1, o2] = true)
    (f0 : Region.free .any #[o0, o1, o2] #[false, false, false] 0 = true) (r0 : (Region.ready .any #[o0, o1, o2] #[false, false, false]).contains 0 = true)
    (r1 : Region.ready .any #[o0, o1, o2] #[true, false, false] = [1]) (f2 : Region.free .any #[o0, o1, o2] #[true, true, false] 2 = true) (r2 : (Region.ready .any #[o0, o1, o2] #[true, true, false]).contains 2 = true) (rr : Region.ready .any #[o0, o1, o2] #[true, true, true] = []) (g1 : o1.guard = none) (hS : S w.drew)
    (v0 v2 : Value) (A0 A2 : Act)
    (p0 : a.put o0.dst v0 = A0) (p2 : A0.put o2.dst v2 = A2) 
    (hy0 : YieldsIf P #[o0, o1, o2] S o0 v0 a)
    (hy2 : YieldsIf P #[o0, o1, o2] S o2 v2 A0)
    (W1 : World) (s1 : ∀ K : Act → World → Prop, K A0 W1 → o1.wp P A0 w.drew K (NoPanic Q)) (k1 : S W1) (h : Q .normal A2 W1) :
    (Code.region id #[o0, o1, o2] true).wp P Q a w := by
  subst p0 p2
  refine wp_region_noPanic ?_
  refine wp_region_held_drew (S := S) hm hS (fun hH => ?_)
  show wpAnyH P .any #[o0, o1, o2] (NoPanic Q) S 3 #[false, false, false] a w.drew
  refine wpAnyH_take (i := 0) (oi := o0) rfl hs f0 r0 (fun _ _ _ h => h) hy0 hS ?_
  refine wpAnyH_ready (rs := [1]) r1 (by simp) (AllReadyH.cons (o := o1) rfl (fun K hK => ?_) AllReadyH.nil)
  have wa : ∀ y, Region.wanted o1 y = true := fun y => by unfold Region.wanted; rw [g1]
  rw [if_pos (wa _)]
  refine s1 K (hK.out _ _ k1 (fun _ => ?_))
  refine wpAnyH_take (i := 2) (oi := o2) rfl hs f2 r2 (fun _ _ _ h => h) hy2 k1 ?_
  exact ⟨rr, NoPanic.normal h⟩
theorem wp_rs5 {id : Nat} {o0 o1 o2 o3 o4 : Oper} {a : Act} {w : World} (S : World → Prop) (hm : P.follows .mixedOrders = true) (hs : Region.noSelect #[o0, o1, o2, o3, o4] = true)
    (f0 : Region.free .any #[o0, o1, o2, o3, o4] #[false, false, false, false, false] 0 = true) (r0 : (Region.ready .any #[o0, o1, o2, o3, o4] #[false, false, false, false, false]).contains 0 = true)
    (f1 : Region.free .any #[o0, o1, o2, o3, o4] #[true, false, false, false, false] 1 = true) (r1 : (Region.ready .any #[o0, o1, o2, o3, o4] #[true, false, false, false, false]).contains 1 = true)
    (f2 : Region.free .any #[o0, o1, o2, o3, o4] #[true, true, false, false, false] 2 = true) (r2 : (Region.ready .any #[o0, o1, o2, o3, o4] #[true, true, false, false, false]).contains 2 = true)
    (r3 : Region.ready .any #[o0, o1, o2, o3, o4] #[true, true, true, false, false] = [3]) (f4 : Region.free .any #[o0, o1, o2, o3, o4] #[true, true, true, true, false] 4 = true) (r4 : (Region.ready .any #[o0, o1, o2, o3, o4] #[true, true, true, true, false]).contains 4 = true) (rr : Region.ready .any #[o0, o1, o2, o3, o4] #[true, true, true, true, true] = []) (g3 : o3.guard = none) (hS : S w.drew)
    (v0 v1 v2 v4 : Value) (A0 A1 A2 A4 : Act)
    (p0 : a.put o0.dst v0 = A0) (p1 : A0.put o1.dst v1 = A1) (p2 : A1.put o2.dst v2 = A2) (p4 : A2.put o4.dst v4 = A4) 
    (hy0 : YieldsIf P #[o0, o1, o2, o3, o4] S o0 v0 a)
    (hy1 : YieldsIf P #[o0, o1, o2, o3, o4] S o1 v1 A0)
    (hy2 : YieldsIf P #[o0, o1, o2, o3, o4] S o2 v2 A1)
    (hy4 : YieldsIf P #[o0, o1, o2, o3, o4] S o4 v4 A2)
    (W1 : World) (s3 : ∀ K : Act → World → Prop, K A2 W1 → o3.wp P A2 w.drew K (NoPanic Q)) (k3 : S W1) (h : Q .normal A4 W1) :
    (Code.region id #[o0, o1, o2, o3, o4] true).wp P Q a w := by
  subst p0 p1 p2 p4
  refine wp_region_noPanic ?_
  refine wp_region_held_drew (S := S) hm hS (fun hH => ?_)
  show wpAnyH P .any #[o0, o1, o2, o3, o4] (NoPanic Q) S 5 #[false, false, false, false, false] a w.drew
  refine wpAnyH_take (i := 0) (oi := o0) rfl hs f0 r0 (fun _ _ _ h => h) hy0 hS ?_
  refine wpAnyH_take (i := 1) (oi := o1) rfl hs f1 r1 (fun _ _ _ h => h) hy1 hS ?_
  refine wpAnyH_take (i := 2) (oi := o2) rfl hs f2 r2 (fun _ _ _ h => h) hy2 hS ?_
  refine wpAnyH_ready (rs := [3]) r3 (by simp) (AllReadyH.cons (o := o3) rfl (fun K hK => ?_) AllReadyH.nil)
  have wa : ∀ y, Region.wanted o3 y = true := fun y => by unfold Region.wanted; rw [g3]
  rw [if_pos (wa _)]
  refine s3 K (hK.out _ _ k3 (fun _ => ?_))
  refine wpAnyH_take (i := 4) (oi := o4) rfl hs f4 r4 (fun _ _ _ h => h) hy4 k3 ?_
  exact ⟨rr, NoPanic.normal h⟩
theorem wp_rs7 {id : Nat} {o0 o1 o2 o3 o4 o5 o6 : Oper} {a : Act} {w : World} (S : World → Prop) (hm : P.follows .mixedOrders = true) (hs : Region.noSelect #[o0, o1, o2, o3, o4, o5, o6] = true)
    (f0 : Region.free .any #[o0, o1, o2, o3, o4, o5, o6] #[false, false, false, false, false, false, false] 0 = true) (r0 : (Region.ready .any #[o0, o1, o2, o3, o4, o5, o6] #[false, false, false, false, false, false, false]).contains 0 = true)
    (f1 : Region.free .any #[o0, o1, o2, o3, o4, o5, o6] #[true, false, false, false, false, false, false] 1 = true) (r1 : (Region.ready .any #[o0, o1, o2, o3, o4, o5, o6] #[true, false, false, false, false, false, false]).contains 1 = true)
    (f2 : Region.free .any #[o0, o1, o2, o3, o4, o5, o6] #[true, true, false, false, false, false, false] 2 = true) (r2 : (Region.ready .any #[o0, o1, o2, o3, o4, o5, o6] #[true, true, false, false, false, false, false]).contains 2 = true)
    (f3 : Region.free .any #[o0, o1, o2, o3, o4, o5, o6] #[true, true, true, false, false, false, false] 3 = true) (r3 : (Region.ready .any #[o0, o1, o2, o3, o4, o5, o6] #[true, true, true, false, false, false, false]).contains 3 = true)
    (f4 : Region.free .any #[o0, o1, o2, o3, o4, o5, o6] #[true, true, true, true, false, false, false] 4 = true) (r4 : (Region.ready .any #[o0, o1, o2, o3, o4, o5, o6] #[true, true, true, true, false, false, false]).contains 4 = true)
    (r5 : Region.ready .any #[o0, o1, o2, o3, o4, o5, o6] #[true, true, true, true, true, false, false] = [5]) (f6 : Region.free .any #[o0, o1, o2, o3, o4, o5, o6] #[true, true, true, true, true, true, false] 6 = true) (r6 : (Region.ready .any #[o0, o1, o2, o3, o4, o5, o6] #[true, true, true, true, true, true, false]).contains 6 = true) (rr : Region.ready .any #[o0, o1, o2, o3, o4, o5, o6] #[true, true, true, true, true, true, true] = []) (g5 : o5.guard = none) (hS : S w.drew)
    (v0 v1 v2 v3 v4 v6 : Value) (A0 A1 A2 A3 A4 A6 : Act)
    (p0 : a.put o0.dst v0 = A0) (p1 : A0.put o1.dst v1 = A1) (p2 : A1.put o2.dst v2 = A2) (p3 : A2.put o3.dst v3 = A3) (p4 : A3.put o4.dst v4 = A4) (p6 : A4.put o6.dst v6 = A6) 
    (hy0 : YieldsIf P #[o0, o1, o2, o3, o4, o5, o6] S o0 v0 a)
    (hy1 : YieldsIf P #[o0, o1, o2, o3, o4, o5, o6] S o1 v1 A0)
    (hy2 : YieldsIf P #[o0, o1, o2, o3, o4, o5, o6] S o2 v2 A1)
    (hy3 : YieldsIf P #[o0, o1, o2, o3, o4, o5, o6] S o3 v3 A2)
    (hy4 : YieldsIf P #[o0, o1, o2, o3, o4, o5, o6] S o4 v4 A3)
    (hy6 : YieldsIf P #[o0, o1, o2, o3, o4, o5, o6] S o6 v6 A4)
    (W1 : World) (s5 : ∀ K : Act → World → Prop, K A4 W1 → o5.wp P A4 w.drew K (NoPanic Q)) (k5 : S W1) (h : Q .normal A6 W1) :
    (Code.region id #[o0, o1, o2, o3, o4, o5, o6] true).wp P Q a w := by
  subst p0 p1 p2 p3 p4 p6
  refine wp_region_noPanic ?_
  refine wp_region_held_drew (S := S) hm hS (fun hH => ?_)
  show wpAnyH P .any #[o0, o1, o2, o3, o4, o5, o6] (NoPanic Q) S 7 #[false, false, false, false, false, false, false] a w.drew
  refine wpAnyH_take (i := 0) (oi := o0) rfl hs f0 r0 (fun _ _ _ h => h) hy0 hS ?_
  refine wpAnyH_take (i := 1) (oi := o1) rfl hs f1 r1 (fun _ _ _ h => h) hy1 hS ?_
  refine wpAnyH_take (i := 2) (oi := o2) rfl hs f2 r2 (fun _ _ _ h => h) hy2 hS ?_
  refine wpAnyH_take (i := 3) (oi := o3) rfl hs f3 r3 (fun _ _ _ h => h) hy3 hS ?_
  refine wpAnyH_take (i := 4) (oi := o4) rfl hs f4 r4 (fun _ _ _ h => h) hy4 hS ?_
  refine wpAnyH_ready (rs := [5]) r5 (by simp) (AllReadyH.cons (o := o5) rfl (fun K hK => ?_) AllReadyH.nil)
  have wa : ∀ y, Region.wanted o5 y = true := fun y => by unfold Region.wanted; rw [g5]
  rw [if_pos (wa _)]
  refine s5 K (hK.out _ _ k5 (fun _ => ?_))
  refine wpAnyH_take (i := 6) (oi := o6) rfl hs f6 r6 (fun _ _ _ h => h) hy6 k5 ?_
  exact ⟨rr, NoPanic.normal h⟩
end
end Go.Proofs.YtjafmnemobcipaaDoor
/-
  A drawn 'd, e := f(..)' whose new row may be laid ahead of the call. By gencall.py. No program.
-/
namespace Go.Proofs.YtjafmnemobcipaaDoor
open Go Go.RowKit Go.BigFrame
set_option linter.unusedVariables false
set_option linter.unusedSimpArgs false
section
variable {P : Program} {Q : Exit → Act → World → Prop}
theorem wp_call20 {id : Nat} {o0 o1 o2 o3 o4 o5 o6 o7 o8 o9 o10 o11 o12 o13 o14 o15 o16 o17 o18 o19 : Oper} {a : Act} {w : World} (hm : P.follows .mixedOrders = true) (hs : Region.noSelect #[o0, o1, o2, o3, o4, o5, o6, o7, o8, o9, o10, o11, o12, o13, o14, o15, o16, o17, o18, o19] = true)
    (f0 : Region.free .any #[o0, o1, o2, o3, o4, o5, o6, o7, o8, o9, o10, o11, o12, o13, o14, o15, o16, o17, o18, o19] #[false, false, false, false, false, false, false, false, false, false, false, false, false, false, false, false, false, false, false, false] 0 = true) (r0 : (Region.ready .any #[o0, o1, o2, o3, o4, o5, o6, o7, o8, o9, o10, o11, o12, o13, o14, o15, o16, o17, o18, o19] #[false, false, false, false, false, false, false, false, false, false, false, false, false, false, false, false, false, false, false, false]).contains 0 = true)
    (f1 : Region.free .any #[o0, o1, o2, o3, o4, o5, o6, o7, o8, o9, o10, o11, o12, o13, o14, o15, o16, o17, o18, o19] #[true, false, false, false, false, false, false, false, false, false, false, false, false, false, false, false, false, false, false, false] 1 = true) (r1 : (Region.ready .any #[o0, o1, o2, o3, o4, o5, o6, o7, o8, o9, o10, o11, o12, o13, o14, o15, o16, o17, o18, o19] #[true, false, false, false, false, false, false, false, false, false, false, false, false, false, false, false, false, false, false, false]).contains 1 = true)
    (f2 : Region.free .any #[o0, o1, o2, o3, o4, o5, o6, o7, o8, o9, o10, o11, o12, o13, o14, o15, o16, o17, o18, o19] #[true, true, false, false, false, false, false, false, false, false, false, false, false, false, false, false, false, false, false, false] 2 = true) (r2 : (Region.ready .any #[o0, o1, o2, o3, o4, o5, o6, o7, o8, o9, o10, o11, o12, o13, o14, o15, o16, o17, o18, o19] #[true, true, false, false, false, false, false, false, false, false, false, false, false, false, false, false, false, false, false, false]).contains 2 = true)
    (f3 : Region.free .any #[o0, o1, o2, o3, o4, o5, o6, o7, o8, o9, o10, o11, o12, o13, o14, o15, o16, o17, o18, o19] #[true, true, true, false, false, false, false, false, false, false, false, false, false, false, false, false, false, false, false, false] 3 = true) (r3 : (Region.ready .any #[o0, o1, o2, o3, o4, o5, o6, o7, o8, o9, o10, o11, o12, o13, o14, o15, o16, o17, o18, o19] #[true, true, true, false, false, false, false, false, false, false, false, false, false, false, false, false, false, false, false, false]).contains 3 = true)
    (f4 : Region.free .any #[o0, o1, o2, o3, o4, o5, o6, o7, o8, o9, o10, o11, o12, o13, o14, o15, o16, o17, o18, o19] #[true, true, true, true, false, false, false, false, false, false, false, false, false, false, false, false, false, false, false, false] 4 = true) (r4 : (Region.ready .any #[o0, o1, o2, o3, o4, o5, o6, o7, o8, o9, o10, o11, o12, o13, o14, o15, o16, o17, o18, o19] #[true, true, true, true, false, false, false, false, false, false, false, false, false, false, false, false, false, false, false, false]).contains 4 = true)
    (f5 : Region.free .any #[o0, o1, o2, o3, o4, o5, o6, o7, o8, o9, o10, o11, o12, o13, o14, o15, o16, o17, o18, o19] #[true, true, true, true, true, false, false, false, false, false, false, false, false, false, false, false, false, false, false, false] 5 = true) (r5 : (Region.ready .any #[o0, o1, o2, o3, o4, o5, o6, o7, o8, o9, o10, o11, o12, o13, o14, o15, o16, o17, o18, o19] #[true, true, true, true, true, false, false, false, false, false, false, false, false, false, false, false, false, false, false, false]).contains 5 = true)
    (f6 : Region.free .any #[o0, o1, o2, o3, o4, o5, o6, o7, o8, o9, o10, o11, o12, o13, o14, o15, o16, o17, o18, o19] #[true, true, true, true, true, true, false, false, false, false, false, false, false, false, false, false, false, false, false, false] 6 = true) (r6 : (Region.ready .any #[o0, o1, o2, o3, o4, o5, o6, o7, o8, o9, o10, o11, o12, o13, o14, o15, o16, o17, o18, o19] #[true, true, true, true, true, true, false, false, false, false, false, false, false, false, false, false, false, false, false, false]).contains 6 = true)
    (f7 : Region.free .any #[o0, o1, o2, o3, o4, o5, o6, o7, o8, o9, o10, o11, o12, o13, o14, o15, o16, o17, o18, o19] #[true, true, true, true, true, true, true, false, false, false, false, false, false, false, false, false, false, false, false, false] 7 = true) (r7 : (Region.ready .any #[o0, o1, o2, o3, o4, o5, o6, o7, o8, o9, o10, o11, o12, o13, o14, o15, o16, o17, o18, o19] #[true, true, true, true, true, true, true, false, false, false, false, false, false, false, false, false, false, false, false, false]).contains 7 = true)
    (f8 : Region.free .any #[o0, o1, o2, o3, o4, o5, o6, o7, o8, o9, o10, o11, o12, o13, o14, o15, o16, o17, o18, o19] #[true, true, true, true, true, true, true, true, false, false, false, false, false, false, false, false, false, false, false, false] 8 = true) (r8 : (Region.ready .any #[o0, o1, o2, o3, o4, o5, o6, o7, o8, o9, o10, o11, o12, o13, o14, o15, o16, o17, o18, o19] #[true, true, true, true, true, true, true, true, false, false, false, false, false, false, false, false, false, false, false, false]).contains 8 = true)
    (f9 : Region.free .any #[o0, o1, o2, o3, o4, o5, o6, o7, o8, o9, o10, o11, o12, o13, o14, o15, o16, o17, o18, o19] #[true, true, true, true, true, true, true, true, true, false, false, false, false, false, false, false, false, false, false, false] 9 = true) (r9 : (Region.ready .any #[o0, o1, o2, o3, o4, o5, o6, o7, o8, o9, o10, o11, o12, o13, o14, o15, o16, o17, o18, o19] #[true, true, true, true, true, true, true, true, true, false, false, false, false, false, false, false, false, false, false, false]).contains 9 = true)
    (f10 : Region.free .any #[o0, o1, o2, o3, o4, o5, o6, o7, o8, o9, o10, o11, o12, o13, o14, o15, o16, o17, o18, o19] #[true, true, true, true, true, true, true, true, true, true, false, false, false, false, false, false, false, false, false, false] 10 = true) (r10 : (Region.ready .any #[o0, o1, o2, o3, o4, o5, o6, o7, o8, o9, o10, o11, o12, o13, o14, o15, o16, o17, o18, o19] #[true, true, true, true, true, true, true, true, true, true, false, false, false, false, false, false, false, false, false, false]).contains 10 = true)
    (f11 : Region.free .any #[o0, o1, o2, o3, o4, o5, o6, o7, o8, o9, o10, o11, o12, o13, o14, o15, o16, o17, o18, o19] #[true, true, true, true, true, true, true, true, true, true, true, false, false, false, false, false, false, false, false, false] 11 = true) (r11 : (Region.ready .any #[o0, o1, o2, o3, o4, o5, o6, o7, o8, o9, o10, o11, o12, o13, o14, o15, o16, o17, o18, o19] #[true, true, true, true, true, true, true, true, true, true, true, false, false, false, false, false, false, false, false, false]).contains 11 = true)
    (f12 : Region.free .any #[o0, o1, o2, o3, o4, o5, o6, o7, o8, o9, o10, o11, o12, o13, o14, o15, o16, o17, o18, o19] #[true, true, true, true, true, true, true, true, true, true, true, true, false, false, false, false, false, false, false, false] 12 = true) (r12 : (Region.ready .any #[o0, o1, o2, o3, o4, o5, o6, o7, o8, o9, o10, o11, o12, o13, o14, o15, o16, o17, o18, o19] #[true, true, true, true, true, true, true, true, true, true, true, true, false, false, false, false, false, false, false, false]).contains 12 = true)
    (qs : Region.ready .any #[o0, o1, o2, o3, o4, o5, o6, o7, o8, o9, o10, o11, o12, o13, o14, o15, o16, o17, o18, o19] #[true, true, true, true, true, true, true, true, true, true, true, true, true, false, false, false, false, false, false, false] = [13, 17])
    (fA14 : Region.free .any #[o0, o1, o2, o3, o4, o5, o6, o7, o8, o9, o10, o11, o12, o13, o14, o15, o16, o17, o18, o19] #[true, true, true, true, true, true, true, true, true, true, true, true, true, true, false, false, false, false, false, false] 14 = true) (rA14 : (Region.ready .any #[o0, o1, o2, o3, o4, o5, o6, o7, o8, o9, o10, o11, o12, o13, o14, o15, o16, o17, o18, o19] #[true, true, true, true, true, true, true, true, true, true, true, true, true, true, false, false, false, false, false, false]).contains 14 = true)
    (fA15 : Region.free .any #[o0, o1, o2, o3, o4, o5, o6, o7, o8, o9, o10, o11, o12, o13, o14, o15, o16, o17, o18, o19] #[true, true, true, true, true, true, true, true, true, true, true, true, true, true, true, false, false, false, false, false] 15 = true) (rA15 : (Region.ready .any #[o0, o1, o2, o3, o4, o5, o6, o7, o8, o9, o10, o11, o12, o13, o14, o15, o16, o17, o18, o19] #[true, true, true, true, true, true, true, true, true, true, true, true, true, true, true, false, false, false, false, false]).contains 15 = true)
    (fA16 : Region.free .any #[o0, o1, o2, o3, o4, o5, o6, o7, o8, o9, o10, o11, o12, o13, o14, o15, o16, o17, o18, o19] #[true, true, true, true, true, true, true, true, true, true, true, true, true, true, true, true, false, false, false, false] 16 = true) (rA16 : (Region.ready .any #[o0, o1, o2, o3, o4, o5, o6, o7, o8, o9, o10, o11, o12, o13, o14, o15, o16, o17, o18, o19] #[true, true, true, true, true, true, true, true, true, true, true, true, true, true, true, true, false, false, false, false]).contains 16 = true)
    (rAal : Region.ready .any #[o0, o1, o2, o3, o4, o5, o6, o7, o8, o9, o10, o11, o12, o13, o14, o15, o16, o17, o18, o19] #[true, true, true, true, true, true, true, true, true, true, true, true, true, true, true, true, true, false, false, false] = [17])
    (rBc : Region.ready .any #[o0, o1, o2, o3, o4, o5, o6, o7, o8, o9, o10, o11, o12, o13, o14, o15, o16, o17, o18, o19] #[true, true, true, true, true, true, true, true, true, true, true, true, true, false, false, false, false, true, false, false] = [13])
    (fB14 : Region.free .any #[o0, o1, o2, o3, o4, o5, o6, o7, o8, o9, o10, o11, o12, o13, o14, o15, o16, o17, o18, o19] #[true, true, true, true, true, true, true, true, true, true, true, true, true, true, false, false, false, true, false, false] 14 = true) (rB14 : (Region.ready .any #[o0, o1, o2, o3, o4, o5, o6, o7, o8, o9, o10, o11, o12, o13, o14, o15, o16, o17, o18, o19] #[true, true, true, true, true, true, true, true, true, true, true, true, true, true, false, false, false, true, false, false]).contains 14 = true)
    (fB15 : Region.free .any #[o0, o1, o2, o3, o4, o5, o6, o7, o8, o9, o10, o11, o12, o13, o14, o15, o16, o17, o18, o19] #[true, true, true, true, true, true, true, true, true, true, true, true, true, true, true, false, false, true, false, false] 15 = true) (rB15 : (Region.ready .any #[o0, o1, o2, o3, o4, o5, o6, o7, o8, o9, o10, o11, o12, o13, o14, o15, o16, o17, o18, o19] #[true, true, true, true, true, true, true, true, true, true, true, true, true, true, true, false, false, true, false, false]).contains 15 = true)
    (fB16 : Region.free .any #[o0, o1, o2, o3, o4, o5, o6, o7, o8, o9, o10, o11, o12, o13, o14, o15, o16, o17, o18, o19] #[true, true, true, true, true, true, true, true, true, true, true, true, true, true, true, true, false, true, false, false] 16 = true) (rB16 : (Region.ready .any #[o0, o1, o2, o3, o4, o5, o6, o7, o8, o9, o10, o11, o12, o13, o14, o15, o16, o17, o18, o19] #[true, true, true, true, true, true, true, true, true, true, true, true, true, true, true, true, false, true, false, false]).contains 16 = true)
    (rst : Region.ready .any #[o0, o1, o2, o3, o4, o5, o6, o7, o8, o9, o10, o11, o12, o13, o14, o15, o16, o17, o18, o19] #[true, true, true, true, true, true, true, true, true, true, true, true, true, true, true, true, true, true, false, false] = [18])
    (f19 : Region.free .any #[o0, o1, o2, o3, o4, o5, o6, o7, o8, o9, o10, o11, o12, o13, o14, o15, o16, o17, o18, o19] #[true, true, true, true, true, true, true, true, true, true, true, true, true, true, true, true, true, true, true, false] 19 = true) (r19 : (Region.ready .any #[o0, o1, o2, o3, o4, o5, o6, o7, o8, o9, o10, o11, o12, o13, o14, o15, o16, o17, o18, o19] #[true, true, true, true, true, true, true, true, true, true, true, true, true, true, true, true, true, true, true, false]).contains 19 = true)
    (rr : Region.ready .any #[o0, o1, o2, o3, o4, o5, o6, o7, o8, o9, o10, o11, o12, o13, o14, o15, o16, o17, o18, o19] #[true, true, true, true, true, true, true, true, true, true, true, true, true, true, true, true, true, true, true, true] = []) (gc : o13.guard = none) (gal : o17.guard = none) (gst : o18.guard = none)
    (v0 v1 v2 v3 v4 v5 v6 v7 v8 v9 v10 v11 v12 v13 v14 v15 v16 v19 : Value) (A0 A1 A2 A3 A4 A5 A6 A7 A8 A9 A10 A11 A12 : Act)
    (p0 : a.put o0.dst v0 = A0) (p1 : A0.put o1.dst v1 = A1) (p2 : A1.put o2.dst v2 = A2) (p3 : A2.put o3.dst v3 = A3) (p4 : A3.put o4.dst v4 = A4) (p5 : A4.put o5.dst v5 = A5) (p6 : A5.put o6.dst v6 = A6) (p7 : A6.put o7.dst v7 = A7) (p8 : A7.put o8.dst v8 = A8) (p9 : A8.put o9.dst v9 = A9) (p10 : A9.put o10.dst v10 = A10) (p11 : A10.put o11.dst v11 = A11) (p12 : A11.put o12.dst v12 = A12) 
    (hy0 : YieldsIf P #[o0, o1, o2, o3, o4, o5, o6, o7, o8, o9, o10, o11, o12, o13, o14, o15, o16, o17, o18, o19] (fun w' => Kept [] w w') o0 v0 a)
    (hy1 : YieldsIf P #[o0, o1, o2, o3, o4, o5, o6, o7, o8, o9, o10, o11, o12, o13, o14, o15, o16, o17, o18, o19] (fun w' => Kept [] w w') o1 v1 A0)
    (hy2 : YieldsIf P #[o0, o1, o2, o3, o4, o5, o6, o7, o8, o9, o10, o11, o12, o13, o14, o15, o16, o17, o18, o19] (fun w' => Kept [] w w') o2 v2 A1)
    (hy3 : YieldsIf P #[o0, o1, o2, o3, o4, o5, o6, o7, o8, o9, o10, o11, o12, o13, o14, o15, o16, o17, o18, o19] (fun w' => Kept [] w w') o3 v3 A2)
    (hy4 : YieldsIf P #[o0, o1, o2, o3, o4, o5, o6, o7, o8, o9, o10, o11, o12, o13, o14, o15, o16, o17, o18, o19] (fun w' => Kept [] w w') o4 v4 A3)
    (hy5 : YieldsIf P #[o0, o1, o2, o3, o4, o5, o6, o7, o8, o9, o10, o11, o12, o13, o14, o15, o16, o17, o18, o19] (fun w' => Kept [] w w') o5 v5 A4)
    (hy6 : YieldsIf P #[o0, o1, o2, o3, o4, o5, o6, o7, o8, o9, o10, o11, o12, o13, o14, o15, o16, o17, o18, o19] (fun w' => Kept [] w w') o6 v6 A5)
    (hy7 : YieldsIf P #[o0, o1, o2, o3, o4, o5, o6, o7, o8, o9, o10, o11, o12, o13, o14, o15, o16, o17, o18, o19] (fun w' => Kept [] w w') o7 v7 A6)
    (hy8 : YieldsIf P #[o0, o1, o2, o3, o4, o5, o6, o7, o8, o9, o10, o11, o12, o13, o14, o15, o16, o17, o18, o19] (fun w' => Kept [] w w') o8 v8 A7)
    (hy9 : YieldsIf P #[o0, o1, o2, o3, o4, o5, o6, o7, o8, o9, o10, o11, o12, o13, o14, o15, o16, o17, o18, o19] (fun w' => Kept [] w w') o9 v9 A8)
    (hy10 : YieldsIf P #[o0, o1, o2, o3, o4, o5, o6, o7, o8, o9, o10, o11, o12, o13, o14, o15, o16, o17, o18, o19] (fun w' => Kept [] w w') o10 v10 A9)
    (hy11 : YieldsIf P #[o0, o1, o2, o3, o4, o5, o6, o7, o8, o9, o10, o11, o12, o13, o14, o15, o16, o17, o18, o19] (fun w' => Kept [] w w') o11 v11 A10)
    (hy12 : YieldsIf P #[o0, o1, o2, o3, o4, o5, o6, o7, o8, o9, o10, o11, o12, o13, o14, o15, o16, o17, o18, o19] (fun w' => Kept [] w w') o12 v12 A11)
    (kcA : ∀ w0, Kept [] w w0 → ∀ K : Act → World → Prop, (∀ w1, Kept [] w0 w1 → K (A12.put o13.dst v13) w1) → o13.wp P A12 w0 K (NoPanic Q))
    (kcB : ∀ (g : Nat) w0, Kept [] w w0 → ∀ K : Act → World → Prop, (∀ w1, Kept [] w0 w1 → K ((A12.put o17.dst (.pointer (some ⟨g, 0, none⟩))).put o13.dst v13) w1) → o13.wp P (A12.put o17.dst (.pointer (some ⟨g, 0, none⟩))) w0 K (NoPanic Q))
    (hA14 : YieldsIf P #[o0, o1, o2, o3, o4, o5, o6, o7, o8, o9, o10, o11, o12, o13, o14, o15, o16, o17, o18, o19] (fun w' => Kept [] w w') o14 v14 (A12.put o13.dst v13))
    (hB14 : ∀ g : Nat, YieldsIf P #[o0, o1, o2, o3, o4, o5, o6, o7, o8, o9, o10, o11, o12, o13, o14, o15, o16, o17, o18, o19] (fun w' => Kept [] w w') o14 v14 ((A12.put o17.dst (.pointer (some ⟨g, 0, none⟩))).put o13.dst v13))
    (hA15 : YieldsIf P #[o0, o1, o2, o3, o4, o5, o6, o7, o8, o9, o10, o11, o12, o13, o14, o15, o16, o17, o18, o19] (fun w' => Kept [] w w') o15 v15 ((A12.put o13.dst v13).put o14.dst v14))
    (hB15 : ∀ g : Nat, YieldsIf P #[o0, o1, o2, o3, o4, o5, o6, o7, o8, o9, o10, o11, o12, o13, o14, o15, o16, o17, o18, o19] (fun w' => Kept [] w w') o15 v15 (((A12.put o17.dst (.pointer (some ⟨g, 0, none⟩))).put o13.dst v13).put o14.dst v14))
    (hA16 : YieldsIf P #[o0, o1, o2, o3, o4, o5, o6, o7, o8, o9, o10, o11, o12, o13, o14, o15, o16, o17, o18, o19] (fun w' => Kept [] w w') o16 v16 (((A12.put o13.dst v13).put o14.dst v14).put o15.dst v15))
    (hB16 : ∀ g : Nat, YieldsIf P #[o0, o1, o2, o3, o4, o5, o6, o7, o8, o9, o10, o11, o12, o13, o14, o15, o16, o17, o18, o19] (fun w' => Kept [] w w') o16 v16 ((((A12.put o17.dst (.pointer (some ⟨g, 0, none⟩))).put o13.dst v13).put o14.dst v14).put o15.dst v15))
    (ty : TypeId) (Z cs : Array Value) (hal : ∀ (a' : Act) (w' : World) (K : Act → World → Prop), K (a'.put o17.dst (.pointer (some ⟨w'.heap.size, 0, none⟩))) (w'.alloc (.cells Z ty)) → o17.wp P a' w' K (NoPanic Q))
    (ne13 : ∀ d, o17.dst = some d → o13.dst ≠ some d)
    (ne14 : ∀ d, o17.dst = some d → o14.dst ≠ some d)
    (ne15 : ∀ d, o17.dst = some d → o15.dst ≠ some d)
    (ne16 : ∀ d, o17.dst = some d → o16.dst ≠ some d)
    (hst : ∀ (g : Nat) (w' : World) (K : Act → World → Prop), w'.heap[g]? = some (.cells Z ty (0, 0)) → K (((((A12.put o13.dst v13).put o14.dst v14).put o15.dst v15).put o16.dst v16).put o17.dst (.pointer (some ⟨g, 0, none⟩))) (w'.setRow g cs) → o18.wp P (((((A12.put o13.dst v13).put o14.dst v14).put o15.dst v15).put o16.dst v16).put o17.dst (.pointer (some ⟨g, 0, none⟩))) w' K (NoPanic Q))
    (hyl : ∀ g : Nat, YieldsIf P #[o0, o1, o2, o3, o4, o5, o6, o7, o8, o9, o10, o11, o12, o13, o14, o15, o16, o17, o18, o19] (fun w' => Kept [] w w') o19 v19 (((((A12.put o13.dst v13).put o14.dst v14).put o15.dst v15).put o16.dst v16).put o17.dst (.pointer (some ⟨g, 0, none⟩))))
    (h : ∀ (g : Nat) (w' : World), w.heap.size ≤ g → Kept [] w w' → w'.heap[g]? = some (.cells cs ty (0, 0)) → Q .normal ((((((A12.put o13.dst v13).put o14.dst v14).put o15.dst v15).put o16.dst v16).put o17.dst (.pointer (some ⟨g, 0, none⟩))).put o19.dst v19) w') :
    (Code.region id #[o0, o1, o2, o3, o4, o5, o6, o7, o8, o9, o10, o11, o12, o13, o14, o15, o16, o17, o18, o19] true).wp P Q a w := by
  subst p0 p1 p2 p3 p4 p5 p6 p7 p8 p9 p10 p11 p12
  have k00 : Kept [] w w.drew := (Kept.refl [] w).drew
  refine wp_region_noPanic ?_
  refine wp_region_held_drew (S := fun w' => Kept [] w w') hm k00 (fun hH => ?_)
  show wpAnyH P .any #[o0, o1, o2, o3, o4, o5, o6, o7, o8, o9, o10, o11, o12, o13, o14, o15, o16, o17, o18, o19] (NoPanic Q) _ 20 #[false, false, false, false, false, false, false, false, false, false, false, false, false, false, false, false, false, false, false, false] a w.drew
  refine wpAnyH_take (i := 0) (oi := o0) rfl hs f0 r0 (fun _ _ _ h => h) hy0 k00 ?_
  refine wpAnyH_take (i := 1) (oi := o1) rfl hs f1 r1 (fun _ _ _ h => h) hy1 k00 ?_
  refine wpAnyH_take (i := 2) (oi := o2) rfl hs f2 r2 (fun _ _ _ h => h) hy2 k00 ?_
  refine wpAnyH_take (i := 3) (oi := o3) rfl hs f3 r3 (fun _ _ _ h => h) hy3 k00 ?_
  refine wpAnyH_take (i := 4) (oi := o4) rfl hs f4 r4 (fun _ _ _ h => h) hy4 k00 ?_
  refine wpAnyH_take (i := 5) (oi := o5) rfl hs f5 r5 (fun _ _ _ h => h) hy5 k00 ?_
  refine wpAnyH_take (i := 6) (oi := o6) rfl hs f6 r6 (fun _ _ _ h => h) hy6 k00 ?_
  refine wpAnyH_take (i := 7) (oi := o7) rfl hs f7 r7 (fun _ _ _ h => h) hy7 k00 ?_
  refine wpAnyH_take (i := 8) (oi := o8) rfl hs f8 r8 (fun _ _ _ h => h) hy8 k00 ?_
  refine wpAnyH_take (i := 9) (oi := o9) rfl hs f9 r9 (fun _ _ _ h => h) hy9 k00 ?_
  refine wpAnyH_take (i := 10) (oi := o10) rfl hs f10 r10 (fun _ _ _ h => h) hy10 k00 ?_
  refine wpAnyH_take (i := 11) (oi := o11) rfl hs f11 r11 (fun _ _ _ h => h) hy11 k00 ?_
  refine wpAnyH_take (i := 12) (oi := o12) rfl hs f12 r12 (fun _ _ _ h => h) hy12 k00 ?_
  generalize (((((((((((((a.put o0.dst v0).put o1.dst v1).put o2.dst v2).put o3.dst v3).put o4.dst v4).put o5.dst v5).put o6.dst v6).put o7.dst v7).put o8.dst v8).put o9.dst v9).put o10.dst v10).put o11.dst v11).put o12.dst v12) = B at *
  have wc : ∀ y, Region.wanted o13 y = true := fun y => by unfold Region.wanted; rw [gc]
  have wal : ∀ y, Region.wanted o17 y = true := fun y => by unfold Region.wanted; rw [gal]
  have wst : ∀ y, Region.wanted o18 y = true := fun y => by unfold Region.wanted; rw [gst]
  have tail : ∀ (g : Nat) (w0 : World), w.heap.size ≤ g → Kept [] w w0 → w0.heap[g]? = some (.cells Z ty (0, 0)) → wpAnyH P .any #[o0, o1, o2, o3, o4, o5, o6, o7, o8, o9, o10, o11, o12, o13, o14, o15, o16, o17, o18, o19] (NoPanic Q) (fun w' => Kept [] w w') 2 #[true, true, true, true, true, true, true, true, true, true, true, true, true, true, true, true, true, true, false, false] (((((B.put o13.dst v13).put o14.dst v14).put o15.dst v15).put o16.dst v16).put o17.dst (.pointer (some ⟨g, 0, none⟩))) w0 := by
    intro g w0 hg k0 hz
    refine wpAnyH_ready (rs := [18]) rst (by simp) (AllReadyH.cons (o := o18) rfl (fun K hK => ?_) AllReadyH.nil)
    rw [if_pos (wst _)]
    have k1 := k0.setRow (Or.inr hg) cs
    refine hst g w0 K hz (hK.out _ _ k1 (fun _ => ?_))
    refine wpAnyH_take (i := 19) (oi := o19) rfl hs f19 r19 (fun _ _ _ h => h) (hyl g) k1 ?_
    exact ⟨rr, NoPanic.normal (h g _ hg k1 (setRow_heap _ _ _ _ _ _ hz))⟩
  refine wpAnyH_ready (rs := [13, 17]) qs (by simp) (AllReadyH.cons (o := o13) rfl (fun K hK => ?_) (AllReadyH.cons (o := o17) rfl (fun K hK => ?_) AllReadyH.nil))
  · rw [if_pos (wc _)]
    refine kcA _ k00 K (fun w1 k1 => hK.out _ _ (k00.trans k1 (by simp)) (fun _ => ?_))
    have k2 := k00.trans k1 (by simp)
    clear hK
    refine wpAnyH_take (i := 14) (oi := o14) rfl hs fA14 rA14 (fun _ _ _ h => h) hA14 k2 ?_
    refine wpAnyH_take (i := 15) (oi := o15) rfl hs fA15 rA15 (fun _ _ _ h => h) hA15 k2 ?_
    refine wpAnyH_take (i := 16) (oi := o16) rfl hs fA16 rA16 (fun _ _ _ h => h) hA16 k2 ?_
    refine wpAnyH_ready (rs := [17]) rAal (by simp) (AllReadyH.cons (o := o17) rfl (fun K hK => ?_) AllReadyH.nil)
    rw [if_pos (wal _)]
    refine hal _ _ K (hK.out _ _ (k2.alloc _) (fun _ => ?_))
    exact tail w1.heap.size _ k2.size (k2.alloc _) (heap_alloc_new _ _)
  · rw [if_pos (wal _)]
    refine hal _ _ K (hK.out _ _ (k00.alloc _) (fun _ => ?_))
    clear hK
    refine wpAnyH_ready (rs := [13]) rBc (by simp) (AllReadyH.cons (o := o13) rfl (fun K hK => ?_) AllReadyH.nil)
    rw [if_pos (wc _)]
    refine kcB _ _ (k00.alloc _) K (fun w1 k1 => hK.out _ _ ((k00.alloc _).trans k1 (by simp)) (fun _ => ?_))
    have k2 := (k00.alloc (.cells Z ty)).trans k1 (by simp)
    have hz := k1.heap (heap_alloc_new w.drew (.cells Z ty)) (by simp)
    clear hK
    refine wpAnyH_take (i := 14) (oi := o14) rfl hs fB14 rB14 (fun _ _ _ h => h) (hB14 _) k2 ?_
    refine wpAnyH_take (i := 15) (oi := o15) rfl hs fB15 rB15 (fun _ _ _ h => h) (hB15 _) k2 ?_
    refine wpAnyH_take (i := 16) (oi := o16) rfl hs fB16 rB16 (fun _ _ _ h => h) (hB16 _) k2 ?_
    rw [Act.put_comm _ _ _ ne13]; rw [Act.put_comm _ _ _ ne14]; rw [Act.put_comm _ _ _ ne15]; rw [Act.put_comm _ _ _ ne16]
    exact tail w.drew.heap.size _ (Nat.le_refl _) k2 hz
end
end Go.Proofs.YtjafmnemobcipaaDoor
