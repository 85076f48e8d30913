import Derived.Test.YtbbjbpjpejekgaaAGws
import Derived.Test.YtbbjbpjpejekgaaQTail
namespace Go.Proofs.Ytbbjbpjpejekgaa
open Go.RowKit Go.BigFrame
set_option linter.unusedVariables false
set_option linter.unusedSimpArgs false

def mOf (st : Nat) : Nat := if st = 1 then 24 else st
theorem grow_any (a : Option Addr) (c n r i st : Nat) (w : World) (h : w.ownsRow 0 5 1 (.slice a n c) (mk3 r i n).length ((mk3 r i n).map u8)) (hs : st = 1 ∨ st = 24 ∨ st = 90) (hn : n ≤ 4194304) (hi : i ≤ 4194304) (hr : r < 2) :
    Calls Try.prog 47 #[.slice a n c, .int .i64 r, .int .i64 i, .int .i64 st] w fun e w' => ∃ a' c', e = .returned (.slice a' (n + mOf st) c') ∧ Grw w w' a n c r i a' (mOf st) c' := by
  rcases hs with rfl | rfl | rfl
  · exact grow1_any a c n r i w h hn hi hr
  · exact growN_any a c n r i 24 w h (by omega) (by omega) hn hi hr
  · exact growN_any a c n r i 90 w h (by omega) (by omega) hn hi hr

set_option maxRecDepth 100000 in
set_option maxHeartbeats 4000000 in
theorem apart_any (la : Option Addr) (lc : Nat) (L : List LT) (w : World) (hc : 0 < L.length → ∃ b off, la = some ⟨b, off, none⟩ ∧ b ∉ blks L ∧ ∀ i (h : i < L.length), w.cell? ⟨b, off + i, none⟩ = some (vT L[i]))
    (ha : Aprt L) (ho : ∀ i (hi : i < L.length), OwT w L[i]) (hb : ∀ t ∈ L, t.2.1 ≤ 4194304) (hl : L.length ≤ 4194304) :
    Calls Try.prog 26 #[.slice la L.length lc] w fun e w' => e = .returned (.bool true) ∧ Kept (blks L) w w' := by
  have HC := hide hc
  have HA := hide ha
  have HO := hide ho
  have HB := hide hb
  clear hc ha ho hb
  go_enter Try.func26, Try.ntmps26
  go_wp2_with fail
  go_loopw [3] (fun t3 wr => ∃ r : Nat, r ≤ 2 ∧ t3 = .int .i64 r ∧ Hid (Mrk w wr r L 0)) (fun t _ => 2 - (intOf t).toNat)
  case atStart => exact ⟨0, by omega, rfl, hide ⟨fun i hi h => by omega, fun i hi _ => unhide HO i hi, Kept.refl _ _⟩⟩
  case round =>
    obtain ⟨r, hr, rfl, HM0⟩ := hrel
    by_cases hr2 : r < 2
    · have hr2' : (r : Int) < 2 := by omega
      obtain ⟨R1, hR1⟩ : ∃ R1, R1 = wr := ⟨_, rfl⟩
      subst hR1
      go_wp2_with fail
      go_loopw [17] (fun t17 wr => ∃ k : Nat, k ≤ L.length ∧ t17 = .int .i64 k ∧ Hid (Mrk w wr r L k)) (fun t _ => L.length - (intOf t).toNat)
      case atStart => exact ⟨0, by omega, rfl, HM0⟩
      case round =>
        obtain ⟨k, hk, rfl, HM⟩ := hrel
        by_cases hkl : k < L.length
        · have hkl' : (k : Int) < L.length := by omega
          obtain ⟨R2, hR2⟩ : ∃ R2, R2 = wr := ⟨_, rfl⟩
          subst hR2
          obtain ⟨b, off, rfl, hnb, hcell⟩ := unhide HC (by omega)
          have cl := (unhide HM).k.cell (hcell k hkl) hnb
          have HOW := hide ((unhide HM).rest k hkl (by omega))
          have HTB := hide (unhide HB _ (List.getElem_mem hkl))
          obtain ⟨t, ht⟩ : ∃ t, L[k] = t := ⟨_, rfl⟩
          rw [ht] at cl HOW HTB
          have HT := hide ht
          clear ht hcell
          obtain ⟨ta, tn, tc⟩ := t
          replace cl : R2.cell? ⟨b, off + k, none⟩ = some (.slice ta tn tc) := cl
          have htn : tn ≤ 4194304 := unhide HTB
          go_wp2_with fail
          go_loopw [25] (fun t25 wrz => ∃ j : Nat, j ≤ tn ∧ t25 = .int .i64 j ∧ Hid (HfT wrz r k j (ta, tn, tc)) ∧ Hid (Kept (vT (ta, tn, tc)).ownBlock.toList R2 wrz)) (fun t _ => tn - (intOf t).toNat)
          case atStart => exact ⟨0, by omega, rfl, hide ((unhide HOW).half r k), hide (Kept.refl _ _)⟩
          case round =>
            obtain ⟨j, hj, rfl, HH, HKJ⟩ := hrel
            by_cases hjl : j < tn
            · have hjl' : (j : Int) < tn := by omega
              obtain ⟨b2, e2, hb2⟩ := (unhide HH).block hjl
              have e2' : ta = some ⟨b2, 0, none⟩ := e2
              subst e2'
              have HST := hide ((unhide HH).set hjl e2)
              have hfz := (unhide HST).2.1
              have cl2 : wr.cell? ⟨b, off + k, none⟩ = some (.slice (some ⟨b2, 0, none⟩) tn tc) := (unhide HKJ).cell cl (fun hm => hnb (blks_mem hkl (by rw [unhide HT]; simpa using hm)))
              obtain ⟨x0, hx0⟩ := (unhide HH).cell hjl e2
              have HMK := hide (fun W => mark_any r k j W (by omega) (by omega) hr2)
              clear e2
              go_wp2_with fail
              refine wp_quiet_tail 9 (by kernel_rfl) (by kernel_rfl) ?_
              simp only [List.take_succ_cons, List.take_zero, List.drop_succ_cons, List.drop_zero]
              repeat (go_big_quiet_step (first | (go_at_call 46; exact (unhide HMK _).mono (fun x w' hx => ⟨hx.1, _, hx.2⟩))))
              refine wpQuiet_nil ?_
              intro _ hw'
              obtain ⟨d1, hw''⟩ := hw'
              subst hw''
              have HH1 := hide (by
                obtain ⟨rest, h1, h2⟩ := unhide HH
                exact ⟨rest, h1, ((Kept.refl [] wr).drewN d1).owns h2 (by simp)⟩ : HfT (wr.drewN d1) r k j (some ⟨b2, 0, none⟩, tn, tc))
              have HS1 := hide ((unhide HH1).set hjl rfl)
              have hf1 := (unhide HS1).2.1
              have HKN := hide ((((unhide HKJ).drewN d1).trans (unhide HS1).2.2 (by simp [vT, Value.ownBlock])) : Kept (vT (some ⟨b2, 0, none⟩, tn, tc)).ownBlock.toList R2 _)
              have HHN := hide (unhide HS1).1
              go_wp2
              go_roundw
              case rel => exact ⟨j + 1, by omega, by go_num, HHN, HKN⟩
              case measure => simp [intOf]; omega
            · have hjl' : ¬ (j : Int) < tn := by omega
              obtain rfl : j = tn := by omega
              have HMN := hide ((unhide HM).step (unhide HA) hkl (by rw [unhide HT]; exact unhide HKJ) (by rw [unhide HT]; exact (unhide HH).full))
              go_wp2
              go_roundw
              case rel => exact ⟨k + 1, hkl, by go_num, HMN⟩
              case measure => simp [intOf]; omega
        · have hkl' : ¬ (k : Int) < L.length := by omega
          obtain rfl : k = L.length := by omega
          go_wp2_with fail
          obtain ⟨W0, hW0⟩ : ∃ W0, wr.alloc (.cells #[.int .i64 1, .int .i64 24, .int .i64 90] 3) = W0 := ⟨_, rfl⟩
          have HSt := hide (by rw [← hW0]; exact heap_alloc_new wr _ : W0.heap[wr.heap.size]? = some (.cells #[.int .i64 1, .int .i64 24, .int .i64 90] 3 (0, 0)))
          have HMW := hide (by
            have kA : Kept [] wr W0 := by rw [← hW0]; exact (Kept.refl [] wr).alloc _
            exact ⟨fun i hi h => ((unhide HM).done i hi h).pass kA (by simp), fun i hi h => by omega, (unhide HM).k.trans kA (by simp)⟩ : Mrk w W0 r L L.length)
          obtain ⟨sb, hsb⟩ : ∃ sb, wr.heap.size = sb := ⟨_, rfl⟩
          have HSB := hide (fun b hb => by
            rw [← hsb]
            obtain ⟨t, ht, h9⟩ := List.mem_flatMap.1 hb
            obtain ⟨i, hi, rfl⟩ := List.getElem_of_mem ht
            have := (((unhide HM).done i hi hi).lt b (by simpa using h9)).2
            omega : ∀ b ∈ blks L, b ≠ sb)
          rw [hsb] at HSt
          rw [hW0, hsb]
          clear hW0 hsb HM HM0
          go_loopw [42] (fun t42 wrz => ∃ s : Nat, s ≤ 3 ∧ t42 = .int .i64 s ∧ Hid (Mrk w wrz r L L.length) ∧ Hid (Kept (blks L) W0 wrz)) (fun t _ => 3 - (intOf t).toNat)
          case atStart => exact ⟨0, by omega, rfl, HMW, hide (Kept.refl _ _)⟩
          case round =>
            obtain ⟨sx, hsx, rfl, HM, HKW⟩ := hrel
            by_cases hs3 : sx < 3
            · have hs3' : (sx : Int) < 3 := by omega
              obtain ⟨R3, hR3⟩ : ∃ R3, R3 = wr := ⟨_, rfl⟩
              subst hR3
              have hrow : R3.heap[sb]? = some (.cells #[.int .i64 1, .int .i64 24, .int .i64 90] 3 (0, 0)) := (unhide HKW).heap (unhide HSt) (fun hm => unhide HSB sb hm rfl)
              have hst : ∃ st : Nat, (st = 1 ∨ st = 24 ∨ st = 90) ∧ R3.cell? ⟨sb, sx, none⟩ = some (.int .i64 (st : Nat)) := by
                rw [cell_of_row _ _ _ _ _ _ hrow]
                have h3 : sx = 0 ∨ sx = 1 ∨ sx = 2 := by omega
                rcases h3 with rfl | rfl | rfl
                · exact ⟨1, by simp, rfl⟩
                · exact ⟨24, by simp, rfl⟩
                · exact ⟨90, by simp, rfl⟩
              obtain ⟨st, hst, cst⟩ := hst
              have HST := hide hst
              clear hst hrow
              have HG0 := hide (Gws.start (m := mOf st) (fun i hi => (unhide HM).done i hi hi))
              have HMB := hide (by unfold mOf; rcases unhide HST with h | h | h <;> subst h <;> simp : mOf st ≤ 90)
              have HKM := hide (unhide HM).k
              obtain ⟨m, hm⟩ : ∃ m, mOf st = m := ⟨_, rfl⟩
              rw [hm] at HG0 HMB
              have HMO := hide hm
              clear hm
              have hmb : m ≤ 90 := unhide HMB
              go_wp2_with fail
              go_loopw [8, 48] (fun t8 t48 wrz => ∃ (k c8 : Nat) (a8 : Option Addr) (ts : List (List Nat × Value)), k ≤ L.length ∧ t8 = .slice a8 k c8 ∧ t48 = .int .i64 k ∧ Hid (Gws R3 wrz r L m k (.slice a8 k c8) ts)) (fun _ t _ => L.length - (intOf t).toNat)
              case atStart => exact ⟨0, 0, none, [], by omega, rfl, rfl, HG0⟩
              case round =>
                obtain ⟨k, c8, a8, ts, hk, rfl, rfl, HG⟩ := hrel
                by_cases hkl : k < L.length
                · have hkl' : (k : Int) < L.length := by omega
                  obtain ⟨b, off, rfl, hnb, hcell⟩ := unhide HC (by omega)
                  have cl := (unhide HG).k.cell ((unhide HKM).cell (hcell k hkl) hnb) hnb
                  have HTB := hide (unhide HB _ (List.getElem_mem hkl))
                  have HMK := hide ((unhide HG).mkd k hkl)
                  obtain ⟨t, ht⟩ : ∃ t, L[k] = t := ⟨_, rfl⟩
                  rw [ht] at cl HTB HMK
                  have HT := hide ht
                  clear ht hcell
                  obtain ⟨ta, tn, tc⟩ := t
                  replace cl : wr.cell? ⟨b, off + k, none⟩ = some (.slice ta tn tc) := cl
                  have htn : tn ≤ 4194304 := unhide HTB
                  go_wp2_with fail
                  refine (grow_any ta tc tn r k st wr (unhide HMK) (unhide HST) htn (by omega) hr2).mono ?_
                  rintro e w4 ⟨a', c', rfl, g4⟩
                  rw [unhide HMO] at g4 ⊢
                  obtain ⟨q1, q2, q3, q4⟩ := (unhide HG).grown (unhide HA) hkl (unhide HT) g4 (by omega)
                  have HQ1 := hide (q1.pass ((Kept.refl [] w4).alloc (.cells #[.slice a' (tn + m) c'] 22)))
                  have HQ2 := hide (q2.old ((Kept.refl [] w4).alloc (.cells #[.slice a' (tn + m) c'] 22)) (by simp))
                  have HQ3 := hide q3
                  have q5 : ∀ b ∈ eblk (.slice a' (tn + m) c') (mk3 r k (tn + m)), (Value.slice a8 k c8).ownBlock ≠ some b ∧ b < (w4.alloc (.cells #[.slice a' (tn + m) c'] 22)).heap.size := fun b hb => ⟨(q4 b hb).1, Nat.lt_of_lt_of_le (q4 b hb).2 ((Kept.refl [] w4).alloc (.cells #[.slice a' (tn + m) c'] 22)).size⟩
                  have HQ4 := hide q5
                  have hz4 : R3.heap.size ≤ (w4.alloc (.cells #[.slice a' (tn + m) c'] 22)).heap.size := (unhide HQ1).k.size
                  obtain ⟨xs, hxs⟩ : ∃ xs, ts.map (·.2) = xs := ⟨_, rfl⟩
                  have HXS := hide hxs
                  have hxl : xs.length = k := by rw [← hxs, List.length_map]; exact (unhide HG).len
                  have HXL := hide hxl
                  clear g4 q1 q2 q3 q4 q5 hxs hxl
                  go_wp2_with (at_builtin; refine wpList_pushV rfl _ _ rfl rfl (w4.alloc (.cells #[.slice a' (tn + m) c'] 22)) R3.heap.size (.slice a8 k c8) xs (.slice a' (tn + m) c') w4.heap.size ((unhide HQ1).own.xs (unhide HXS)) (heap_alloc_new _ _) rfl (by have := unhide HXL; omega) hz4 rfl rfl ?_; intro g7 cap7 w7 HO7 HG7 HH7)
                  have HGN := hide ((unhide HQ1).push hkl (by rw [unhide HT]) (unhide HQ2) (unhide HQ3) (unhide HQ4) (unhide HXS) (unhide HO7) (unhide HG7) (unhide HH7))
                  rw [unhide HXL] at HGN ⊢
                  go_wp2
                  go_roundw
                  case rel => exact ⟨k + 1, cap7, _, _, hkl, rfl, by go_num, HGN⟩
                  case measure => simp [intOf]; omega
                · have hkl' : ¬ (k : Int) < L.length := by omega
                  obtain rfl : k = L.length := by omega
                  obtain ⟨R5, hR5⟩ : ∃ R5, R5 = wr := ⟨_, rfl⟩
                  subst hR5
                  have HRL := hide (unhide HG).own.rdl
                  go_wp2_with fail
                  go_loopw [65] (fun t65 wrz => ∃ k : Nat, k ≤ L.length ∧ t65 = .int .i64 k ∧ Hid (Kept [] R5 wrz)) (fun t _ => L.length - (intOf t).toNat)
                  case atStart => exact ⟨0, by omega, rfl, hide (Kept.refl _ _)⟩
                  case round =>
                    obtain ⟨k, hk, rfl, HKD⟩ := hrel
                    have HKR := hide ((unhide HG).k.trans (unhide HKD) (by simp))
                    by_cases hkl : k < L.length
                    · have hkl' : (k : Int) < L.length := by omega
                      obtain ⟨b, off, rfl, hnb, hcell⟩ := unhide HC (by omega)
                      have cl := (unhide HKR).cell ((unhide HKM).cell (hcell k hkl) hnb) hnb
                      have HTB := hide (unhide HB _ (List.getElem_mem hkl))
                      have HMK := hide (((unhide HG).mkd k hkl).pass (unhide HKD) (by simp))
                      have hlen := (unhide HG).len
                      have hv9 := (unhide HG).val k (by omega) hkl
                      obtain ⟨_, _, _, vs9, hE9, e1, e2, e3, e4, e5, e6⟩ := id (unhide HRL)
                      cases hE9
                      obtain ⟨b10, off10, rfl, e7⟩ := e5 (by omega)
                      have cg := (unhide HKD).cell (e7 k (by omega)) (by simp)
                      have r10 := (e6 k (by omega)).old (unhide HKD) (by simp)
                      have hmx : (ts.map (·.1)).getD k [] = mk3 r k (L[k].2.1 + m) := by
                        rw [List.getD_eq_getElem?_getD, List.getElem?_map, List.getElem?_eq_getElem (by omega), ← hv9]; rfl
                      rw [hmx] at r10
                      obtain ⟨t, ht⟩ : ∃ t, L[k] = t := ⟨_, rfl⟩
                      rw [ht] at cl HTB HMK r10
                      clear ht hcell hmx hv9 hlen e1 e2 e3 e4 e5 e6 e7
                      obtain ⟨ta, tn, tc⟩ := t
                      replace cl : wr.cell? ⟨b, off + k, none⟩ = some (.slice ta tn tc) := cl
                      have htn : tn ≤ 4194304 := unhide HTB
                      generalize vs9.getD k undef = u10 at cg r10
                      obtain ⟨a7, m7, c7, rfl, hm7, _⟩ := id r10
                      have HR1 := hide (rd_owns (unhide HMK) (mk3_byte r k tn) (by rw [mk3_len]; omega) : Rd wr (.slice ta tn tc) (mk3 r k tn))
                      have HR2 := hide (r10 : Rd wr (.slice a7 m7 c7) (mk3 r k (tn + m)))
                      clear r10 hm7
                      go_wp2_with fail
                      go_region_held3 (fun w' => w'.cell? ⟨b, off + k, none⟩ = some (.slice ta tn tc) ∧ w'.cell? ⟨b10, off10 + k, none⟩ = some (.slice a7 m7 c7)) (go_keep) (first
                        | (go_at_call 48; refine (marked_any _ _ tn (tn + m) r k _ (by exact (unhide HR1).old ((Kept.refl [] wr).drewN 1) (by simp)) (by exact (unhide HR2).old ((Kept.refl [] wr).drewN 1) (by simp)) htn (by omega) (by omega) hr2).mono ?_; rintro e w9 ⟨rfl, k9⟩; have HKD9 := hide ((unhide HKD).trans (((Kept.refl [] wr).drew).trans k9 (by simp)) (by simp)); have j1 := k9.cell (show wr.drew.cell? _ = _ from cl) (by simp); have j2 := k9.cell (show wr.drew.cell? _ = _ from cg) (by simp); clear k9))
                      go_wp2
                      go_roundw
                      case rel => exact ⟨k + 1, hkl, by go_num, HKD9⟩
                      case measure => simp [intOf]; omega
                    · have hkl' : ¬ (k : Int) < L.length := by omega
                      have HMN := hide (⟨fun i hi _ => ((unhide HG).mkd i hi).pass (unhide HKD) (by simp), fun i hi h => by omega, (unhide HKM).trans (unhide HKR) (fun b hb => .inl hb)⟩ : Mrk w wr r L L.length)
                      have HKN := hide ((unhide HKW).trans (unhide HKR) (fun b hb => .inl hb))
                      go_wp2
                      go_roundw
                      case rel => exact ⟨sx + 1, by omega, by go_num, HMN, HKN⟩
                      case measure => simp [intOf]; omega
            · have hs3' : ¬ (sx : Int) < 3 := by omega
              have HM1 := hide (⟨fun i hi h => by omega, fun i hi _ => ((unhide HM).done i hi hi).ow, (unhide HM).k⟩ : Mrk w wr (r + 1) L 0)
              go_wp2
              go_roundw
              case rel => exact ⟨r + 1, by omega, by go_num, HM1⟩
              case measure => simp [intOf]; omega
    · have hr2' : ¬ (r : Int) < 2 := by omega
      go_wp2
      go_ret
      exact ⟨rfl, (unhide HM0).k⟩
end Go.Proofs.Ytbbjbpjpejekgaa
