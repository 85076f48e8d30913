import Derived.Test.YtdnacefdihipnaaLaid
namespace Go.Proofs.Ytdnacefdihipnaa
open Go.RowKit
set_option linter.unusedVariables false
set_option linter.unusedSimpArgs false

set_option maxRecDepth 100000 in
set_option maxHeartbeats 8000000 in
theorem wireLays_walk (sv : Value) (ops : List OpD) (w : World) (hs : SRd w sv ops) (hl : (scriptB ops).length ≤ 4194304) (hop : ∀ o ∈ ops, o.p.length ≤ 1048576) (hlen : ops.length ≤ 1048576) :
    Calls Try.prog 3 #[sv] w fun e w' => e = .returned (.bool true) ∧ Below w.heap.size w w' := by
  have HS := hide hs
  have HP := hide hop
  have Hsu := hide (fun (k : Nat) (o : OpD) (h : ops[k]? = some o) => scriptB_take_succ h)
  have Hle := hide (fun (k : Nat) => scriptB_le (ops := ops) k)
  obtain ⟨ao, cap, rfl, h1, h2, h2', h3, h4⟩ := hs
  clear h3 h4 hop
  go_enter Try.func3, Try.ntmps3
  go_wp2_with fail
  refine (awake_any _).mono ?_
  rintro e w1 ⟨rfl, k1⟩
  have HK1 := hide k1
  have hw1 := k1.size
  clear k1
  go_wp2_with fail
  go_loopw [4, 6, 11] (fun t4 t6 t11 wr => ∃ (k : Nat) (v : Value) (bs : List Nat) (aa : Option Addr) (ca : Nat), k ≤ ops.length ∧ t11 = .int .i64 k ∧ t4 = .slice aa bs.length ca ∧ bs.length ≤ 4194304 ∧ Hid (bs = scriptB (ops.take k)) ∧ Hid (Rd wr (.slice aa bs.length ca) bs) ∧ Hid (∀ x ∈ blk (.slice aa bs.length ca), x ≠ w1.heap.size ∧ v.ownBlock ≠ some x) ∧ Hid (WrAt wr w1.heap.size v bs) ∧ Hid (Kept [] w wr) ∧ Hid (∀ g, v.ownBlock = some g → w1.heap.size ≤ g)) (fun _ _ i _ => ops.length - (intOf i).toNat)
  case atStart => exact ⟨0, _, [], none, 0, Nat.zero_le _, rfl, rfl, by simp, hide (by simp [scriptB]), Rd.nil _, hide (by simp [blk]), WrAt.new w1, (unhide HK1).alloc _, hide (by simp [Value.ownBlock])⟩
  case round =>
    obtain ⟨k, v, bs, aa, ca, hk, rfl, rfl, hb4, Hbs, HA, HAb, HW, HK, HO⟩ := hrel
    by_cases hlt : k < ops.length
    · have hko : ops[k]? = some ops[k] := List.getElem?_eq_getElem hlt
      have hg := (unhide HS).get (unhide HK) k _ hko
      have hpl := unhide HP _ (List.getElem_mem hlt)
      have hzs := unhide Hsu k _ hko
      have hle1 := unhide Hle (k + 1)
      generalize ops[k] = o at hg hpl hzs
      obtain ⟨bo, off, ao2, n2, c2, he, hpv, d0, d1, d2, d3, a1, hbl, hrd⟩ := hg
      cases he
      obtain ⟨ok, ox, on, opv, op⟩ := o
      simp only at hpv d0 d1 d2 a1 hrd hpl hzs
      subst hpv
      rw [← unhide Hbs] at hzs
      have HRo := hide hrd
      have Hzs := hide hzs
      have a1' : (ox : Int) ≤ 18446744073709551615 := by omega
      have hkl : (k : Int) < (ops.length : Int) := by omega
      have hawr : w1.heap.size < wr.heap.size := (unhide HW).lt
      clear hrd hzs hko
      go_wp2_with fail
      refine (lay_any w1.heap.size v bs ok ox on _ op _ (by exact (unhide HW).alloc _) (by exact fun w' kw => (unhide HRo).old (((unhide HK).alloc _).wr kw hw1 (fun g hg => by have := unhide HO g hg; omega)) (by simp)) a1 (by omega)).mono ?_
      rintro e w2 ⟨rfl, v2, h2w, k2⟩
      rw [← unhide Hzs] at h2w
      have HW2 := hide h2w
      have HK2 := hide (((unhide HK).alloc _).wr k2.kept hw1 (fun g hg => by have := unhide HO g hg; omega))
      have HA2 := hide (((unhide HA).kept ((Kept.refl [] wr).alloc (.cells #[.int .i64 ok, .int .u64 ox, .int .i64 on, .slice ao2 n2 c2] 29)) (by simp)).kept k2.kept (by intro x hx; have h9 := unhide HAb x hx; simp only [List.mem_cons, Option.mem_toList, not_or]; exact ⟨h9.1, h9.2⟩))
      have HO2 := hide (k2.fresh (unhide HO) (by simp; omega))
      have hc2 := k2.kept.heap (heap_alloc_new wr _) (by simp only [List.mem_cons, Option.mem_toList, not_or]; exact ⟨by omega, fun h => by have := (unhide HW).ownlt h; omega⟩)
      have e0 : w2.cell? ⟨wr.heap.size, 0, none⟩ = some (.int .i64 ok) := by rw [cell_of_row _ _ _ _ _ _ hc2]; rfl
      have e1 : w2.cell? ⟨wr.heap.size, 1, none⟩ = some (.int .u64 ox) := by rw [cell_of_row _ _ _ _ _ _ hc2]; rfl
      have e2 : w2.cell? ⟨wr.heap.size, 2, none⟩ = some (.int .i64 on) := by rw [cell_of_row _ _ _ _ _ _ hc2]; rfl
      have e3 : w2.cell? ⟨wr.heap.size, 3, none⟩ = some (.slice ao2 n2 c2) := by rw [cell_of_row _ _ _ _ _ _ hc2]; rfl
      clear h2w k2 hc2
      go_wp2_with fail
      refine (laid_any ok ox on _ op _ a1 (by exact (unhide HRo).old (unhide HK2) (by simp)) (by omega)).mono ?_
      rintro e w3 ⟨lv3, rfl, hr3, k3, hb3⟩
      have HR3 := hide hr3
      have HK3 := hide k3
      clear hr3 k3 hb3 e0 e1 e2 e3
      have hlb := congrArg List.length (unhide Hzs)
      rw [List.length_append] at hlb
      go_wp2_with fail
      refine (join_any _ _ bs (layB ok ox op) _ (by exact (unhide HA2).old (unhide HK3) (by simp)) (unhide HR3) (by omega)).mono ?_
      rintro e w4 ⟨lv4, rfl, hr4, k4, hb4'⟩
      rw [← unhide Hzs] at hr4
      obtain ⟨ao4, n4, c4, rfl, hn4⟩ : ∃ ao n c, lv4 = .slice ao n c ∧ (scriptB (ops.take (k + 1))).length = n := by obtain ⟨ao, n, c, e, h, _⟩ := hr4; exact ⟨ao, n, c, e, h⟩
      subst hn4
      generalize hB : scriptB (ops.take (k + 1)) = B at *
      have HR4 := hide hr4
      have HK4 := hide (((unhide HK2).trans (unhide HK3) (by simp)).trans k4 (by simp))
      have HW4 := hide (((unhide HW2).kept (unhide HK3) (by simp) (by simp)).kept k4 (by simp) (by simp))
      have HD4 := hide (fun x (hx : x ∈ blk (.slice ao4 B.length c4)) => (by
        have h5 := hb4' x hx
        have h6 := (unhide HK3).size
        have h7 := (unhide HW2).lt
        exact ⟨by omega, fun h => by have := (unhide HW2).ownlt h; omega⟩ : x ≠ w1.heap.size ∧ v2.ownBlock ≠ some x))
      have hBl : B.length ≤ 4194304 := by omega
      have HB := hide hB
      clear hr4 k4 hb4' hB hlb
      go_wp2_with fail
      refine (wlen_any w1.heap.size v2 B _ (unhide HW4)).mono ?_
      rintro e w5 ⟨rfl, hw5⟩
      subst w5
      go_wp2_with fail
      refine (wbytes_any w1.heap.size v2 B _ (unhide HW4) (by omega)).mono ?_
      rintro e w5 ⟨rfl, k5, h5⟩
      have HF5 := hide (rd_fresh h5 (unhide HW4).byte (by omega))
      have HK5 := hide k5
      clear k5 h5
      go_wp2_with fail
      refine (same_any _ _ B B _ (unhide HF5) (by exact (unhide HR4).old (unhide HK5) (by simp))).mono ?_
      rintro e w6 ⟨rfl, m6, hw6⟩
      have HR6 := hide (by rw [hw6]; exact ((unhide HR4).old (unhide HK5) (by simp)).drewN m6 : Rd w6 (.slice ao4 B.length c4) B)
      have HW6 := hide (by rw [hw6]; exact ((unhide HW4).kept (unhide HK5) (by simp) (by simp)).drewN m6 : WrAt w6 w1.heap.size v2 B)
      have HK6 := hide (by rw [hw6]; exact ((unhide HK4).trans (unhide HK5) (by simp)).drewN m6 : Kept [] w w6)
      clear hw6 m6
      go_wp2
      go_roundw
      case rel => exact ⟨k + 1, v2, B, ao4, c4, by omega, by go_num, rfl, hBl, hide (unhide HB).symm, HR6, HD4, HW6, HK6, HO2⟩
      case measure => simp [intOf]; omega
    · have hlt' : ¬ (k : Int) < (ops.length : Int) := by omega
      go_wp2_with fail
      refine (wlen_any w1.heap.size v bs _ (unhide HW)).mono ?_
      rintro e w6 ⟨rfl, hw6⟩
      subst w6
      go_wp2
      go_ret
      exact ⟨by simp, (unhide HK).below (Nat.le_refl _) (by simp)⟩
end Go.Proofs.Ytdnacefdihipnaa
