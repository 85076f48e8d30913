import Derived.Test.YtdnacefdihipnaaGen
namespace Go.Proofs.Ytdnacefdihipnaa
open Go.RowKit
set_option linter.unusedVariables false
set_option linter.unusedSimpArgs false

theorem script_at {ops : List OpD} {k : Nat} {o : OpD} (h : ops[k]? = some o) : (scriptB ops).drop (scriptB (ops.take k)).length = layB o.k o.x o.p ++ scriptB (ops.drop (k + 1)) := by
  obtain ⟨hk, rfl⟩ := List.getElem?_eq_some_iff.1 h
  have e : scriptB ops = scriptB (ops.take k) ++ (layB ops[k].k ops[k].x ops[k].p ++ scriptB (ops.drop (k + 1))) := by
    conv => lhs; rw [← List.take_append_drop k ops, scriptB_append, List.drop_eq_getElem_cons hk]
    simp only [scriptB, List.flatMap_cons]
  conv => lhs; rw [e]
  simp
theorem layB_out {k : Int} {x : Nat} {p : List Nat} (h : k < 1 ∨ 7 < k) : layB k x p = [] := by
  have h1 : k ≠ 1 := by omega
  have h2 : k ≠ 2 := by omega
  have h3 : k ≠ 3 := by omega
  have h4 : k ≠ 4 := by omega
  have h5 : k ≠ 5 := by omega
  have h6 : k ≠ 6 := by omega
  have h7 : k ≠ 7 := by omega
  simp [layB, h1, h2, h3, h4, h5, h6, h7]
theorem layB_ge {k : Int} {x : Nat} {p : List Nat} (h : 6 ≤ k ∧ k ≤ 7) : p.length ≤ (layB k x p).length := by
  have : k = 6 ∨ k = 7 := by omega
  rcases this with rfl | rfl
  · exact Nat.le_refl _
  · have hb : layB 7 x p = uv p.length ++ p := rfl
    rw [hb]; simp
theorem kinds_four (k : Int) : (k < 1) ∨ (¬ k < 1 ∧ 7 < k) ∨ (¬ k < 1 ∧ ¬ 7 < k ∧ ¬ 6 ≤ k) ∨ (¬ k < 1 ∧ ¬ 7 < k ∧ 6 ≤ k) := by omega
theorem cutN_lt (k : Int) (x : Nat) (h : x < 18446744073709551616) : cutN k x < 18446744073709551616 := by
  unfold cutN; repeat (first | (split; omega) | omega)

set_option maxRecDepth 100000 in
set_option maxHeartbeats 8000000 in
theorem wireBack_walk (sv : Value) (ops : List OpD) (sp : Int) (w : World) (hs : SRd w sv ops) (hl : (scriptB ops).length ≤ 4194304) (hp : ∀ o ∈ ops, o.p.length ≤ 1048576) (hlen : ops.length ≤ 1048576)
    (hsp : -9223372036854775808 ≤ sp ∧ sp ≤ 9223372036854775807) :
    Calls Try.prog 7 #[sv, .int .i64 sp] w fun e w' => e = .returned (.bool true) ∧ Below w.heap.size w w' := by
  have HS := hide hs
  have hbz : ∀ y ∈ scriptB ops, y < 256 := by
    intro y hy
    obtain ⟨o, ho, hy⟩ := List.mem_flatMap.1 hy
    obtain ⟨_, _, _, _, _, _, h3, _⟩ := id hs
    exact layB_byte _ _ _ (h3 o ho).2.2.2.2.2.byte y hy
  have hat := fun (k : Nat) (o : OpD) (h : ops[k]? = some o) => script_at h
  have hsu := fun (k : Nat) (o : OpD) (h : ops[k]? = some o) => scriptB_take_succ h
  have hle := fun (k : Nat) => scriptB_le (ops := ops) k
  obtain ⟨ao, cap, rfl, h1, h2, h2', h3, h4⟩ := hs
  have HP := hide hp
  have Hbz := hide hbz
  have Hat := hide hat
  have Hsu := hide hsu
  have Hle := hide hle
  have HZdef := hide (rfl : scriptB ops = scriptB ops)
  have hfull : (scriptB (ops.take ops.length)).length = (scriptB ops).length := by rw [List.take_length]
  have Hfull := hide hfull
  clear h3 h4 hp hbz hat hsu hle hfull
  go_enter Try.func7, Try.ntmps7
  go_wp2_with fail
  refine (awake_any _).mono ?_
  rintro e w1 ⟨rfl, k1⟩
  have HK1 := hide k1
  clear k1
  go_wp2_with fail
  refine (written_any _ ops _ (by exact (unhide HS).old (unhide HK1) (by simp)) (by omega) (by intro o ho; have := unhide HP o ho; omega)).mono ?_
  rintro e w2 ⟨g, rfl, hg, hz2, k2⟩
  have HG := hide hz2
  have HK2 := hide ((unhide HK1).trans k2 (by simp))
  clear hz2 k2 hg
  go_wp2_with fail
  refine (newReader_any _ (scriptB ops) _ (by exact rd_fresh (unhide HG) (unhide Hbz) (by omega))).mono ?_
  rintro e w3 ⟨b, gv, rfl, hb, hr3, hg3, k3⟩
  have HR3 := hide hr3
  have HK3 := hide ((unhide HK2).trans k3 (by simp))
  have hb3 : w.heap.size ≤ b := by have := (unhide HK2).size; omega
  clear hr3 hg3 k3 HG
  go_wp2_with fail
  go_loopw [6, 8, 9, 10, 20] (fun t6 t8 t9 t10 t20 wr => ∃ (k i : Nat), k ≤ ops.length ∧ i ≤ 4194304 ∧ t20 = .int .i64 k ∧ t6 = .int .i64 i ∧ Hid (i = (scriptB (ops.take k)).length) ∧ Hid (ReAt wr b gv (scriptB ops) i 0) ∧ Hid (Kept [] w wr)) (fun _ _ _ _ i _ => ops.length - (intOf i).toNat)
  case atStart => exact ⟨0, 0, Nat.zero_le _, Nat.zero_le _, rfl, rfl, hide (by simp [scriptB]), HR3, HK3⟩
  case round =>
    obtain ⟨k, i, hk, hi4, rfl, rfl, Hi, HR, HK⟩ := hrel
    by_cases hlt : k < ops.length
    · have hko : ops[k]? = some ops[k] := List.getElem?_eq_getElem hlt
      have hg := (unhide HS).get (unhide HK) k _ hko
      have hpl := unhide HP _ (List.getElem_mem hlt)
      have hza := unhide Hat k _ hko
      have hzs := unhide Hsu k _ hko
      have hle1 := unhide Hle (k + 1)
      generalize ops[k] = o at hg hpl hza hzs
      obtain ⟨bo, off, ao2, n2, c2, he, hpv, d0, d1, d2, d3, a1, hbl, hrd⟩ := hg
      cases he
      obtain ⟨ok, ox, on, opv, op⟩ := o
      simp only at hpv d0 d1 d2 a1 hrd hpl hza hzs
      subst hpv
      rw [← unhide Hi] at hza
      have hzl := congrArg List.length hzs
      rw [List.length_append, ← unhide Hi] at hzl
      have HRo := hide hrd
      have Hza := hide hza
      have a1' : (ox : Int) ≤ 18446744073709551615 := by omega
      have hkl : (k : Int) < (ops.length : Int) := by omega
      clear hrd hza hzs hko
      rcases kinds_four ok with q1 | ⟨q1, q2⟩ | ⟨q1, q2, q3⟩ | ⟨q1, q2, q3⟩
      · rw [layB_out (.inl q1)] at hzl
        have Hzl := hide hzl
        clear hzl Hza
        go_wp2
        go_roundw
        case rel => exact ⟨k + 1, i, by omega, hi4, by go_num, rfl, hide (by have := unhide Hzl; simp at this; omega), hide ((unhide HR).kept ((Kept.refl [] wr).alloc _) (by simp) (by simp)), hide ((unhide HK).alloc _)⟩
        case measure => simp [intOf]; omega
      · rw [layB_out (.inr q2)] at hzl
        have Hzl := hide hzl
        clear hzl Hza
        go_wp2
        go_roundw
        case rel => exact ⟨k + 1, i, by omega, hi4, by go_num, rfl, hide (by have := unhide Hzl; simp at this; omega), hide ((unhide HR).kept ((Kept.refl [] wr).alloc _) (by simp) (by simp)), hide ((unhide HK).alloc _)⟩
        case measure => simp [intOf]; omega
      · have hlong := layB_len ok ox op a1 (by omega)
        have HT := hide (rTake_back (n := askN ok sp op.length) (unhide Hza) (unhide HR).le (by omega) a1 (by omega) (fun h => by omega) (fun h => by omega))
        have haN : askN ok sp op.length = (op.length : Int) := by simp [askN]; omega
        rw [haN] at HT
        obtain ⟨L, hL⟩ : ∃ L, (layB ok ox op).length = L := ⟨_, rfl⟩
        rw [hL] at HT hzl hlong
        rw [if_pos (by omega), if_pos (by omega)] at HT
        have Hzl := hide hzl
        have HaN := hide haN
        have hcl := cutN_lt ok ox a1
        obtain ⟨z, hz⟩ : ∃ z, cutN ok ox = z := ⟨_, rfl⟩
        rw [hz] at HT hcl
        have Hz := hide hz
        clear hzl haN Hza hL hz
        go_wp2_with fail
        refine (ask_any ok ox on sp _ op _ (by exact (unhide HRo).old ((unhide HK).alloc _) (by simp))).mono ?_
        rintro e w4 ⟨rfl, k4⟩
        rw [unhide HaN]
        have hc4 := k4.heap (b := wr.heap.size) (heap_alloc_new wr _) (by simp)
        have HC4 := hide hc4
        have HR4 := hide (((unhide HR).kept ((Kept.refl [] wr).alloc _) (by simp) (by simp)).kept k4 (by simp) (by simp))
        have HK4 := hide (((unhide HK).alloc _).trans k4 (by simp))
        have hbr : b ≠ wr.heap.size := by have := (unhide HR).lt; omega
        clear k4 hc4
        go_wp2_with fail
        refine (take_any b gv _ i 0 ok ox (op.length : Int) _ _ (unhide HR4) (by omega)).mono ?_
        rintro e w5 ⟨rv, rfl, hr5, hr52, k5, hb5⟩
        rw [unhide HT] at hr5 hr52 ⊢
        have hc5 := k5.heap (unhide HC4) (by simpa using Ne.symm hbr)
        have e0 : w5.cell? ⟨wr.heap.size, 0, none⟩ = some (.int .i64 ok) := by rw [cell_of_row _ _ _ _ _ _ hc5]; rfl
        have e1 : w5.cell? ⟨wr.heap.size, 1, none⟩ = some (.int .u64 ox) := by rw [cell_of_row _ _ _ _ _ _ hc5]; rfl
        have e2 : w5.cell? ⟨wr.heap.size, 2, none⟩ = some (.int .i64 on) := by rw [cell_of_row _ _ _ _ _ _ hc5]; rfl
        have e3 : w5.cell? ⟨wr.heap.size, 3, none⟩ = some (.slice ao2 n2 c2) := by rw [cell_of_row _ _ _ _ _ _ hc5]; rfl
        have HR5 := hide hr52
        have HK5 := hide ((unhide HK4).trans k5 (by simpa using hb3))
        obtain ⟨ao5, n5, c5, rfl, hn5, _⟩ := hr5
        simp only [List.length_nil] at hn5
        subst hn5
        clear hr52 k5 hb5 hc5
        go_wp2_with fail
        refine (cut_any ok ox on _ _ a1).mono ?_
        rintro e w6 ⟨rfl, k6⟩
        rw [unhide Hz]
        have HR6 := hide ((unhide HR5).kept k6 (by simp) (by simp))
        have HK6 := hide ((unhide HK5).trans k6 (by simp))
        clear k6 e0 e1 e2 e3
        go_wp2_with fail
        refine (rerr_any b gv _ (i + L) 0 _ (unhide HR6)).mono ?_
        rintro e w7 ⟨rfl, hw7⟩
        subst w7
        go_wp2_with fail
        refine (rat_any b gv _ (i + L) 0 _ (unhide HR6)).mono ?_
        rintro e w7 ⟨rfl, hw7⟩
        subst w7
        have tl : ¬ ((i + L : Nat) : Int) < (i : Int) := by omega
        have tl2 : ¬ ((i : Int) + L) < (i : Int) := by omega
        go_wp2_with fail
        refine (rat_any b gv _ (i + L) 0 _ (unhide HR6)).mono ?_
        rintro e w7 ⟨rfl, hw7⟩
        subst w7
        go_wp2
        go_roundw
        case rel => exact ⟨k + 1, i + L, by omega, by have := unhide Hzl; omega, by go_num, by go_num, hide (by have := unhide Hzl; omega), HR6, HK6⟩
        case measure => simp [intOf]; omega
      · have hlong := layB_len ok ox op a1 (by omega)
        have HT := hide (rTake_back (n := askN ok sp op.length) (unhide Hza) (unhide HR).le (by omega) a1 (by omega) (fun h => by simp [askN, h]) (fun h => by simp only [askN]; split <;> omega))
        obtain ⟨N, hN⟩ : ∃ N, askN ok sp op.length = N := ⟨_, rfl⟩
        have haB : -9223372036854775808 ≤ N ∧ N ≤ 9223372036854775807 := by rw [← hN]; simp only [askN]; split <;> omega
        rw [hN] at HT
        have hge := layB_ge (x := ox) (p := op) (show 6 ≤ ok ∧ ok ≤ 7 from by omega)
        obtain ⟨L, hL⟩ : ∃ L, (layB ok ox op).length = L := ⟨_, rfl⟩
        rw [hL] at HT hzl hlong hge
        rw [if_neg (by omega), if_neg (by omega)] at HT
        have Hzl := hide hzl
        have HaN := hide hN
        clear hzl hN Hza hL
        go_wp2_with fail
        refine (ask_any ok ox on sp _ op _ (by exact (unhide HRo).old ((unhide HK).alloc _) (by simp))).mono ?_
        rintro e w4 ⟨rfl, k4⟩
        rw [unhide HaN]
        have hc4 := k4.heap (b := wr.heap.size) (heap_alloc_new wr _) (by simp)
        have HC4 := hide hc4
        have HR4 := hide (((unhide HR).kept ((Kept.refl [] wr).alloc _) (by simp) (by simp)).kept k4 (by simp) (by simp))
        have HK4 := hide (((unhide HK).alloc _).trans k4 (by simp))
        have hbr : b ≠ wr.heap.size := by have := (unhide HR).lt; omega
        clear k4 hc4
        go_wp2_with fail
        refine (take_any b gv _ i 0 ok ox N _ _ (unhide HR4) haB).mono ?_
        rintro e w5 ⟨rv, rfl, hr5, hr52, k5, hb5⟩
        rw [unhide HT] at hr5 hr52 ⊢
        have hc5 := k5.heap (unhide HC4) (by simpa using Ne.symm hbr)
        have e0 : w5.cell? ⟨wr.heap.size, 0, none⟩ = some (.int .i64 ok) := by rw [cell_of_row _ _ _ _ _ _ hc5]; rfl
        have e1 : w5.cell? ⟨wr.heap.size, 1, none⟩ = some (.int .u64 ox) := by rw [cell_of_row _ _ _ _ _ _ hc5]; rfl
        have e2 : w5.cell? ⟨wr.heap.size, 2, none⟩ = some (.int .i64 on) := by rw [cell_of_row _ _ _ _ _ _ hc5]; rfl
        have e3 : w5.cell? ⟨wr.heap.size, 3, none⟩ = some (.slice ao2 n2 c2) := by rw [cell_of_row _ _ _ _ _ _ hc5]; rfl
        have HR5 := hide hr52
        have HK5 := hide ((unhide HK4).trans k5 (by simpa using hb3))
        have HRv := hide hr5
        obtain ⟨ao5, n5, c5, rfl, hn5, _⟩ := hr5
        subst hn5
        clear hr52 k5 hb5 hc5
        go_wp2_with fail
        refine (same_any _ _ op op _ (unhide HRv) (by exact (unhide HRo).old (unhide HK5) (by simp))).mono ?_
        rintro e w6 ⟨rfl, m6, hw6⟩
        have HR6 := hide (by rw [hw6]; exact (unhide HR5).drewN m6 : ReAt w6 b gv (scriptB ops) (i + L) 0)
        have HK6 := hide (by rw [hw6]; exact (unhide HK5).drewN m6 : Kept [] w w6)
        clear hw6 m6 e0 e1 e2 e3
        go_wp2_with fail
        refine (rerr_any b gv _ (i + L) 0 _ (unhide HR6)).mono ?_
        rintro e w7 ⟨rfl, hw7⟩
        subst w7
        go_wp2_with fail
        refine (rat_any b gv _ (i + L) 0 _ (unhide HR6)).mono ?_
        rintro e w7 ⟨rfl, hw7⟩
        subst w7
        have tl : ¬ ((i + L : Nat) : Int) < (i : Int) + op.length := by omega
        have tl2 : ¬ ((i : Int) + L) < (i : Int) + op.length := by omega
        go_wp2_with fail
        refine (rat_any b gv _ (i + L) 0 _ (unhide HR6)).mono ?_
        rintro e w7 ⟨rfl, hw7⟩
        subst w7
        go_wp2
        go_roundw
        case rel => exact ⟨k + 1, i + L, by omega, by have := unhide Hzl; omega, by go_num, by go_num, hide (by have := unhide Hzl; omega), HR6, HK6⟩
        case measure => simp [intOf]; omega
    · have hkn : k = ops.length := by omega
      subst hkn
      have hie : i = (scriptB ops).length := by rw [unhide Hi, unhide Hfull]
      subst hie
      have hlt' : ¬ (ops.length : Int) < (ops.length : Int) := by omega
      go_wp2_with fail
      refine (rdone_any b gv _ _ 0 _ (unhide HR)).mono ?_
      rintro e w4 ⟨rfl, m4, hw4⟩
      rw [show doneE (scriptB ops) (scriptB ops).length 0 = 0 from by simp [doneE]]
      have HK4 := hide (by rw [hw4]; exact (unhide HK).drewN m4 : Kept [] w w4)
      clear hw4 m4
      go_wp2_with fail
      refine (written_any _ ops _ (by exact (unhide HS).old (unhide HK4) (by simp)) (by omega) (by intro o ho; have := unhide HP o ho; omega)).mono ?_
      rintro e w5 ⟨g5, rfl, hg5, hz5, k5⟩
      have HK5 := hide ((unhide HK4).trans k5 (by simp))
      clear hz5 k5 hg5
      go_wp2
      go_ret
      exact ⟨by simp, (unhide HK5).below (Nat.le_refl _) (by simp)⟩
end Go.Proofs.Ytdnacefdihipnaa
