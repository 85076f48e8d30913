import Derived.Test.YtkcanelboloihabEZero
import Derived.Test.YtkcanelboloihabEDec2
import Derived.Deep.RegionHeld3
import Derived.Test.YtkcanelboloihabRBlob
import Derived.Test.YtkcanelboloihabEDecB
import Derived.Laws.StructEq
import Derived.Test.YtkcanelboloihabEFits
import Derived.Test.YtkcanelboloihabESameB
import Derived.Lib.SlBytesConst
import Derived.Test.YtkcanelboloihabQTail
import Derived.Deep.MidRow
import Derived.Test.YtkcanelboloihabQKeep
import Derived.OrdersHeld
import Derived.Test.YtkcanelboloihabRowz
import Derived.Test.YtkcanelboloihabQMid
import Derived.Test.YtkcanelboloihabBase
import Derived.Test.YtkcanelboloihabRows
import Derived.ProofKit
import Derived.OpenShut
import Derived.Deep.Slices
import Derived.SizedLaws
import Derived.Test.YtkcanelboloihabEBat
import Derived.Test.YtkcanelboloihabERoot
namespace Go.Proofs.Ytkcanelboloihab
open Go.RowKit Go.BigFrame
set_option linter.unusedVariables false
set_option linter.unusedSimpArgs false

set_option maxRecDepth 100000 in
set_option maxHeartbeats 1000000 in
theorem eru64_any (b : Nat) (gv : Value) (p : List Nat) (i e : Nat) (w : World) (h : ReAt w b gv p i e) :
    Calls Try.prog 33 #[.pointer (some ⟨b, 0, none⟩)] w fun r w' => r = .returned (.int .u64 (rNum p i e 8).1) ∧ ReAt w' b gv p (rNum p i e 8).2.1 (rNum p i e 8).2.2 ∧ Kept [b] w w' := by
  have HR := hide h
  clear h
  go_enter Try.func33, Try.ntmps33
  go_wp2_with (go_at_call 48; go_must (refine (rnum_any b gv p i e 8 _ (unhide HR) (by omega)).mono ?_; rintro r w1 ⟨rfl, h1, h2⟩; have H1 := hide h1; have H2 := hide h2; clear h1 h2))
  go_ret
  exact ⟨rfl, unhide H1, unhide H2⟩

theorem results_row_tmp {P : Program} {fn : Func} {p q : Tmp} {ty : TypeId} (h : fn.results = #[.cell p ty, .tmp q]) (tmps : Array Value) (w : World) (g : Nat) (t : TypeId) (cs : Array Value) (fr : Nat × Nat) (d : TypeDesc)
    (hp : tmps.getD p undef = .pointer (some ⟨g, 0, none⟩)) (hg : w.heap[g]? = some (.cells cs t fr))
    (hu : P.underlying ty = some d) (hd : (match d with | .struct _ | .array _ _ => true | _ => false) = true) (hi : (P.info? ty).map (·.size) = some cs.size) (v : Value) (hq : tmps.getD q undef = v) :
    (results fn tmps).run P w = .ok (.tuple #[.agg cs, v]) w := by
  have hp' : tmps[p]?.getD undef = .pointer (some ⟨g, 0, none⟩) := by simpa using hp
  have hq' : tmps[q]?.getD undef = v := by simpa using hq
  simp [results, h, hp', hq', asAddr, run_loadVar_row w g t ty cs fr d hg hu hd hi]
def z32 : List Nat := List.replicate 32 0
theorem z32_len : z32.length = 32 := by simp [z32]
theorem z32_drop (k : Nat) : z32.drop k = List.replicate (32 - k) 0 := by unfold z32; rw [List.drop_replicate]
def zRoot : Array Value := (rootC 0 z32 z32).toArray
theorem zRoot_eq : Try.zeroCells29 = zRoot := by unfold zRoot rootC z32; rfl
theorem Try.size_root : (Try.prog.info? 29).map (·.size) = some 65 := by kernel_rfl
theorem rootC_one (s : Nat) (l m : List Nat) : (rootC s l m).toArray.all (·.oneCell') = true := by
  rw [Array.all_eq_true_iff_forall_mem]; intro v hv; simp [rootC] at hv; rcases hv with rfl | ⟨x, _, rfl⟩ | ⟨x, _, rfl⟩ <;> rfl
theorem rootC_size (s : Nat) {l m : List Nat} (hl : l.length = 32) (hm : m.length = 32) : (Try.prog.info? 29).map (·.size) = some (rootC s l m).toArray.size := by
  rw [Try.size_root]; simp [rootC, hl, hm]
theorem zRoot_one : Try.zeroCells29.all (·.oneCell') = true := by rw [zRoot_eq]; exact rootC_one _ _ _
theorem zRoot_size2 : (Try.prog.info? 29).map (·.size) = some Try.zeroCells29.size := by rw [zRoot_eq]; exact Try.size_root
theorem zRoot_size : (Try.prog.info? 29).map (·.size) = some zRoot.size := Try.size_root

theorem rootSet (s : Nat) : Try.zeroCells29.setIfInBounds 0 (.int .u64 (s : Int)) = (rootC s z32 z32).toArray := by rw [zRoot_eq]; unfold zRoot rootC; simp
theorem rootSet_one (s : Nat) : (Try.zeroCells29.setIfInBounds 0 (.int .u64 (s : Int))).all (·.oneCell') = true := by rw [rootSet]; exact rootC_one _ _ _
theorem rootSet_size (s : Nat) : (Try.prog.info? 29).map (·.size) = some (Try.zeroCells29.setIfInBounds 0 (.int .u64 (s : Int))).size := by rw [rootSet]; exact rootC_size s z32_len z32_len

theorem copy_log {w : World} {g s n : Nat} {l m q : List Nat} {ao : Option Addr} {c : Nat} (hg : w.heap[g]? = some (.cells (rootC s l m).toArray 29 (0, 0))) (hl : l.length = 32) (hm : m.length = 32) (hr : Rd w (.slice ao n c) q) (hn : q.length = n) (h0 : 0 < n) (h1 : n ≤ 32) :
    (Builtin.copy_ #[30, 30] 3 #[.slice (some ⟨g, 1, none⟩) 32 32, .slice ao n c]).run Try.prog w = .ok (goInt n) (w.setRow g (rootC s (q ++ l.drop n) m).toArray) := by
  subst hn
  obtain ⟨ad, rfl, hc⟩ := hr.src (by simpa using h0)
  have h9 := run_copy_row (P := Try.prog) w 30 30 3 5 g 1 32 32 ad q.length c (rootC s l m).toArray 29 (q.map u8) Try.underlying30 Try.size5 hg (by rw [List.length_map]; exact (Nat.min_eq_left h1).symm) hc (by simp [rootC, hl, hm]; omega) (u8_oneCell q)
  rw [List.length_map] at h9
  rw [h9]
  have e9 : (rootC s l m).toArray.toList.take 1 ++ q.map u8 ++ (rootC s l m).toArray.toList.drop (1 + q.length) = rootC s (q ++ l.drop q.length) m := by
    unfold rootC
    rw [List.toList_toArray, Nat.add_comm 1, List.drop_succ_cons, List.take_succ_cons, List.take_zero, List.drop_append_of_le_length (by simp [hl]; omega)]
    simp
  rw [e9]
theorem copy_map {w : World} {g s n : Nat} {l m q : List Nat} {ao : Option Addr} {c : Nat} (hg : w.heap[g]? = some (.cells (rootC s l m).toArray 29 (0, 0))) (hl : l.length = 32) (hm : m.length = 32) (hr : Rd w (.slice ao n c) q) (hn : q.length = n) (h0 : 0 < n) (h1 : n ≤ 32) :
    (Builtin.copy_ #[30, 30] 3 #[.slice (some ⟨g, 33, none⟩) 32 32, .slice ao n c]).run Try.prog w = .ok (goInt n) (w.setRow g (rootC s l (q ++ m.drop n)).toArray) := by
  subst hn
  obtain ⟨ad, rfl, hc⟩ := hr.src (by simpa using h0)
  have h9 := run_copy_row (P := Try.prog) w 30 30 3 5 g 33 32 32 ad q.length c (rootC s l m).toArray 29 (q.map u8) Try.underlying30 Try.size5 hg (by rw [List.length_map]; exact (Nat.min_eq_left h1).symm) hc (by simp [rootC, hl, hm]; omega) (u8_oneCell q)
  rw [List.length_map] at h9
  rw [h9]
  have e9 : (rootC s l m).toArray.toList.take 33 ++ q.map u8 ++ (rootC s l m).toArray.toList.drop (33 + q.length) = rootC s l (q ++ m.drop q.length) := by
    unfold rootC
    rw [List.toList_toArray, show 33 + q.length = (32 + q.length) + 1 by omega, List.drop_succ_cons, List.take_succ_cons, List.take_left' (by simp [hl]), ← List.drop_drop, List.drop_left' (by simp [hl])]
    simp
  rw [e9]

def pad32 (q : List Nat) : List Nat := q ++ List.replicate (32 - q.length) 0
def decR (z : Int) (p : List Nat) : Nat × List Nat × List Nat × Nat :=
  if widthB z = false then (0, z32, z32, 1) else if (p.length : Int) ≠ 8 + 2 * z then (0, z32, z32, 3)
  else (beL (p.take 8), pad32 ((p.drop 8).take z.toNat), pad32 ((p.drop (8 + z.toNat)).take z.toNat), 0)

set_option maxRecDepth 100000 in
set_option maxHeartbeats 2000000 in
theorem decodeRoot_any (z : Int) (v : Value) (p : List Nat) (w : World) (hz : -9223372036854775808 ≤ z ∧ z ≤ 9223372036854775807) (h : Rd w v p) :
    Calls Try.prog 14 #[.int .i64 z, v] w fun e w' => e = .returned (.tuple #[.agg (rootC (decR z p).1 (decR z p).2.1 (decR z p).2.2.1).toArray, .int .i64 (decR z p).2.2.2]) ∧ Kept [] w w' := by
  have H := hide h
  obtain ⟨a1, n1, c1, hv1, hn1, _, ⟨_, hlen⟩, _⟩ := id h
  subst hv1
  subst hn1
  clear h
  obtain ⟨D, hD⟩ : ∃ D, decR z p = D := ⟨_, rfl⟩
  rw [hD]
  have HD := hide hD
  clear hD
  unfold decR at HD
  go_enter Try.func14, Try.ntmps14
  go_wp2_with fail
  rw [zRoot_eq]
  have HA := hide (heap_alloc_new w (.cells zRoot 29))
  have HKA := hide ((Kept.refl [] w).alloc (.cells zRoot 29))
  obtain ⟨W, hW⟩ : ∃ W, w.alloc (.cells zRoot 29) = W := ⟨_, rfl⟩
  rw [hW] at HA HKA ⊢
  clear hW
  have HSR := hide zRoot_size
  refine Calls.mono (ewidth_any z _ hz) ?_
  rintro e w1 ⟨rfl, rfl⟩
  by_cases hw : widthB z = false
  · rw [hw]
    have HE := hide (by have h9 := unhide HD; rw [if_pos hw] at h9; exact h9.symm : D = (0, z32, z32, 1))
    clear hw
    go_wp2_with (refine wpList_store_row rfl 29 _ _ rfl w.heap.size Try.zeroCells29 rfl rfl _ zRoot (unhide HA) zRoot_size2 rfl zRoot_one ?_)
    refine bodyPost_ret (v := .tuple #[.agg Try.zeroCells29, .int .i64 1]) ?_ rfl ⟨by rw [unhide HE, zRoot_eq]; rfl, (unhide HKA).setRow (Or.inr (Nat.le_refl _)) _⟩
    exact results_row_tmp rfl _ _ w.heap.size _ _ (0, 0) _ rfl (setRow_heap _ _ _ _ _ _ (unhide HA)) Try.underlying29 rfl zRoot_size2 _ rfl
  have HD1 := hide (by have h9 := unhide HD; rw [if_neg hw] at h9; exact h9)
  replace hw : widthB z = true := by simpa using hw
  rw [hw]
  have hwd : 1 ≤ z ∧ z ≤ 32 := by simpa [widthB] using hw
  clear hw HD
  obtain ⟨k, rfl⟩ : ∃ k : Nat, z = k := ⟨z.toNat, by omega⟩
  by_cases hn : (p.length : Int) ≠ 8 + 2 * (k : Int)
  · have hn' : ((p.length : Int) != 8 + 2 * (k : Int)) = true := by rw [bne_iff_ne]; exact hn
    have HE := hide (by have h9 := unhide HD1; rw [if_pos hn] at h9; exact h9.symm : D = (0, z32, z32, 3))
    clear hn
    go_wp2_with (refine wpList_store_row rfl 29 _ _ rfl w.heap.size Try.zeroCells29 rfl rfl _ zRoot (unhide HA) zRoot_size2 rfl zRoot_one ?_)
    refine bodyPost_ret (v := .tuple #[.agg Try.zeroCells29, .int .i64 3]) ?_ rfl ⟨by rw [unhide HE, zRoot_eq]; rfl, (unhide HKA).setRow (Or.inr (Nat.le_refl _)) _⟩
    exact results_row_tmp rfl _ _ w.heap.size _ _ (0, 0) _ rfl (setRow_heap _ _ _ _ _ _ (unhide HA)) Try.underlying29 rfl zRoot_size2 _ rfl
  have HD2 := hide (by have h9 := unhide HD1; rw [if_neg hn] at h9; exact h9)
  clear HD1
  have hpl : p.length = 8 + 2 * k := by omega
  clear hn
  have hn' : ((p.length : Int) != 8 + 2 * (k : Int)) = false := by rw [bne_eq_false_iff_eq]; omega
  have HPL := hide hpl
  clear hpl
  go_wp2_with fail
  refine Calls.mono (newReader_any _ p w1 ((unhide H).old (unhide HKA) (by simp))) ?_
  rintro r w2 ⟨b, gv, rfl, hb, r2, g2, k2⟩
  have hs1 : w.heap.size < w1.heap.size := lt_of_block (unhide HA)
  have HA2 := hide (k2.heap (unhide HA) (by simp))
  have HK2 := hide ((unhide HKA).trans k2 (by simp))
  have HR2 := hide r2
  have HG2 := hide g2
  clear r2 g2 k2
  go_wp2_with fail
  refine Calls.mono (eru64_any b gv p 0 0 w2 (unhide HR2)) ?_
  rintro r w3 ⟨rfl, r3, k3⟩
  have HN := hide (by have h9 := unhide HPL; unfold rNum; rw [if_neg (by simp), if_neg (by omega), List.drop_zero] : rNum p 0 0 8 = (beL (p.take 8), 0 + 8, 0))
  rw [unhide HN] at r3 ⊢
  simp only [Nat.zero_add] at r3 ⊢
  clear HN
  have hnb : w.heap.size ≠ b := by omega
  have HA3 := hide (k3.heap (unhide HA2) (by simpa using hnb))
  have HK3 := hide ((unhide HK2).trans k3 (by simp; omega))
  have HR3 := hide r3
  have hgv3 := hide (fun x hx => Nat.lt_of_lt_of_le (unhide HG2 x hx).2 k3.size : ∀ x ∈ blk gv, x < w3.heap.size)
  clear r3 k3
  obtain ⟨s, hs⟩ : ∃ s, beL (p.take 8) = s := ⟨_, rfl⟩
  rw [hs] at HD2 ⊢
  clear hs
  have kal := ((Kept.refl [] w3).alloc (.cells Try.zeroCells29 29)).setRow (g := w3.heap.size) (Or.inr (Nat.le_refl _)) (Try.zeroCells29.setIfInBounds 0 (.int .u64 (s : Int)))
  have HZN := hide (heap_alloc_new w3 (.cells Try.zeroCells29 29))
  have HG4 := hide (by have h9 := setRow_heap (w3.alloc (.cells Try.zeroCells29 29)) w3.heap.size _ (Try.zeroCells29.setIfInBounds 0 (.int .u64 (s : Int))) 29 (0, 0) (unhide HZN); rw [rootSet] at h9 ⊢; exact h9 : ((w3.alloc (.cells Try.zeroCells29 29)).setRow w3.heap.size (Try.zeroCells29.setIfInBounds 0 (.int .u64 (s : Int)))).heap[w3.heap.size]? = some (.cells (rootC s z32 z32).toArray 29 (0, 0)))
  have HA4 := hide (kal.heap (unhide HA3) (by simp))
  have HK4 := hide ((unhide HK3).trans kal (by simp))
  have HR4 := hide ((unhide HR3).kept kal (by simp) (by simp))
  have hgl := hide (lt_of_block (unhide HR3).at_)
  have hal := hide (lt_of_block (unhide HA3))
  clear kal
  go_wp2_with (refine wpList_store_row rfl 29 _ _ rfl w3.heap.size (Try.zeroCells29.setIfInBounds 0 (.int .u64 (s : Int))) rfl rfl _ Try.zeroCells29 (unhide HZN) (rootSet_size s) (by simp) (rootSet_one s) ?_)
  obtain ⟨W4, hW4⟩ : ∃ W, (w3.alloc (.cells Try.zeroCells29 29)).setRow w3.heap.size (Try.zeroCells29.setIfInBounds 0 (.int .u64 (s : Int))) = W := ⟨_, rfl⟩
  rw [hW4] at HG4 HA4 HK4 HR4 ⊢
  clear hW4 HZN
  have HKD := hide (unhide HK4).drew
  have HRQ := hide (by unfold rRaw; have h9 := unhide HPL; rw [if_neg (by simp), if_neg (by omega), if_neg (by omega), Int.toNat_natCast] : rRaw p 8 0 (k : Int) = ((p.drop 8).take k, 8 + k, 0))
  have HQL := hide (by have h9 := unhide HPL; rw [List.length_take, List.length_drop]; omega : ((p.drop 8).take k).length = k)
  have HRQ2 := hide (by unfold rRaw; have h9 := unhide HPL; rw [if_neg (by simp), if_neg (by omega), if_neg (by omega), Int.toNat_natCast] : rRaw p (8 + k) 0 (k : Int) = ((p.drop (8 + k)).take k, 8 + k + k, 0))
  have HQL2 := hide (by have h9 := unhide HPL; rw [List.length_take, List.length_drop]; omega : ((p.drop (8 + k)).take k).length = k)
  have hGN := hide (fun x hx => Nat.ne_of_lt (unhide hgv3 x hx) : ∀ x ∈ blk gv, x ≠ w3.heap.size)
  have hkI : -9223372036854775808 ≤ (k : Int) ∧ (k : Int) ≤ 9223372036854775807 := hz
  have HR4d := hide ((unhide HR4).kept ((Kept.refl [] W4).drew) (by simp) (by simp))
  have HG4d := hide (show W4.drew.heap[w3.heap.size]? = _ from unhide HG4)
  have HA4d := hide (show W4.drew.heap[w.heap.size]? = _ from unhide HA4)
  simp only [Act.put]
  have hneb := hide (by have := unhide hgl; omega : w3.heap.size ≠ b)
  have hwb := hide hnb
  go_region_held3 (fun _ => True) (trivial) (first
    | (go_at_call 34; refine (rraw_any b gv p 8 0 (k : Int) _ (by exact unhide HR4d) hkI).mono ?_; rintro e w5 ⟨v5, rfl, rd5, r5, k5, n5⟩; rw [unhide HRQ] at rd5 r5; obtain ⟨a5, m5, c5, hu5, hm5, _⟩ := id rd5; rw [unhide HQL] at hm5; subst hu5; subst hm5; have HG5 := hide (k5.heap (unhide HG4d) (by simpa using unhide hneb)); have HA5 := hide (k5.heap (unhide HA4d) (by simpa using unhide hwb)); have HK5 := hide ((unhide HKD).trans k5 (by simp; omega)); have HR5 := hide r5; clear k5 r5 n5; have hcp := copy_log (unhide HG5) z32_len z32_len rd5 (unhide HQL) (by omega) (by omega); clear rd5))
  clear hcp
  obtain ⟨q, hq⟩ : ∃ q, (p.drop 8).take k = q := ⟨_, rfl⟩
  rw [Int.toNat_natCast, hq] at HD2
  rw [hq] at HQL ⊢
  clear hq HRQ
  have HL1 := hide (by rw [List.length_append, unhide HQL, List.length_drop, z32_len]; omega : (q ++ z32.drop k).length = 32)
  have HP1 := hide (by unfold pad32; rw [unhide HQL, z32_drop] : pad32 q = q ++ z32.drop k)
  rw [unhide HP1] at HD2
  obtain ⟨l, hl⟩ : ∃ l, q ++ z32.drop k = l := ⟨_, rfl⟩
  rw [hl] at HD2 HL1 ⊢
  clear hl HP1
  have kst := (Kept.refl [w3.heap.size] w5).setRow (g := w3.heap.size) (Or.inl (by simp)) (rootC s l z32).toArray
  have HG6 := hide (setRow_heap w5 w3.heap.size _ (rootC s l z32).toArray 29 (0, 0) (unhide HG5))
  have HA6 := hide (kst.heap (unhide HA5) (by simp; have := unhide hal; omega))
  have HK6 := hide ((unhide HK5).setRow (g := w3.heap.size) (Or.inr (by have := unhide hal; omega)) (rootC s l z32).toArray)
  have HR6 := hide ((unhide HR5).kept kst (by have := unhide hneb; simp; omega) (fun x hx => by simpa using unhide hGN x hx))
  clear kst
  obtain ⟨W6, hW6⟩ : ∃ W, w5.setRow w3.heap.size (rootC s l z32).toArray = W := ⟨_, rfl⟩
  rw [hW6] at HG6 HA6 HK6 HR6 ⊢
  clear hW6 HG4 HG4d HG5 HA5 HA4 HA4d HR4 HR4d HR5
  have HKD6 := hide (unhide HK6).drew
  have HR6d := hide ((unhide HR6).kept ((Kept.refl [] W6).drew) (by simp) (by simp))
  have HG6d := hide (show W6.drew.heap[w3.heap.size]? = _ from unhide HG6)
  have HA6d := hide (show W6.drew.heap[w.heap.size]? = _ from unhide HA6)
  go_wp2_with fail
  go_region_held3 (fun _ => True) (trivial) (first
    | (go_at_call 34; refine (rraw_any b gv p (8 + k) 0 (k : Int) _ (by exact unhide HR6d) hkI).mono ?_; rintro e w7 ⟨v7, rfl, rd7, r7, k7, n7⟩; rw [unhide HRQ2] at rd7 r7; obtain ⟨a7, m7, c7, hu7, hm7, _⟩ := id rd7; rw [unhide HQL2] at hm7; subst hu7; subst hm7; have HG7 := hide (k7.heap (unhide HG6d) (by simpa using unhide hneb)); have HA7 := hide (k7.heap (unhide HA6d) (by simpa using unhide hwb)); have HK7 := hide ((unhide HKD6).trans k7 (by simp; omega)); clear k7 r7 n7; have hcp := copy_map (unhide HG7) (unhide HL1) z32_len rd7 (unhide HQL2) (by omega) (by omega); clear rd7))
  clear hcp
  obtain ⟨q2, hq2⟩ : ∃ q, (p.drop (8 + k)).take k = q := ⟨_, rfl⟩
  rw [hq2] at HD2 HQL2 ⊢
  clear hq2 HRQ2
  have HL2 := hide (by rw [List.length_append, unhide HQL2, List.length_drop, z32_len]; omega : (q2 ++ z32.drop k).length = 32)
  have HP2 := hide (by unfold pad32; rw [unhide HQL2, z32_drop] : pad32 q2 = q2 ++ z32.drop k)
  rw [unhide HP2] at HD2
  obtain ⟨m, hm⟩ : ∃ m, q2 ++ z32.drop k = m := ⟨_, rfl⟩
  rw [hm] at HD2 HL2 ⊢
  clear hm HP2
  have kst := (Kept.refl [w3.heap.size] w7).setRow (g := w3.heap.size) (Or.inl (by simp)) (rootC s l m).toArray
  have HG8 := hide (setRow_heap w7 w3.heap.size _ (rootC s l m).toArray 29 (0, 0) (unhide HG7))
  have HA8 := hide (kst.heap (unhide HA7) (by simp; have := unhide hal; omega))
  have HK8 := hide ((unhide HK7).setRow (g := w3.heap.size) (Or.inr (by have := unhide hal; omega)) (rootC s l m).toArray)
  clear kst
  obtain ⟨W8, hW8⟩ : ∃ W, w7.setRow w3.heap.size (rootC s l m).toArray = W := ⟨_, rfl⟩
  rw [hW8] at HG8 HA8 HK8 ⊢
  clear hW8
  have HSZ := hide (rootC_size s (unhide HL1) (unhide HL2))
  have HS2 := hide (by have h9 := (unhide HSZ).symm.trans zRoot_size; exact (Option.some.inj h9).symm : zRoot.size = (rootC s l m).toArray.size)
  have HON := hide (rootC_one s l m)
  obtain ⟨A, hA⟩ : ∃ A, (rootC s l m).toArray = A := ⟨_, rfl⟩
  rw [hA] at HG8 HSZ HS2 HON
  have HAA := hide hA
  clear hA
  go_wp2_with (first
    | (refine wpList_load_row rfl 29 _ rfl w3.heap.size rfl _ A (0, 0) _ (unhide HG8) Try.underlying29 rfl (unhide HSZ) ?_)
    | (refine wpList_store_row rfl 29 _ _ rfl w.heap.size A rfl rfl _ zRoot (unhide HA8) (unhide HSZ) (unhide HS2) (unhide HON) ?_))
  refine bodyPost_ret (v := .tuple #[.agg A, .int .i64 0]) ?_ rfl ⟨by rw [← unhide HD2, ← unhide HAA]; rfl, (unhide HK8).setRow (Or.inr (Nat.le_refl _)) _⟩
  exact results_row_tmp rfl _ _ w.heap.size _ _ (0, 0) _ rfl (setRow_heap _ _ _ _ _ _ (unhide HA8)) Try.underlying29 rfl (unhide HSZ) _ rfl
end Go.Proofs.Ytkcanelboloihab
namespace Go.Proofs.Ytkcanelboloihab
set_option linter.unusedVariables false
set_option linter.unusedSimpArgs false
theorem fuv_short (x : Nat) : ∀ k a n, n < (uv x).length → (fuv ((uv x).take n) k a).2 = 0 := by
  induction x using uv.induct with
  | case1 x h => intro k a n hn; rw [uv_lt h] at hn ⊢; simp at hn; subst hn; simp [fuv]
  | case2 x h ih =>
    intro k a n hn
    rw [uv_ge (by omega)] at hn ⊢
    cases n with
    | zero => simp [fuv]
    | succ n =>
      simp only [List.take_succ_cons, List.length_cons] at hn ⊢
      rw [fuv]
      split
      · rfl
      · rw [if_pos (by omega)]
        exact ih _ _ n (by omega)

theorem fuv_back (x : Nat) : ∀ k a r, x * 128 ^ k < 18446744073709551616 → k ≤ 9 → (0 < k → 0 < x) → fuv (uv x ++ r) k a = (a + x * 128 ^ k, k + (uv x).length) := by
  have h9 : (128 : Nat) ^ 9 = 9223372036854775808 := (by decide)
  induction x using uv.induct with
  | case1 x h =>
    intro k a r hx hk h0
    rw [uv_lt h]
    simp only [List.cons_append, List.nil_append, List.length_cons, List.length_nil]
    rw [fuv, if_neg, if_neg (by omega), if_neg (by omega), Nat.mod_eq_of_lt h]
    rintro ⟨rfl, h1⟩
    rw [h9] at hx
    have := h0 (by omega); omega
  | case2 x h ih =>
    intro k a r hx hk h0
    rw [uv_ge (by omega)]
    simp only [List.cons_append, List.length_cons]
    have hk9 : k ≠ 9 := by
      rintro rfl
      rw [h9] at hx
      omega
    have hpow : 128 ^ (k + 1) = 128 ^ k * 128 := Nat.pow_succ ..
    have hsum : x % 128 * 128 ^ k + x / 128 * 128 ^ (k + 1) = x * 128 ^ k := by
      rw [hpow, show x / 128 * (128 ^ k * 128) = (x / 128 * 128) * 128 ^ k from by rw [Nat.mul_comm (128 ^ k) 128, Nat.mul_assoc], ← Nat.add_mul]
      congr 1; omega
    rw [fuv, if_neg (by omega), if_pos (by omega), ih (k + 1) _ r (by omega) (by omega) (by omega)]
    have hm : (x % 128 + 128) % 128 = x % 128 := by omega
    rw [hm]
    simp only [Prod.mk.injEq]
    omega

theorem beL_wide (v : Nat) : ∀ n a, n ≤ 8 → a * 256 ^ n + v % 256 ^ n < 18446744073709551616 → (wide v n).foldl (fun a c => (a * 256 + c) % 18446744073709551616) a = a * 256 ^ n + v % 256 ^ n := by
  intro n
  induction n with
  | zero => intro a _ _; simp [wide, Nat.mod_one]
  | succ n ih =>
    intro a hn h
    have hpow : 256 ^ (n + 1) = 256 ^ n * 256 := Nat.pow_succ ..
    have hv : v % 256 ^ (n + 1) = v / 256 ^ n % 256 * 256 ^ n + v % 256 ^ n := by
      rw [hpow, Nat.mod_mul]
      rw [Nat.mul_comm (256 ^ n)]; omega
    have hpos : 0 < 256 ^ n := Nat.pow_pos (by omega)
    have e1 : a * 256 ^ (n + 1) = a * 256 * 256 ^ n := by rw [hpow, Nat.mul_comm (256 ^ n) 256, Nat.mul_assoc]
    have e2 : (a * 256 + v / 256 ^ n % 256) * 256 ^ n = a * 256 * 256 ^ n + v / 256 ^ n % 256 * 256 ^ n := Nat.add_mul ..
    have hle : a * 256 + v / 256 ^ n % 256 ≤ (a * 256 + v / 256 ^ n % 256) * 256 ^ n := Nat.le_mul_of_pos_right _ hpos
    simp only [wide, List.foldl_cons]
    rw [Nat.mod_eq_of_lt (by omega), ih _ (by omega) (by omega)]
    omega

theorem rNum_back {P : List Nat} {i v n : Nat} {r : List Nat} (hd : P.drop i = wide v n ++ r) (hn : n ≤ 8) (hv : v < 256 ^ n) : rNum P i 0 n = (v, i + n, 0) := by
  have h1 := congrArg List.length hd
  simp [wide_len] at h1
  have h2 : (P.drop i).take n = wide v n := by rw [hd]; simp [wide_len, List.take_append]
  have h3 : 256 ^ n ≤ 256 ^ 8 := Nat.pow_le_pow_right (by omega) hn
  have h4 : (256 : Nat) ^ 8 = 18446744073709551616 := (by decide)
  have h5 := beL_wide v n 0 hn (by rw [Nat.mod_eq_of_lt hv]; omega)
  simp only [Nat.zero_mul, Nat.zero_add, Nat.mod_eq_of_lt hv] at h5
  simp only [rNum, ne_eq, not_true_eq_false, if_false]
  rw [if_neg (by omega), h2]
  simp only [beL, h5]
theorem rNum_short {P : List Nat} {i n : Nat} (hd : (P.drop i).length < n) : rNum P i 0 n = (0, i, 3) := by
  simp at hd
  simp [rNum, hd]

theorem rUvar_back {P : List Nat} {i x : Nat} {r : List Nat} (hd : P.drop i = uv x ++ r) (hx : x < 18446744073709551616) : rUvar P i 0 = (x, i + (uv x).length, 0) := by
  have h := fuv_back x 0 0 r (by omega) (by omega) (by omega)
  have hp := uv_pos x
  simp only [rUvar, hd, h, ne_eq, not_true_eq_false, if_false]
  rw [if_neg (by omega)]; simp
theorem rRaw_back {P : List Nat} {i : Nat} {p r : List Nat} (hd : P.drop i = p ++ r) (hi : i ≤ P.length) : rRaw P i 0 p.length = (p, i + p.length, 0) := by
  have h1 := congrArg List.length hd
  simp at h1
  simp only [rRaw, ne_eq, not_true_eq_false, if_false]
  rw [if_neg (by omega), if_neg (by omega), hd]
  simp
theorem rBlob_back {P : List Nat} {i : Nat} {p r : List Nat} {m : Int} (hd : P.drop i = uv p.length ++ p ++ r) (hm : (p.length : Int) ≤ m) (hp : p.length < 18446744073709551616) : rBlob P i 0 m = (p, i + ((uv p.length).length + p.length), 0) := by
  have h := fuv_back p.length 0 0 (p ++ r) (by omega) (by omega) (by omega)
  rw [← List.append_assoc] at h
  have hq := uv_pos p.length
  simp only [rBlob, hd, h, ne_eq, not_true_eq_false, if_false, Nat.zero_add, Nat.pow_zero, Nat.mul_one]
  rw [if_neg (by omega), if_neg (by omega), if_neg (by omega), if_neg (by simp)]
  simp
theorem fold_form (r : List Nat) : ∀ a, (∀ y ∈ r, y < 256) → ∃ s, s < 256 ^ r.length ∧ r.foldl (fun a c => a * 256 + c) a = a * 256 ^ r.length + s := by
  induction r with
  | nil => intro a _; exact ⟨0, by simp, by simp⟩
  | cons c r ih =>
    intro a hb
    obtain ⟨s, hs, e⟩ := ih (a * 256 + c) (fun y hy => hb y (by simp [hy]))
    have hc := hb c (by simp)
    refine ⟨c * 256 ^ r.length + s, ?_, ?_⟩
    · simp only [List.length_cons]
      rw [Nat.pow_succ]
      have : c * 256 ^ r.length ≤ 255 * 256 ^ r.length := Nat.mul_le_mul (by omega) (Nat.le_refl _)
      omega
    · simp only [List.foldl_cons, List.length_cons]
      rw [e, Nat.pow_succ, Nat.add_mul, Nat.mul_comm (256 ^ r.length) 256, ← Nat.mul_assoc]; omega
theorem wide_fold (r : List Nat) : ∀ a, (∀ y ∈ r, y < 256) → wide (r.foldl (fun a c => a * 256 + c) a) r.length = r := by
  induction r with
  | nil => intro a _; rfl
  | cons c r ih =>
    intro a hb
    have hb' : ∀ y ∈ r, y < 256 := fun y hy => hb y (by simp [hy])
    have hc := hb c (by simp)
    obtain ⟨s, hs, e⟩ := fold_form r (a * 256 + c) hb'
    have h2 := ih (a * 256 + c) hb'
    simp only [List.foldl_cons, List.length_cons, wide]
    rw [h2, e]
    have hp : 0 < 256 ^ r.length := Nat.pow_pos (by omega)
    have : ((a * 256 + c) * 256 ^ r.length + s) / 256 ^ r.length = a * 256 + c := by
      rw [Nat.add_comm, Nat.add_mul_div_right _ _ hp, Nat.div_eq_of_lt hs, Nat.zero_add]
    rw [this]
    congr 1; omega
theorem fold_mod (r : List Nat) : ∀ a, (∀ y ∈ r, y < 256) → (a + 1) * 256 ^ r.length ≤ 18446744073709551616 → r.foldl (fun a c => (a * 256 + c) % 18446744073709551616) a = r.foldl (fun a c => a * 256 + c) a := by
  induction r with
  | nil => intro a _ _; rfl
  | cons c r ih =>
    intro a hb h
    have hc := hb c (by simp)
    simp only [List.foldl_cons]
    have hp : 0 < 256 ^ r.length := Nat.pow_pos (by omega)
    simp only [List.length_cons, Nat.pow_succ] at h
    have h2 : (a * 256 + c + 1) * 256 ^ r.length ≤ (a + 1) * (256 ^ r.length * 256) := by
      rw [Nat.mul_comm (256 ^ r.length) 256, ← Nat.mul_assoc]
      exact Nat.mul_le_mul (by omega) (Nat.le_refl _)
    have h3 : a * 256 + c + 1 ≤ (a * 256 + c + 1) * 256 ^ r.length := Nat.le_mul_of_pos_right _ hp
    rw [Nat.mod_eq_of_lt (by omega)]
    exact ih _ (fun y hy => hb y (by simp [hy])) (by omega)
theorem wide_beL {r : List Nat} (hb : ∀ y ∈ r, y < 256) (hl : r.length ≤ 8) : wide (beL r) r.length = r ∧ beL r < 256 ^ r.length := by
  have hpow : 256 ^ r.length ≤ 256 ^ 8 := Nat.pow_le_pow_right (by omega) hl
  have h8 : (256 : Nat) ^ 8 = 18446744073709551616 := (by decide)
  have e : beL r = r.foldl (fun a c => a * 256 + c) 0 := fold_mod r 0 hb (by omega)
  obtain ⟨s, hs, e2⟩ := fold_form r 0 hb
  rw [e]
  exact ⟨wide_fold r 0 hb, by rw [e2]; omega⟩

theorem rNum_one {P : List Nat} {i n v j : Nat} (h : rNum P i 0 n = (v, j, 0)) (hb : ∀ y ∈ P, y < 256) (hn : n ≤ 8) (hi : i ≤ P.length) : wide v n = (P.drop i).take n ∧ j = i + n ∧ j ≤ P.length ∧ v < 256 ^ n := by
  simp only [rNum, ne_eq, not_true_eq_false, if_false] at h
  split at h
  · simp at h
  · rename_i h1
    simp only [Prod.mk.injEq] at h
    obtain ⟨rfl, rfl, _⟩ := h
    have hl : ((P.drop i).take n).length = n := by simp; omega
    have := wide_beL (r := (P.drop i).take n) (fun y hy => hb y (List.mem_of_mem_drop (List.mem_of_mem_take hy))) (by omega)
    rw [hl] at this
    exact ⟨this.1, rfl, by omega, this.2⟩

theorem fuv_one (q : List Nat) : ∀ k a x s, (∀ y ∈ q, y < 256) → fuv q k a = (x, s) → s ≠ 0 → ∃ y, x = a + y * 128 ^ k ∧ k < s ∧ uv y = q.take (s - k) ∧ (0 < k → 0 < y) := by
  induction q with
  | nil => intro k a x s _ h hs; simp [fuv] at h; omega
  | cons c r ih =>
    intro k a x s hb h hs
    have hc := hb c (by simp)
    rw [fuv] at h
    split at h
    · simp at h; omega
    · split at h
      · rename_i h1 h2
        obtain ⟨y, hx, hk, hu, hy⟩ := ih (k + 1) _ x s (fun y hy => hb y (by simp [hy])) h hs
        have hy' := hy (by omega)
        refine ⟨y * 128 + c % 128, ?_, by omega, ?_, fun _ => by omega⟩
        · rw [hx, Nat.pow_succ, Nat.add_mul, Nat.mul_assoc, Nat.mul_comm 128 (128 ^ k)]; omega
        · rw [uv_ge (by omega)]
          have e1 : (y * 128 + c % 128) % 128 + 128 = c := by omega
          have e2 : (y * 128 + c % 128) / 128 = y := by omega
          rw [e1, e2, hu]
          rw [show s - k = (s - (k + 1)) + 1 from by omega, List.take_succ_cons]
      · split at h
        · simp at h; omega
        · rename_i h1 h2 h3
          simp only [Prod.mk.injEq] at h
          obtain ⟨rfl, rfl⟩ := h
          refine ⟨c, by rw [Nat.mod_eq_of_lt (by omega)], by omega, ?_, fun _ => by omega⟩
          rw [uv_lt (by omega), show k + 1 - k = 1 from by omega]
          simp

theorem rUvar_one {P : List Nat} {i v j : Nat} (h : rUvar P i 0 = (v, j, 0)) (hb : ∀ y ∈ P, y < 256) (hi : i ≤ P.length) : uv v = (P.drop i).take (j - i) ∧ i ≤ j ∧ j ≤ P.length ∧ v < 18446744073709551616 := by
  simp only [rUvar, ne_eq, not_true_eq_false, if_false] at h
  split at h
  · simp at h
  · rename_i h1
    simp only [Prod.mk.injEq] at h
    obtain ⟨rfl, rfl, _⟩ := h
    have hle := fuv_le (P.drop i) 0 0
    have hlt := fuv_lt (P.drop i) 0 0 (by decide) (by decide)
    obtain ⟨y, hx, hk, hu, _⟩ := fuv_one (P.drop i) 0 0 _ _ (fun y hy => hb y (List.mem_of_mem_drop hy)) (rfl : fuv (P.drop i) 0 0 = ((fuv (P.drop i) 0 0).1, (fuv (P.drop i) 0 0).2)) h1
    simp only [Nat.pow_zero, Nat.mul_one, Nat.zero_add, Nat.sub_zero] at hx hu
    simp at hle
    exact ⟨by rw [hx, hu]; congr 1; omega, by omega, by omega, hlt⟩

theorem rRaw_one {P : List Nat} {i j : Nat} {n : Int} {q : List Nat} (h : rRaw P i 0 n = (q, j, 0)) (hi : i ≤ P.length) : q = (P.drop i).take (j - i) ∧ i ≤ j ∧ j ≤ P.length := by
  simp only [rRaw, ne_eq, not_true_eq_false, if_false] at h
  split at h
  · simp at h
  · split at h
    · simp at h
    · rename_i h1 h2
      simp only [Prod.mk.injEq] at h
      obtain ⟨rfl, rfl, _⟩ := h
      exact ⟨by congr 1; omega, by omega, by omega⟩

theorem rBlob_one {P : List Nat} {i j : Nat} {n : Int} {q : List Nat} (h : rBlob P i 0 n = (q, j, 0)) (hb : ∀ y ∈ P, y < 256) (hi : i ≤ P.length) : uv q.length ++ q = (P.drop i).take (j - i) ∧ i ≤ j ∧ j ≤ P.length := by
  simp only [rBlob, ne_eq, not_true_eq_false, if_false] at h
  have hle := fuv_le (P.drop i) 0 0
  have hone := fuv_one (P.drop i) 0 0 _ _ (fun y hy => hb y (List.mem_of_mem_drop hy)) (rfl : fuv (P.drop i) 0 0 = ((fuv (P.drop i) 0 0).1, (fuv (P.drop i) 0 0).2))
  obtain ⟨x, s, hf⟩ : ∃ x s, fuv (P.drop i) 0 0 = (x, s) := ⟨_, _, rfl⟩
  rw [hf] at h hle hone
  simp only at h hle hone
  split at h
  · simp at h
  · split at h
    · simp at h
    · split at h
      · simp at h
      · split at h
        · simp at h
        · rename_i h1 h2 h3 h4
          simp only [Prod.mk.injEq] at h
          obtain ⟨rfl, rfl, _⟩ := h
          obtain ⟨y, hx, hk, hu, _⟩ := hone h2
          simp only [Nat.pow_zero, Nat.mul_one, Nat.zero_add, Nat.sub_zero] at hx hu
          subst hx
          simp only [List.length_drop] at hle h4
          have hl : (((P.drop i).drop s).take x).length = x := by simp; omega
          rw [hl, hu, show i + (s + x) - i = s + x from by omega]
          exact ⟨(List.take_add).symm, by omega, by omega⟩
end Go.Proofs.Ytkcanelboloihab
namespace Go.Proofs.Ytkcanelboloihab
open Go.RowKit
set_option linter.unusedVariables false
set_option linter.unusedSimpArgs false

theorem drop_next {P : List Nat} {i : Nat} {a r : List Nat} (h : P.drop i = a ++ r) : P.drop (i + a.length) = r := by
  rw [← List.drop_drop, h, List.drop_left]
theorem rBlob_len {P : List Nat} {i e j : Nat} {m : Nat} {q : List Nat} (h : rBlob P i e m = (q, j, 0)) : q.length ≤ m := by
  unfold rBlob at h
  split at h
  · rename_i h1; injection h with h2 h3; injection h3 with h3 h4; exact absurd h4 h1
  split at h
  · injection h with h2 h3; injection h3 with h3 h4; omega
  split at h
  · injection h with h2 h3; injection h3 with h3 h4; omega
  split at h
  · injection h with h2 h3; injection h3 with h3 h4; omega
  split at h
  · injection h with h2 h3; injection h3 with h3 h4; omega
  · rename_i h1 h2 h3 h4 h5
    injection h with h2 h3
    rw [← h2, List.length_take]; omega
theorem rBlob_held {P : List Nat} {i e : Nat} {m : Int} {q : List Nat} {j : Nat} (h : rBlob P i e m = (q, j, 0)) : e = 0 := by
  unfold rBlob at h
  split at h
  · rename_i h1; injection h with h2 h3; injection h3 with h3 h4
  · rename_i h1; exact Decidable.not_not.1 h1
theorem rUvar_held {P : List Nat} {i e v j : Nat} (h : rUvar P i e = (v, j, 0)) : e = 0 := by
  unfold rUvar at h
  split at h
  · rename_i h1; injection h with h2 h3; injection h3 with h3 h4
  · rename_i h1; exact Decidable.not_not.1 h1
theorem wide1 (k : Nat) (h : k < 256) : wide k 1 = [k] := by simp [wide, Nat.mod_eq_of_lt h]

theorem takeE_back {P : List Nat} {i : Nat} {e : En} {r : List Nat} (hd : P.drop i = enB e ++ r) (hc : chkE e = 0) : takeE P i = (e, i + (enB e).length, 0) := by
  obtain ⟨k, key, val⟩ := e
  unfold chkE at hc
  simp only at hc
  split at hc
  · omega
  rename_i hl
  split at hc
  · omega
  rename_i hk
  have hk' : k = 1 ∨ (k = 2 ∧ val = []) := by
    rcases (by omega : k = 1 ∨ (k = 2 ∧ val.length = 0)) with h | ⟨h, h0⟩
    · exact Or.inl h
    · exact Or.inr ⟨h, List.eq_nil_of_length_eq_zero h0⟩
  rcases hk' with rfl | ⟨rfl, rfl⟩
  · simp only [enB, if_true] at hd ⊢
    have n1 : rNum P i 0 1 = (1, i + 1, 0) := rNum_back (v := 1) (n := 1) (r := uv key.length ++ key ++ (uv val.length ++ val) ++ r) (by rw [hd]; simp [wide1]) (by decide) (by decide)
    have hd1 : P.drop (i + 1) = uv key.length ++ key ++ (uv val.length ++ val ++ r) := by
      have := drop_next (a := [1]) (r := uv key.length ++ key ++ (uv val.length ++ val) ++ r) (P := P) (i := i) (by rw [hd]; simp)
      rw [show i + 1 = i + [1].length from rfl, this]; simp
    have n2 : rBlob P (i + 1) 0 64 = (key, i + 1 + ((uv key.length).length + key.length), 0) := rBlob_back hd1 (by omega) (by omega)
    have hd2 : P.drop (i + 1 + ((uv key.length).length + key.length)) = uv val.length ++ val ++ r := by
      have := drop_next hd1
      rw [List.length_append] at this
      exact this
    have n3 : rBlob P (i + 1 + ((uv key.length).length + key.length)) 0 256 = (val, i + 1 + ((uv key.length).length + key.length) + ((uv val.length).length + val.length), 0) := rBlob_back hd2 (by omega) (by omega)
    unfold takeE
    simp only [n1, n2, n3]
    simp only [Nat.reduceMod, true_or, if_true, List.length_cons, List.length_append, Prod.mk.injEq, true_and, and_true]
    omega
  · simp only [enB] at hd ⊢
    rw [if_neg (by decide)] at hd ⊢
    have n1 : rNum P i 0 1 = (2, i + 1, 0) := rNum_back (v := 2) (n := 1) (r := uv key.length ++ key ++ r) (by rw [hd]; simp [wide1]) (by decide) (by decide)
    have hd1 : P.drop (i + 1) = uv key.length ++ key ++ r := by
      have := drop_next (a := [2]) (r := uv key.length ++ key ++ r) (P := P) (i := i) (by rw [hd]; simp)
      rw [show i + 1 = i + [2].length from rfl, this]
    have n2 : rBlob P (i + 1) 0 64 = (key, i + 1 + ((uv key.length).length + key.length), 0) := rBlob_back hd1 (by omega) (by omega)
    unfold takeE
    simp only [n1, n2]
    simp only [Nat.reduceMod, List.length_cons, List.length_append, List.length_nil]
    simp
    omega

theorem takeN_back {P : List Nat} : ∀ (es : List En) (i : Nat) (r : List Nat), P.drop i = entB es ++ r → (∀ e ∈ es, chkE e = 0) → takeN P i es.length = (es, i + (entB es).length, 0)
  | [], i, r, _, _ => by simp [takeN, entB]
  | e :: es, i, r, hd, hc => by
    have hd1 : P.drop i = enB e ++ (entB es ++ r) := by rw [hd]; simp [entB]
    have h1 := takeE_back hd1 (hc e (by simp))
    have h2 := takeN_back es _ r (drop_next hd1) (fun x hx => hc x (by simp [hx]))
    simp only [List.length_cons, takeN, h1, h2]
    simp [entB]
    omega
theorem fold_zero : ∀ es : List En, (∀ e ∈ es, chkE e = 0) → es.foldl (fun a e => leastE a (chkE e)) 0 = 0
  | [], _ => rfl
  | x :: xs, h => by
    rw [List.foldl_cons, h x (by simp)]
    exact fold_zero xs (fun e he => h e (by simp [he]))
theorem chkB_iff {f : Nat} {es : List En} : chkB f es = 0 ↔ cntE f es.length = 0 ∧ ∀ e ∈ es, chkE e = 0 := by
  refine ⟨fun h => foldl_zero es _ h, fun ⟨h1, h2⟩ => ?_⟩
  unfold chkB
  rw [h1]
  exact fold_zero es h2
theorem takeB_back {P : List Nat} {f : Nat} {es : List En} {r : List Nat} (hd : P = batB f es ++ r) (hc : chkB f es = 0) (hf : f < 18446744073709551616) : takeB P 0 = (f, es, (batB f es).length, 0) := by
  obtain ⟨c1, c2⟩ := chkB_iff.1 hc
  have hn : es.length ≤ 64 := by unfold cntE at c1; split at c1 <;> omega
  have hd0 : P.drop 0 = uv f ++ (uv es.length ++ (entB es ++ r)) := by rw [List.drop_zero, hd]; simp [batB]
  have n1 := rUvar_back hd0 hf
  have hd1 := drop_next hd0
  have n2 := rUvar_back hd1 (by omega)
  have n3 := takeN_back es _ r (drop_next hd1) c2
  unfold takeB
  simp only [n1, n2, n3, c1]
  simp [batB]
  omega

theorem rNum1_one {P : List Nat} {i x j : Nat} (h : rNum P i 0 1 = (x, j, 0)) (hb : ∀ y ∈ P, y < 256) (hi : i ≤ P.length) : [x] = (P.drop i).take 1 ∧ j = i + 1 ∧ j ≤ P.length ∧ x < 256 := by
  obtain ⟨h1, h2, h3, h4⟩ := rNum_one h hb (by decide) hi
  have h4' : x < 256 := by simpa using h4
  rw [wide1 x h4'] at h1
  exact ⟨h1, h2, h3, h4'⟩
theorem take_join (P : List Nat) {i j k : Nat} (h1 : i ≤ j) (h2 : j ≤ k) : (P.drop i).take (k - i) = (P.drop i).take (j - i) ++ (P.drop j).take (k - j) := by
  rw [show k - i = (j - i) + (k - j) by omega, List.take_add, List.drop_drop, show i + (j - i) = j by omega]
theorem takeE_one {P : List Nat} {i : Nat} {e : En} {j : Nat} (h : takeE P i = (e, j, 0)) (hb : ∀ y ∈ P, y < 256) (hi : i ≤ P.length) : enB e = (P.drop i).take (j - i) ∧ i ≤ j ∧ j ≤ P.length ∧ chkE e = 0 := by
  unfold takeE at h
  obtain ⟨⟨x, i1, e1⟩, hx⟩ : ∃ t, rNum P i 0 1 = t := ⟨_, rfl⟩
  rw [hx] at h
  simp only at h
  obtain ⟨⟨key, i2, e2⟩, hy⟩ : ∃ t, rBlob P i1 e1 64 = t := ⟨_, rfl⟩
  rw [hy] at h
  simp only at h
  split at h
  · split at h
    · rename_i h12 hk1
      obtain ⟨⟨val, i3, e3⟩, hz⟩ : ∃ t, rBlob P i2 e2 256 = t := ⟨_, rfl⟩
      rw [hz] at h
      simp only at h
      injection h with h1 h2
      injection h2 with h2 h3
      subst h2
      subst h3
      have he2 := rBlob_held hz
      subst he2
      have he1 := rBlob_held hy
      subst he1
      obtain ⟨a1, a2, a3, a4⟩ := rNum1_one hx hb hi
      obtain ⟨b1, b2, b3⟩ := rBlob_one hy hb a3
      obtain ⟨c1, c2, c3⟩ := rBlob_one hz hb b3
      have l1 := rBlob_len (m := 64) hy
      have l2 := rBlob_len (m := 256) hz
      have hx1 : x = 1 := by omega
      subst hx1
      subst h1
      refine ⟨?_, by omega, c3, ?_⟩
      · rw [take_join P (by omega : i ≤ i1) (by omega : i1 ≤ i3), take_join P b2 c2, show i1 - i = 1 by omega, ← a1, ← b1, ← c1]
        simp [enB]
      · unfold chkE
        simp only
        rw [if_neg (by omega), if_neg (by omega)]
    · rename_i h12 hk1
      injection h with h1 h2
      injection h2 with h2 h3
      subst h2
      subst h3
      have he1 := rBlob_held hy
      subst he1
      obtain ⟨a1, a2, a3, a4⟩ := rNum1_one hx hb hi
      obtain ⟨b1, b2, b3⟩ := rBlob_one hy hb a3
      have l1 := rBlob_len (m := 64) hy
      have hx1 : x = 2 := by omega
      subst hx1
      subst h1
      refine ⟨?_, by omega, b3, ?_⟩
      · rw [take_join P (by omega : i ≤ i1) (by omega : i1 ≤ i2), show i1 - i = 1 by omega, ← a1, ← b1]
        simp [enB]
      · unfold chkE
        simp only [List.length_nil]
        rw [if_neg (by omega), if_neg (by omega)]
  · injection h with h1 h2
    injection h2 with h2 h3
    omega

theorem takeN_one {P : List Nat} (hb : ∀ y ∈ P, y < 256) : ∀ (n i : Nat) (es : List En) (j : Nat), takeN P i n = (es, j, 0) → i ≤ P.length → entB es = (P.drop i).take (j - i) ∧ i ≤ j ∧ j ≤ P.length ∧ es.length = n ∧ ∀ e ∈ es, chkE e = 0
  | 0, i, es, j, h, hi => by
    simp only [takeN, Prod.mk.injEq, and_true] at h
    obtain ⟨rfl, rfl⟩ := h
    simp [entB, hi]
  | n + 1, i, es, j, h, hi => by
    obtain ⟨⟨e, i1, f1⟩, hx⟩ : ∃ t, takeE P i = t := ⟨_, rfl⟩
    simp only [takeN, hx] at h
    split at h
    · rename_i hf
      injection h with h1 h2
      injection h2 with h2 h3
      exact absurd h3 hf
    · rename_i hf
      have hf0 : f1 = 0 := Decidable.not_not.1 hf
      subst hf0
      obtain ⟨a1, a2, a3, a4⟩ := takeE_one hx hb hi
      obtain ⟨⟨es', j', f'⟩, hy⟩ : ∃ t, takeN P i1 n = t := ⟨_, rfl⟩
      rw [hy] at h
      injection h with h1 h2
      injection h2 with h2 h3
      simp only at h1 h2 h3
      subst h2
      subst h3
      obtain ⟨b1, b2, b3, b4, b5⟩ := takeN_one hb n i1 es' j' hy a3
      subst h1
      refine ⟨?_, by omega, b3, by simp [b4], ?_⟩
      · rw [take_join P a2 b2, ← a1, ← b1]; simp [entB]
      · intro x hx'
        rcases List.mem_cons.1 hx' with rfl | hx'
        · exact a4
        · exact b5 x hx'
theorem takeB_one {P : List Nat} {f j : Nat} {es : List En} (h : takeB P 0 = (f, es, j, 0)) (hb : ∀ y ∈ P, y < 256) : batB f es = P.take j ∧ j ≤ P.length ∧ chkB f es = 0 ∧ f < 18446744073709551616 := by
  unfold takeB at h
  obtain ⟨⟨x, i1, e1⟩, hx⟩ : ∃ t, rUvar P 0 0 = t := ⟨_, rfl⟩
  rw [hx] at h
  simp only at h
  obtain ⟨⟨n, i2, e2⟩, hy⟩ : ∃ t, rUvar P i1 e1 = t := ⟨_, rfl⟩
  rw [hy] at h
  simp only at h
  split at h
  · rename_i h1
    injection h with h2 h3; injection h3 with h3 h4; injection h4 with h4 h5
    exact absurd h5 h1
  rename_i he
  split at h
  · rename_i h1
    injection h with h2 h3; injection h3 with h3 h4; injection h4 with h4 h5
    exact absurd h5 h1
  rename_i hc
  have he0 : e2 = 0 := Decidable.not_not.1 he
  subst he0
  have he1 := rUvar_held hy
  subst he1
  injection h with h2 h3
  subst h2
  obtain ⟨a1, a2, a3, a4⟩ := rUvar_one hx hb (Nat.zero_le _)
  obtain ⟨b1, b2, b3, b4⟩ := rUvar_one hy hb a3
  obtain ⟨c1, c2, c3, c4, c5⟩ := takeN_one hb n i2 es j h3 b3
  refine ⟨?_, c3, chkB_iff.2 ⟨?_, c5⟩, a4⟩
  · have e0 := take_join P (Nat.zero_le i1) (by omega : i1 ≤ j)
    rw [List.drop_zero] at e0
    rw [show j = j - 0 by omega, e0, take_join P b2 c2, ← b1, ← c1]
    rw [List.drop_zero] at a1
    rw [← a1, ← c4]
    rfl
  · rw [c4]; exact Decidable.not_not.1 hc

theorem decB_one {P : List Nat} {f : Nat} {es : List En} (h : decB P = (f, es, 0)) (hb : ∀ y ∈ P, y < 256) : P = batB f es ∧ chkB f es = 0 ∧ f < 18446744073709551616 := by
  unfold decB at h
  obtain ⟨⟨f', es', j, e⟩, hx⟩ : ∃ t, takeB P 0 = t := ⟨_, rfl⟩
  rw [hx] at h
  simp only at h
  split at h
  · rename_i h1
    injection h with h2 h3; injection h3 with h3 h4
    exact absurd h4 h1
  rename_i he
  have he0 : e = 0 := Decidable.not_not.1 he
  subst he0
  obtain ⟨a1, a2, a3, a4⟩ := takeB_one hx hb
  split at h
  · rename_i h1
    injection h with h2 h3; injection h3 with h3 h4
    exact absurd h4 h1
  rename_i hd
  injection h with h2 h3; injection h3 with h3 h4
  subst h2
  subst h3
  refine ⟨?_, a3, a4⟩
  have hj : ¬ j < P.length := fun h9 => hd (by unfold doneE; rw [if_pos ⟨rfl, h9⟩]; decide)
  rw [a1, List.take_of_length_le (by omega)]
theorem decB_back {f : Nat} {es : List En} (hc : chkB f es = 0) (hf : f < 18446744073709551616) : decB (batB f es) = (f, es, 0) := by
  have h := takeB_back (P := batB f es) (r := []) (by simp) hc hf
  unfold decB
  rw [h]
  simp [doneE]
theorem decB_more {f : Nat} {es : List En} {r : List Nat} (hc : chkB f es = 0) (hf : f < 18446744073709551616) (hr : r ≠ []) : (decB (batB f es ++ r)).2.2 = 3 := by
  have h := takeB_back (P := batB f es ++ r) (r := r) rfl hc hf
  have hl : 0 < r.length := List.length_pos_iff.2 hr
  unfold decB
  rw [h]
  simp [doneE, hl]
theorem decB_less {f : Nat} {es : List En} {n : Nat} (hc : chkB f es = 0) (hf : f < 18446744073709551616) (hb : ∀ y ∈ batB f es, y < 256) (hn : n < (batB f es).length) : (decB ((batB f es).take n)).2.2 ≠ 0 := by
  intro h
  obtain ⟨⟨f', es', e⟩, hx⟩ : ∃ t, decB ((batB f es).take n) = t := ⟨_, rfl⟩
  rw [hx] at h
  simp only at h
  subst h
  obtain ⟨a1, a2, a3⟩ := decB_one hx (fun y hy => hb y (List.mem_of_mem_take hy))
  have h1 := takeB_back (P := batB f es) (r := []) (by simp) hc hf
  have h2 := takeB_back (P := batB f es) (r := (batB f es).drop n) (by rw [← a1, List.take_append_drop]) a2 a3
  rw [h1] at h2
  injection h2 with h3 h4; injection h4 with h4 h5; injection h5 with h5 h6
  have h7 := congrArg List.length a1
  rw [List.length_take] at h7
  omega

theorem decE_one {P : List Nat} {e : En} (h : decE P = (e, 0)) (hb : ∀ y ∈ P, y < 256) : P = enB e ∧ chkE e = 0 := by
  unfold decE at h
  obtain ⟨⟨e', j, f⟩, hx⟩ : ∃ t, takeE P 0 = t := ⟨_, rfl⟩
  rw [hx] at h
  simp only at h
  split at h
  · rename_i h1
    injection h with h2 h3
    exact absurd h3 h1
  rename_i he
  have he0 : f = 0 := Decidable.not_not.1 he
  subst he0
  obtain ⟨a1, a2, a3, a4⟩ := takeE_one hx hb (Nat.zero_le _)
  split at h
  · rename_i h1
    injection h with h2 h3
    exact absurd h3 h1
  rename_i hd
  injection h with h2 h3
  subst h2
  refine ⟨?_, a4⟩
  have hj : ¬ j < P.length := fun h9 => hd (by unfold doneE; rw [if_pos ⟨rfl, h9⟩]; decide)
  rw [a1, List.drop_zero, List.take_of_length_le (by omega)]
theorem decE_back {e : En} (hc : chkE e = 0) : decE (enB e) = (e, 0) := by
  have h := takeE_back (P := enB e) (i := 0) (r := []) (by simp) hc
  unfold decE
  rw [h]
  simp [doneE]
theorem decE_more {e : En} {r : List Nat} (hc : chkE e = 0) (hr : r ≠ []) : (decE (enB e ++ r)).2 = 3 := by
  have h := takeE_back (P := enB e ++ r) (i := 0) (r := r) rfl hc
  have hl : 0 < r.length := List.length_pos_iff.2 hr
  unfold decE
  rw [h]
  simp [doneE, hl]
theorem decE_less {e : En} {n : Nat} (hc : chkE e = 0) (hb : ∀ y ∈ enB e, y < 256) (hn : n < (enB e).length) : (decE ((enB e).take n)).2 ≠ 0 := by
  intro h
  obtain ⟨⟨e', f⟩, hx⟩ : ∃ t, decE ((enB e).take n) = t := ⟨_, rfl⟩
  rw [hx] at h
  simp only at h
  subst h
  obtain ⟨a1, a2⟩ := decE_one hx (fun y hy => hb y (List.mem_of_mem_take hy))
  have h1 := takeE_back (P := enB e) (i := 0) (r := []) (by simp) hc
  have h2 := takeE_back (P := enB e) (i := 0) (r := (enB e).drop n) (by rw [List.drop_zero, ← a1, List.take_append_drop]) a2
  rw [h1] at h2
  injection h2 with h3 h4; injection h4 with h4 h5
  have h7 := congrArg List.length a1
  rw [List.length_take] at h7
  omega
end Go.Proofs.Ytkcanelboloihab
namespace Go.Proofs.Ytkcanelboloihab
open Go.RowKit
set_option linter.unusedVariables false
set_option linter.unusedSimpArgs false

theorem pad32_len {q : List Nat} (h : q.length ≤ 32) : (pad32 q).length = 32 := by simp [pad32]; omega
theorem pad32_byte {q : List Nat} (h : ∀ x ∈ q, x < 256) : ∀ x ∈ pad32 q, x < 256 := by
  intro x hx
  rcases List.mem_append.1 hx with h1 | h1
  · exact h x h1
  · rw [(List.mem_replicate.1 h1).2]; decide
theorem pad32_take {q : List Nat} {k : Nat} (h : q.length = k) : (pad32 q).take k = q := by
  subst h; exact List.take_left
theorem pad32_cut {q : List Nat} {k : Nat} (h : q.length = k) : cutL k (pad32 q) = pad32 q := by
  unfold cutL
  rw [pad32_take h]
  unfold pad32
  rw [h]
theorem z32_byte : ∀ x ∈ z32, x < 256 := by
  intro x hx; unfold z32 at hx; rw [(List.mem_replicate.1 hx).2]; decide
theorem decR_ok (z : Int) (p : List Nat) (hb : ∀ x ∈ p, x < 256) : (decR z p).1 < 18446744073709551616 ∧ (decR z p).2.1.length = 32 ∧ (decR z p).2.2.1.length = 32 ∧ (∀ x ∈ (decR z p).2.1, x < 256) ∧ ∀ x ∈ (decR z p).2.2.1, x < 256 := by
  unfold decR
  split
  · exact ⟨by decide, z32_len, z32_len, z32_byte, z32_byte⟩
  split
  · exact ⟨by decide, z32_len, z32_len, z32_byte, z32_byte⟩
  · rename_i h1 h2
    have hw : 1 ≤ z ∧ z ≤ 32 := by simpa [widthB] using h1
    refine ⟨beL_lt _, pad32_len ?_, pad32_len ?_, pad32_byte ?_, pad32_byte ?_⟩
    · rw [List.length_take]; omega
    · rw [List.length_take]; omega
    · exact fun x hx => hb x (List.mem_of_mem_drop (List.mem_of_mem_take hx))
    · exact fun x hx => hb x (List.mem_of_mem_drop (List.mem_of_mem_take hx))
theorem decR_one {z : Int} {p : List Nat} (hb : ∀ x ∈ p, x < 256) (h : (decR z p).2.2.2 = 0) : rootE z (decR z p).2.1 (decR z p).2.2.1 = 0 ∧ rootW z.toNat (decR z p).1 (decR z p).2.1 (decR z p).2.2.1 = p := by
  unfold decR at h ⊢
  split at h
  · simp at h
  rename_i h1
  split at h
  · simp at h
  rename_i h2
  rw [if_neg h1, if_neg h2]
  have hw : 1 ≤ z ∧ z ≤ 32 := by simpa [widthB] using h1
  obtain ⟨k, rfl⟩ : ∃ k : Nat, z = k := ⟨z.toNat, by omega⟩
  have hl : p.length = 8 + 2 * k := by omega
  simp only [Int.toNat_natCast]
  have l1 : ((p.drop 8).take k).length = k := by rw [List.length_take, List.length_drop]; omega
  have l2 : ((p.drop (8 + k)).take k).length = k := by rw [List.length_take, List.length_drop]; omega
  have hwT : widthB k = true := by simpa using h1
  have f1 : formB k (pad32 ((p.drop 8).take k)) = true := by unfold formB; rw [hwT, Int.toNat_natCast, pad32_cut l1]; simp
  have f2 : formB k (pad32 ((p.drop (8 + k)).take k)) = true := by unfold formB; rw [hwT, Int.toNat_natCast, pad32_cut l2]; simp
  refine ⟨?_, ?_⟩
  · unfold rootE
    rw [hwT, f1, f2]; simp
  · unfold rootW
    rw [pad32_take l1, pad32_take l2]
    have hw8 := (wide_beL (r := p.take 8) (fun x hx => hb x (List.mem_of_mem_take hx)) (by rw [List.length_take]; omega)).1
    rw [List.length_take, Nat.min_eq_left (by omega)] at hw8
    rw [hw8]
    have e1 : (p.drop 8).take k ++ (p.drop (8 + k)).take k = p.drop 8 := by
      rw [← List.drop_drop, List.take_of_length_le (l := (p.drop 8).drop k) (by rw [List.length_drop, List.length_drop]; omega), List.take_append_drop]
    rw [e1, List.take_append_drop]
end Go.Proofs.Ytkcanelboloihab
namespace Go.Proofs.Ytkcanelboloihab
open Go.RowKit Go.BigFrame
set_option linter.unusedVariables false
set_option linter.unusedSimpArgs false

theorem dig_eqd (d : Nat) (w : World) (a b : List Nat) (ha : a.length = 32) (hb : b.length = 32) : (Op.equalIn (d + 2) 27 (.agg (brow a)) (.agg (brow b))).run Try.prog w = .ok (decide (a = b)) w := by
  obtain ⟨i, hi, _⟩ := Option.map_eq_some_iff.1 Try.info5
  rw [run_equalIn_array w (d + 1) _ _ Try.underlying27 hi, List.range_eq_range', show Try.prog.cellsOf 5 = 1 from by kernel_rfl]
  exact eqItems_dig Try.prog w (by unfold Program.plainKey; rw [Try.underlying5]) Try.underlying5 d a b 32 ha hb 32 0 rfl

theorem Try.infoDig : (Try.prog.info? 27).map (·.size) = some 32 := by kernel_rfl
theorem part_dig (w : World) (xs : Array Value) (off : Nat) : (part 27 xs off).run Try.prog w = .ok (.agg (xs.extract off (off + 32))) w := by
  obtain ⟨i, hi, hs⟩ := Option.map_eq_some_iff.1 Try.infoDig
  have hc : Try.prog.cellsOf 27 = 32 := by kernel_rfl
  simp [part, isAgg, run_underlying Try.underlying27, run_sizeOf w hi, hs]
theorem root_parts (s : Nat) (l m : List Nat) (hl : l.length = 32) (hm : m.length = 32) : (rootC s l m).toArray[0]? = some (.int .u64 (s : Int)) ∧ (rootC s l m).toArray.extract 1 (1 + 32) = brow l ∧ (rootC s l m).toArray.extract 33 (33 + 32) = brow m := by
  refine ⟨rfl, ?_, ?_⟩
  · unfold rootC brow
    apply Array.toList_inj.1
    rw [Array.toList_extract]
    simp [List.extract, hl]
  · unfold rootC brow
    apply Array.toList_inj.1
    rw [Array.toList_extract]
    simp [List.extract, hl]
    rw [List.take_of_length_le (by simp [hm])]
theorem Try.rootFields : (Try.prog.fieldsOf 29).toList.map (fun f => (f.name, f.type, f.offset)) = [("Size", 22, 0), ("Log", 27, 1), ("Map", 27, 33)] := by kernel_rfl
theorem eqFields_three (d : Nat) (xs ys : Array Value) (fs : List Field) (n1 n2 n3 : String) (t1 t2 t3 : TypeId) (o1 o2 o3 : Nat) (h : fs.map (fun f => (f.name, f.type, f.offset)) = [(n1, t1, o1), (n2, t2, o2), (n3, t3, o3)]) : ∃ f1 f2 f3, fs = [f1, f2, f3] ∧ (f1.name = n1 ∧ f1.type = t1 ∧ f1.offset = o1) ∧ (f2.name = n2 ∧ f2.type = t2 ∧ f2.offset = o2) ∧ (f3.name = n3 ∧ f3.type = t3 ∧ f3.offset = o3) := by
  match fs, h with
  | [f1, f2, f3], h =>
    simp at h
    exact ⟨f1, f2, f3, rfl, h.1, h.2.1, h.2.2⟩
theorem root_eq (w : World) (s s' : Nat) (l m l' m' : List Nat) (hl : l.length = 32) (hm : m.length = 32) (hl' : l'.length = 32) (hm' : m'.length = 32) :
    (Op.equalIn 10000 29 (.agg (rootC s l m).toArray) (.agg (rootC s' l' m').toArray)).run Try.prog w = .ok (decide (s = s' ∧ l = l' ∧ m = m')) w := by
  obtain ⟨p0, p1, p2⟩ := root_parts s l m hl hm
  obtain ⟨q0, q1, q2⟩ := root_parts s' l' m' hl' hm'
  rw [run_equalIn_struct w 9999 29 _ _ (by kernel_rfl) (by kernel_rfl)]
  obtain ⟨f1, f2, f3, hf, ⟨a1, a2, a3⟩, ⟨b1, b2, b3⟩, ⟨c1, c2, c3⟩⟩ := eqFields_three 9999 #[] #[] _ _ _ _ _ _ _ _ _ _ Try.rootFields
  rw [hf]
  simp only [Op.eqFields, a1, a2, a3, b1, b2, b3, c1, c2, c3]
  rw [if_pos (by decide), if_pos (by decide), if_pos (by decide)]
  have hpl : Try.prog.plainKey 22 = true := by kernel_rfl
  simp only [Sem.run_bind, run_part_plain w hpl p0, run_part_plain w hpl q0, Result.andThen_ok, part_dig, p1, p2, q1, q2]
  rw [run_equalIn_int w 9998 22 _ _ _ _ Try.underlying22, Result.andThen_ok]
  by_cases hs : s = s'
  · have e1 : ((s : Int) == (s' : Int)) = true := by rw [hs]; simp
    rw [e1]
    simp only [Bool.not_true, Bool.false_eq_true, if_false, Sem.run_bind, part_dig, p1, p2, q1, q2, Result.andThen_ok]
    rw [dig_eqd 9997 w l l' hl hl', Result.andThen_ok]
    by_cases h2 : l = l'
    · rw [decide_eq_true h2]
      simp only [Bool.not_true, Bool.false_eq_true, if_false, Sem.run_bind, part_dig, p1, p2, q1, q2, Result.andThen_ok]
      rw [dig_eqd 9997 w m m' hm hm', Result.andThen_ok]
      by_cases h3 : m = m'
      · rw [decide_eq_true h3]; simp [hs, h2, h3]
      · rw [decide_eq_false h3]; simp [hs, h2, h3]
    · rw [decide_eq_false h2]; simp [hs, h2]
  · have e1 : ((s : Int) == (s' : Int)) = false := by rw [beq_eq_false_iff_ne]; omega
    rw [e1]; simp [hs]

theorem form_pad {z : Int} {l : List Nat} (h : formB z l = true) (hl : l.length = 32) : 1 ≤ z ∧ z ≤ 32 ∧ pad32 (l.take z.toNat) = l := by
  unfold formB at h
  simp only [Bool.and_eq_true, decide_eq_true_eq] at h
  have hw : 1 ≤ z ∧ z ≤ 32 := by simpa [widthB] using h.1
  refine ⟨hw.1, hw.2, ?_⟩
  have h2 := h.2
  unfold cutL at h2
  unfold pad32
  rw [List.length_take, hl, Nat.min_eq_left (by omega)]
  exact h2
theorem decR_back {z : Int} {s : Nat} {l m : List Nat} (hs : s < 18446744073709551616) (hl : l.length = 32) (hm : m.length = 32) (h : rootE z l m = 0) : decR z (rootW z.toNat s l m) = (s, l, m, 0) ∧ ((rootW z.toNat s l m).length : Int) = 8 + 2 * z := by
  unfold rootE at h
  split at h
  · omega
  split at h
  · omega
  split at h
  · omega
  rename_i h1 h2 h3
  have hw : 1 ≤ z ∧ z ≤ 32 := by simpa [widthB] using h1
  obtain ⟨_, _, p1⟩ := form_pad (z := z) (l := l) (by simpa using h2) hl
  obtain ⟨_, _, p2⟩ := form_pad (z := z) (l := m) (by simpa using h3) hm
  obtain ⟨k, rfl⟩ : ∃ k : Nat, z = k := ⟨z.toNat, by omega⟩
  rw [Int.toNat_natCast] at p1 p2 ⊢
  have l1 : (l.take k).length = k := by rw [List.length_take]; omega
  have l2 : (m.take k).length = k := by rw [List.length_take]; omega
  have hlen : (rootW k s l m).length = 8 + 2 * k := by unfold rootW; rw [List.length_append, List.length_append, wide_len, l1, l2]; omega
  refine ⟨?_, by rw [hlen]; omega⟩
  unfold decR
  rw [if_neg h1, if_neg (by rw [hlen]; simp), Int.toNat_natCast]
  have e1 : (rootW k s l m).take 8 = wide s 8 := by unfold rootW; rw [List.take_left' (wide_len s 8)]
  have e2 : (rootW k s l m).drop 8 = l.take k ++ m.take k := by unfold rootW; rw [List.drop_left' (wide_len s 8)]
  have e3 : (rootW k s l m).drop (8 + k) = m.take k := by rw [← List.drop_drop, e2, List.drop_left' l1]
  rw [e1, e2, e3, List.take_left' l1, List.take_of_length_le (l := m.take k) (by omega), p1, p2]
  have hbe : beL (wide s 8) = s := by
    have h9 := beL_wide s 8 0 (by decide) (by omega)
    unfold beL
    rw [h9]; omega
  rw [hbe]
end Go.Proofs.Ytkcanelboloihab
namespace Go.Proofs.Ytkcanelboloihab
open Go.RowKit Go.BigFrame
set_option linter.unusedVariables false
set_option linter.unusedSimpArgs false

set_option maxRecDepth 100000 in
set_option maxHeartbeats 1000000 in
theorem tsameEntry_any (a b : En) (ka va kb vb : Value) (w : World) (ha : OkE w a ka va) (hb : OkE w b kb vb) :
    Calls Try.prog 8 #[.agg (enC a ka va), .agg (enC b kb vb)] w fun r w' => r = .returned (.bool (decide (a = b))) ∧ Kept [] w w' := by
  rw [en_eq]
  obtain ⟨k, key, val⟩ := a
  obtain ⟨k', key', val'⟩ := b
  have HA := hide ha
  have HB := hide hb
  clear ha hb
  simp only
  obtain ⟨X, hX⟩ : ∃ X, decide (key = key') = X := ⟨_, rfl⟩
  obtain ⟨Y, hY⟩ : ∃ X, decide (val = val') = X := ⟨_, rfl⟩
  rw [hX, hY]
  have HX := hide hX
  have HY := hide hY
  clear hX hY
  unfold enC
  simp only
  have HG := hide (((Kept.refl [] (w.alloc (.cells #[.int .u8 (k : Int), ka, va] 35))).alloc (.cells #[.int .u8 (k' : Int), kb, vb] 35)).heap (heap_alloc_new w (.cells #[.int .u8 (k : Int), ka, va] 35)) (by simp))
  have HH := hide (alloc_at w (.cells #[.int .u8 (k : Int), ka, va] 35) (.cells #[.int .u8 (k' : Int), kb, vb] 35))
  have HK0 := hide (((Kept.refl [] w).alloc (.cells #[.int .u8 (k : Int), ka, va] 35)).alloc (.cells #[.int .u8 (k' : Int), kb, vb] 35))
  go_enter Try.func8, Try.ntmps8
  by_cases hk : k = k'
  · have e1 : ((k : Int) == (k' : Int)) = true := by rw [hk]; simp
    rw [decide_eq_true hk]
    have HKE := hide hk
    clear hk
    go_wp2_with fail
    refine Calls.mono (tsame_any _ _ key key' _ ((unhide HA).key.old (unhide HK0) (by simp)) ((unhide HB).key.old (unhide HK0) (by simp))) ?_
    rintro r w1 ⟨rfl, rfl⟩
    rw [unhide HX]
    clear HX
    have HK1 := HK0
    have HA1 := hide ((unhide HA).val.old (unhide HK1) (by simp))
    have HB1 := hide ((unhide HB).val.old (unhide HK1) (by simp))
    cases X with
    | true =>
      go_wp2_with fail
      refine Calls.mono (tsame_any _ _ val val' _ (unhide HA1) (unhide HB1)) ?_
      rintro r w2 ⟨rfl, rfl⟩
      rw [unhide HY]
      clear HY
      go_wp2
      go_ret
      exact ⟨by simp, unhide HK0⟩
    | false =>
      go_wp2
      go_ret
      exact ⟨by simp, unhide HK1⟩
  · have e1 : ((k : Int) == (k' : Int)) = false := by rw [beq_eq_false_iff_ne]; omega
    rw [decide_eq_false hk]
    clear hk
    go_wp2
    go_ret
    exact ⟨by simp, unhide HK0⟩

set_option maxRecDepth 100000 in
set_option maxHeartbeats 1000000 in
theorem twidth_any (n : Nat) (w : World) (hn : n < 256) :
    Calls Try.prog 11 #[.int .u8 n] w fun e w' => e = .returned (.int .i64 ((1 + n % 32 : Nat) : Int)) ∧ w' = w := by
  have h1 : IntKind.i64.wrap (n : Int) = n := by simp [IntKind.wrap, IntKind.signed, IntKind.bits]; omega
  obtain ⟨y, hy⟩ : ∃ y, n % 32 = y := ⟨_, rfl⟩
  have hy2 : (n : Int) % 32 = y := by omega
  have hy3 : (n : Int).tmod 32 = y := by rw [Int.tmod_eq_emod_of_nonneg (by omega)]; omega
  have hy32 : (y : Int) < 32 := by omega
  rw [hy]
  have HY := hide hy
  clear hy
  go_enter Try.func11, Try.ntmps11
  go_wp2
  go_ret
  exact ⟨by congr 2, rfl⟩

theorem run_loadS {P : Program} {o : Oper} {a : Act} (ty : TypeId) (x : Operand) (ho : o.op = .load ty x) (ad : Addr) (hx : a.eval x = .pointer (some ad)) (w : World) (v : Value) (e : TypeId) (hu : P.underlying ty = some (.slice e)) (hc : w.cell? ad = some v) :
    (execOp a.eval o).run P w = .ok (.value v) w := by
  have h2 : (isAgg ty).run P w = .ok false w := by
    unfold isAgg
    rw [Sem.run_bind, run_underlying hu w]; simp
  unfold execOp
  simp only [ho, hx, Instr.loadAt, Instr.sureAddr, Sem.run_bind, Sem.run_pure, Result.andThen_ok, loadVar, h2]
  simp [go_sem, hc]

def cI (k i : Nat) (d : List Nat) : List Nat := (d.take k ++ List.replicate (i - k) 0) ++ d.drop i
theorem cI_len {k i : Nat} {d : List Nat} (h : k ≤ i) (hi : i ≤ 32) (hd : d.length = 32) : (cI k i d).length = 32 := by simp [cI, hd]; omega
theorem cI_set {k i : Nat} {d : List Nat} (h : k ≤ i) (hi : i < 32) (hd : d.length = 32) : (brow (cI k i d)).setIfInBounds i (.int .u8 0) = brow (cI k (i + 1) d) := by
  have hA : (d.take k ++ List.replicate (i - k) 0).length = i := by simp [hd]; omega
  have e1 : (cI k i d).set i 0 = cI k (i + 1) d := by
    unfold cI
    rw [List.set_append_right _ _ (by omega), hA, Nat.sub_self, List.drop_eq_getElem_cons (show i < d.length by omega), List.set_cons_zero, show i + 1 - k = (i - k) + 1 by omega, List.replicate_succ']
    simp
  rw [← e1]
  unfold brow
  rw [List.setIfInBounds_toArray, List.map_set]
  rfl
theorem cI_end {k : Nat} {d : List Nat} (hd : d.length = 32) : cI k 32 d = cutL k d := by unfold cI cutL; rw [List.drop_eq_nil_of_le (by omega), List.append_nil]
theorem cI_start {k : Nat} {d : List Nat} : cI k k d = d := by simp [cI]

set_option maxRecDepth 100000 in
set_option maxHeartbeats 1000000 in
theorem tcut_any (k : Nat) (d : List Nat) (w : World) (h1 : 1 ≤ k) (h2 : k ≤ 32) (hd : d.length = 32) (hb : ∀ x ∈ d, x < 256) :
    Calls Try.prog 12 #[.int .i64 k, .agg (brow d)] w fun e w' => e = .returned (.agg (brow (cutL k d))) ∧ Kept [] w w' := by
  have hcl := cutL_len k d h2 hd
  have HCE := hide (cI_end (k := k) hd)
  clear hb
  go_enter Try.func12, Try.ntmps12
  go_wp2_with fail
  rw [zb32]
  have HA := hide (heap_alloc2_old w (.cells (brow d) 27) (.cells (zb 32) 27))
  have HB := hide (heap_alloc2_new w (.cells (brow d) 27) (.cells (zb 32) 27))
  have HK := hide (((Kept.refl [] w).alloc (.cells (brow d) 27)).alloc (.cells (zb 32) 27))
  obtain ⟨W, hW⟩ : ∃ W, (w.alloc (.cells (brow d) 27)).alloc (.cells (zb 32) 27) = W := ⟨_, rfl⟩
  rw [hW] at HA HB HK ⊢
  clear hW
  go_loopw [5] (fun t wr => ∃ (i : Nat), k ≤ i ∧ i ≤ 32 ∧ t = .int .i64 i ∧ Hid (wr.heap[w.heap.size]? = some (.cells (brow (cI k i d)) 27 (0, 0))) ∧ Hid (wr.heap[w.heap.size + 1]? = some (.cells (zb 32) 27 (0, 0))) ∧ Hid (Kept [] w wr)) (fun t _ => 32 - (intOf t).toNat)
  case atStart => exact ⟨k, Nat.le_refl _, h2, rfl, hide (by rw [cI_start]; exact unhide HA), HB, HK⟩
  case round =>
    obtain ⟨i, hi1, hi2, rfl, HG, HZ, HKr⟩ := hrel
    by_cases hlt : i < 32
    · have hlt' : (i : Int) < 32 := by omega
      have q0 := brow_cell (unhide HG) i (by rw [cI_len hi1 hi2 hd]; exact hlt)
      simp only [Go.Proofs.Ytkcanelboloihab.u8] at q0
      have z0 : wr.frozen? ⟨w.heap.size, i, none⟩ = false := frozen_of_row _ _ _ _ _ (unhide HG)
      have k1 := (Kept.refl [w.heap.size] wr).setCell (p := ⟨w.heap.size, i, none⟩) (Or.inl (by simp)) (.int .u8 0)
      have HG2 := hide (by have h9 := heap_setCell_same wr w.heap.size i _ 27 (.int .u8 0) (unhide HG); rw [cI_set hi1 hlt hd] at h9; exact h9 : (wr.setCell ⟨w.heap.size, i, none⟩ (.int .u8 0)).heap[w.heap.size]? = some (.cells (brow (cI k (i + 1) d)) 27 (0, 0)))
      have HZ2 := hide (k1.heap (unhide HZ) (by simp))
      have HK2 := hide ((unhide HKr).setCell (p := ⟨w.heap.size, i, none⟩) (Or.inr (Nat.le_refl _)) (.int .u8 0))
      clear k1
      go_wp2
      refine ⟨⟨i + 1, by omega, by omega, by go_num, HG2, HZ2, HK2⟩, ?_⟩
      simp [intOf]; omega
    · have hlt' : ¬ (i : Int) < 32 := by omega
      have hi32 : i = 32 := by omega
      subst hi32
      rw [unhide HCE] at HG
      go_wp2_with (first
        | (refine wpList_load_row rfl 27 _ rfl w.heap.size rfl _ (brow (cutL k d)) (0, 0) _ (unhide HG) Try.underlying27 rfl (by rw [brow_size, hcl]; exact Try.size_dig) ?_)
        | (refine wpList_store_row rfl 27 _ _ rfl (w.heap.size + 1) (brow (cutL k d)) rfl rfl _ (zb 32) (unhide HZ) (by rw [brow_size, hcl]; exact Try.size_dig) (by rw [zb_size, brow_size, hcl]) (brow_one _) ?_))
      refine bodyPost_ret (v := .agg (brow (cutL k d))) ?_ rfl ⟨rfl, (unhide HKr).setRow (Or.inr (by omega)) _⟩
      exact results_cell_row rfl _ _ (w.heap.size + 1) _ (brow (cutL k d)) (0, 0) _ rfl (setRow_heap _ _ _ _ _ _ (unhide HZ)) Try.underlying27 rfl (by rw [brow_size, hcl]; exact Try.size_dig)
theorem rdN_own {w : World} {base : Nat} {v : Value} {ts : List (En × Value × Value)} (own : w.ownsRow base 35 3 v ts.length (cellsN ts)) (ok : ∀ t ∈ ts, OkE w t.1 t.2.1 t.2.2) : RdN w v (ts.map (·.1)) := by
  rcases own.2 with ⟨rfl, h0⟩ | ⟨g, cap, cur, rfl, _, hg, hc, hm', hs, ht⟩
  · have : ts = [] := List.eq_nil_of_length_eq_zero h0
    subst this
    exact RdN.nil w
  · refine ⟨some ⟨g, 0, none⟩, ts.length, cap, fun i => (ts.getD i (⟨0, [], []⟩, undef, undef)).2.1, fun i => (ts.getD i (⟨0, [], []⟩, undef, undef)).2.2, rfl, by simp, hc, by unfold maxLen at hm'; omega, fun i hi => ?_, fun _ => ⟨g, 0, rfl, fun i hi => ?_⟩⟩
    · have hi' : i < ts.length := by simpa using hi
      have h9 := ok ts[i] (List.getElem_mem hi')
      rw [List.getElem_map]
      simp only [List.getD_eq_getElem?_getD, List.getElem?_eq_getElem hi', Option.getD_some]
      exact h9
    · have hi' : i < ts.length := by simpa using hi
      have hx := cellsN_get ts i hi'
      have c0 := own.cells (g := g) rfl (3 * i) _ hx.1
      have c1 := own.cells (g := g) rfl (3 * i + 1) _ hx.2.1
      have c2 := own.cells (g := g) rfl (3 * i + 2) _ hx.2.2
      rw [Addr.add_mid] at c0 c1 c2
      rw [List.getElem_map]
      simp only [List.getD_eq_getElem?_getD, List.getElem?_eq_getElem hi', Option.getD_some]
      intro j v hv
      have hj : j < 3 := (List.getElem?_eq_some_iff.1 hv).1
      rcases (by omega : j = 0 ∨ j = 1 ∨ j = 2) with rfl | rfl | rfl
      · rw [show 0 + i * 3 + 0 = 0 + 3 * i by omega, c0]; exact hv
      · rw [show 0 + i * 3 + 1 = 0 + (3 * i + 1) by omega, c1]; exact hv
      · rw [show 0 + i * 3 + 2 = 0 + (3 * i + 2) by omega, c2]; exact hv
/-- Entries that lie in memory of their own, their keys and values in what was there. -/
structure OwnA (w0 w : World) (v : Value) (ts : List (En × Value × Value)) : Prop where
  own : w.ownsRow w0.heap.size 35 3 v ts.length (cellsN ts)
  ok : ∀ t ∈ ts, OkE w0 t.1 t.2.1 t.2.2
  kept : Kept [] w0 w
theorem OwnA.start {w0 w : World} (k : Kept [] w0 w) : OwnA w0 w (.slice none 0 0) [] := ⟨World.ownsRow_nil _ _ _ _, by simp, k⟩
theorem OwnA.old {w0 w w' : World} {v : Value} {ts : List (En × Value × Value)} (h : OwnA w0 w v ts) (k : Kept [] w w') : OwnA w0 w' v ts :=
  ⟨k.owns h.own (by simp), h.ok, h.kept.trans k (by simp)⟩
theorem OwnA.rdN {w0 w : World} {v : Value} {ts : List (En × Value × Value)} (h : OwnA w0 w v ts) : RdN w v (ts.map (·.1)) := rdN_own h.own (fun t ht => (h.ok t ht).old h.kept)
theorem OwnA.push {w0 w W : World} {v : Value} {ts : List (En × Value × Value)} (h : OwnA w0 w v ts) {e : En} {y z : Value} (hy : OkE w0 e y z) {g cap : Nat}
    (o : W.ownsRow w0.heap.size 35 3 (.slice (some ⟨g, 0, none⟩) (ts.length + 1) cap) (ts.length + 1) (cellsN ts ++ [.int .u8 (e.k : Int), y, z])) (gr : w.grownBy W v.ownBlock) :
    OwnA w0 W (.slice (some ⟨g, 0, none⟩) (ts.length + 1) cap) (ts ++ [(e, y, z)]) := by
  refine ⟨by rw [List.length_append, cellsN_app]; exact o, fun t ht => ?_, h.kept.grown gr (fun k hk => Or.inr (h.own.lt k hk).1)⟩
  rcases List.mem_append.1 ht with ht | ht
  · exact h.ok t ht
  · rw [List.mem_singleton] at ht; subst ht; exact hy
end Go.Proofs.Ytkcanelboloihab
namespace Go.Proofs.Ytkcanelboloihab
open Go.RowKit Go.BigFrame
set_option linter.unusedVariables false
set_option linter.unusedSimpArgs false

end Go.Proofs.Ytkcanelboloihab
namespace Go.Proofs.Ytkcanelboloihab
open Go.RowKit Go.BigFrame
set_option linter.unusedVariables false
set_option linter.unusedSimpArgs false

theorem rd_row {w : World} {g : Nat} (bs : List Nat) {cs : Array Value} {fr : Nat × Nat} (h : w.heap[g]? = some (.cells cs 5 fr)) (hc : cs = (bs.map u8).toArray) (hb : ∀ x ∈ bs, x < 256) (n : Nat) (hn : bs.length = n) (hl : n ≤ 140737488355328) : Rd w (.slice (some ⟨g, 0, none⟩) n n) bs := by
  refine ⟨_, n, n, rfl, hn, Nat.le_refl _, ⟨by omega, hl⟩, fun h => by simp at h, hb, fun hp => ⟨g, 0, rfl, fun i hi => ?_⟩⟩
  subst hc
  have hi' : i < bs.length := by omega
  rw [cell_of_row _ _ _ _ _ _ h, Nat.zero_add, List.getElem?_toArray, List.getElem?_map, List.getElem?_eq_getElem hi', List.getD_eq_getElem?_getD, List.getElem?_eq_getElem hi']
  rfl
theorem RdN.one {w : World} {g : Nat} {e : En} {kv vv : Value} {t : TypeId} {fr : Nat × Nat} (h : w.heap[g]? = some (.cells (enC e kv vv) t fr)) (ho : OkE w e kv vv) : RdN w (.slice (some ⟨g, 0, none⟩) 1 1) [e] := by
  refine ⟨_, 1, 1, fun _ => kv, fun _ => vv, rfl, rfl, Nat.le_refl _, by omega, fun i hi => ?_, fun _ => ⟨g, 0, rfl, fun i hi => ?_⟩⟩
  · have : i = 0 := by simpa using hi
    subst this; exact ho
  · have : i = 0 := by simpa using hi
    subst this
    intro j v hv
    rw [cell_of_row _ _ _ _ _ _ h, Nat.zero_mul, Nat.add_zero, Nat.zero_add, ← Array.getElem?_toList]
    exact hv
theorem heap_alloc3e (w : World) (a b c : Obj) : (((w.alloc a).alloc b).alloc c).heap[w.heap.size]? = some a ∧ (((w.alloc a).alloc b).alloc c).heap[w.heap.size + 1]? = some b ∧ (((w.alloc a).alloc b).alloc c).heap[w.heap.size + 1 + 1]? = some c := by
  refine ⟨?_, ?_, ?_⟩
  · exact (((Kept.refl [] (w.alloc a)).alloc b).alloc c).heap (heap_alloc_new w a) (by simp)
  · exact ((Kept.refl [] ((w.alloc a).alloc b)).alloc c).heap (alloc_at w a b) (by simp)
  · have h9 := alloc_at (w.alloc a) b c
    rw [show (w.alloc a).heap.size = w.heap.size + 1 from Array.size_push _] at h9
    exact h9
theorem decE_k : decE [1, 1, 107, 1, 118] = (⟨1, [107], [118]⟩, 0) := by decide +kernel
theorem decB_k : decB [172, 2, 1, 2, 0] = (300, [⟨2, [], []⟩], 0) := by decide +kernel
theorem chkB_k : chkB 300 [⟨2, [], []⟩] = 0 := by decide
theorem uv300 : uv 300 = [172, 2] := by rw [uv_ge (by decide), uv_lt (by decide)]
theorem batB_k : batB 300 [⟨2, [], []⟩] = [172, 2, 1, 2, 0] := by
  unfold batB entB enB
  rw [uv300]
  simp [uv_lt]
theorem enB_k : enB ⟨1, [107], [118]⟩ = [1, 1, 107, 1, 118] := by
  unfold enB
  simp [uv_lt]

end Go.Proofs.Ytkcanelboloihab
/-
  A return of two variables: two loads and two stores; the second load may come up behind the first store. One law for all orders.
-/
namespace Go.Proofs.Ytkcanelboloihab
open Go

section
variable {P : Program} {ops : Array Oper} {Q : Exit → Act → World → Prop}
theorem wpOp_in {i : Nat} {o : Oper} {K : Act → World → Prop} {a : Act} {w : World} (hi : ops[i]? = some o) (hg : o.guard = none) (h : o.wp P a w K Q) : wpOp P ops Q i K a w := by
  have hw : Region.wanted o (yielded ops a.tmps) = true := by unfold Region.wanted; rw [hg]
  unfold wpOp; simp only [hi, hw, if_true]; exact Or.inl h

theorem wp_ret4 {id : Nat} {o0 o1 o2 o3 : Oper} {a : Act} {w : World} (hm : P.follows .mixedOrders = true)
    (r0 : Region.ready .any #[o0, o1, o2, o3] #[false, false, false, false] = [0, 1]) (r1 : Region.ready .any #[o0, o1, o2, o3] #[true, false, false, false] = [1, 2])
    (r2 : Region.ready .any #[o0, o1, o2, o3] #[false, true, false, false] = [0]) (r3 : Region.ready .any #[o0, o1, o2, o3] #[true, true, false, false] = [2])
    (r4 : Region.ready .any #[o0, o1, o2, o3] #[true, false, true, false] = [1]) (r5 : Region.ready .any #[o0, o1, o2, o3] #[true, true, true, false] = [3])
    (r6 : Region.ready .any #[o0, o1, o2, o3] #[true, true, true, true] = [])
    (g0 : o0.guard = none) (g1 : o1.guard = none) (g2 : o2.guard = none) (g3 : o3.guard = none)
    (t0 t1 : TypeId) (x0 x1 p0 p1 y0 y1 : Operand) (h0 : o0.op = .load t0 x0) (h1 : o1.op = .load t1 x1) (h2 : o2.op = .store t0 p0 y0) (h3 : o3.op = .store t1 p1 y1)
    (b0 b1 c0 c1 : Nat) (cs0 cs1 : List Value) (d0 d1 : TypeDesc)
    (R0 : w.drew.rangeAt b0 0 cs0) (R1 : w.drew.rangeAt b1 0 cs1) (T0 : w.drew.there c0 0 cs0.length) (T1 : w.drew.there c1 0 cs1.length) (hne : b1 ≠ c0)
    (hu0 : P.underlying t0 = some d0) (hd0 : d0.isRow = true) (hi0 : (P.info? t0).map (·.size) = some cs0.length) (n0 : ∀ v ∈ cs0, v.oneCell' = true)
    (hu1 : P.underlying t1 = some d1) (hd1 : d1.isRow = true) (hi1 : (P.info? t1).map (·.size) = some cs1.length) (n1 : ∀ v ∈ cs1, v.oneCell' = true)
    (e0 : a.eval x0 = .pointer (some ⟨b0, 0, none⟩)) (e0' : (a.put o1.dst (.agg cs1.toArray)).eval x0 = .pointer (some ⟨b0, 0, none⟩))
    (e1 : a.eval x1 = .pointer (some ⟨b1, 0, none⟩)) (e1' : (a.put o0.dst (.agg cs0.toArray)).eval x1 = .pointer (some ⟨b1, 0, none⟩)) (e1'' : ((a.put o0.dst (.agg cs0.toArray)).put o2.dst undef).eval x1 = .pointer (some ⟨b1, 0, none⟩))
    (k1 : (a.put o1.dst (.agg cs1.toArray)).put o0.dst (.agg cs0.toArray) = (a.put o0.dst (.agg cs0.toArray)).put o1.dst (.agg cs1.toArray))
    (k2 : ((a.put o0.dst (.agg cs0.toArray)).put o2.dst undef).put o1.dst (.agg cs1.toArray) = ((a.put o0.dst (.agg cs0.toArray)).put o1.dst (.agg cs1.toArray)).put o2.dst undef)
    (q0 : (a.put o0.dst (.agg cs0.toArray)).eval p0 = .pointer (some ⟨c0, 0, none⟩)) (q0' : ((a.put o0.dst (.agg cs0.toArray)).put o1.dst (.agg cs1.toArray)).eval p0 = .pointer (some ⟨c0, 0, none⟩))
    (z0 : (a.put o0.dst (.agg cs0.toArray)).eval y0 = .agg cs0.toArray) (z0' : ((a.put o0.dst (.agg cs0.toArray)).put o1.dst (.agg cs1.toArray)).eval y0 = .agg cs0.toArray)
    (q1 : (((a.put o0.dst (.agg cs0.toArray)).put o1.dst (.agg cs1.toArray)).put o2.dst undef).eval p1 = .pointer (some ⟨c1, 0, none⟩))
    (z1 : (((a.put o0.dst (.agg cs0.toArray)).put o1.dst (.agg cs1.toArray)).put o2.dst undef).eval y1 = .agg cs1.toArray)
    (h : Q .normal ((((a.put o0.dst (.agg cs0.toArray)).put o1.dst (.agg cs1.toArray)).put o2.dst undef).put o3.dst undef) ((w.drew.setCells c0 0 cs0).setCells c1 0 cs1)) :
    (Code.region id #[o0, o1, o2, o3] true).wp P Q a w := by
  refine wp_region_any hm ?_
  show wpAny P .any #[o0, o1, o2, o3] Q 4 #[false, false, false, false] a w.drew
  have i0 : (#[o0, o1, o2, o3] : Array Oper)[0]? = some o0 := rfl
  have i1 : (#[o0, o1, o2, o3] : Array Oper)[1]? = some o1 := rfl
  have i2 : (#[o0, o1, o2, o3] : Array Oper)[2]? = some o2 := rfl
  have i3 : (#[o0, o1, o2, o3] : Array Oper)[3]? = some o3 := rfl
  have last : ∀ A, A = (((a.put o0.dst (.agg cs0.toArray)).put o1.dst (.agg cs1.toArray)).put o2.dst undef) → wpAny P .any #[o0, o1, o2, o3] Q 1 #[true, true, true, false] A (w.drew.setCells c0 0 cs0) := by
    rintro A rfl
    refine ⟨fun hr => (by rw [r5] at hr; simp at hr), fun i hi => ?_⟩
    rw [r5] at hi
    obtain rfl : i = 3 := by simpa using hi
    refine wpOp_in i3 g3 (wp_store_mid t1 p1 y1 h3 c1 0 cs1.toArray q1 z1 (World.there_setCells (by simpa using T1) _ _ _) (by simpa using hi1) (all_oneCell_toArray n1) ?_)
    exact ⟨r6, by simpa using h⟩
  have third : ∀ A, A = ((a.put o0.dst (.agg cs0.toArray)).put o1.dst (.agg cs1.toArray)) → wpAny P .any #[o0, o1, o2, o3] Q 2 #[true, true, false, false] A w.drew := by
    rintro A rfl
    refine ⟨fun hr => (by rw [r3] at hr; simp at hr), fun i hi => ?_⟩
    rw [r3] at hi
    obtain rfl : i = 2 := by simpa using hi
    refine wpOp_in i2 g2 (wp_store_mid t0 p0 y0 h2 c0 0 cs0.toArray q0' z0' (by simpa using T0) (by simpa using hi0) (all_oneCell_toArray n0) ?_)
    exact last _ rfl
  refine ⟨fun hr => (by rw [r0] at hr; simp at hr), fun i hi => ?_⟩
  rw [r0] at hi
  rcases (by simpa using hi : i = 0 ∨ i = 1) with rfl | rfl
  · refine wpOp_in i0 g0 (wp_load_mid t0 x0 h0 b0 0 e0 cs0 d0 R0 hu0 hd0 hi0 ?_)
    show wpAny P .any #[o0, o1, o2, o3] Q 3 #[true, false, false, false] _ w.drew
    refine ⟨fun hr => (by rw [r1] at hr; simp at hr), fun i hi => ?_⟩
    rw [r1] at hi
    rcases (by simpa using hi : i = 1 ∨ i = 2) with rfl | rfl
    · exact wpOp_in i1 g1 (wp_load_mid t1 x1 h1 b1 0 e1' cs1 d1 R1 hu1 hd1 hi1 (third _ rfl))
    · refine wpOp_in i2 g2 (wp_store_mid t0 p0 y0 h2 c0 0 cs0.toArray q0 z0 (by simpa using T0) (by simpa using hi0) (all_oneCell_toArray n0) ?_)
      show wpAny P .any #[o0, o1, o2, o3] Q 2 #[true, false, true, false] _ (w.drew.setCells c0 0 cs0)
      refine ⟨fun hr => (by rw [r4] at hr; simp at hr), fun i hi => ?_⟩
      rw [r4] at hi
      obtain rfl : i = 1 := by simpa using hi
      exact wpOp_in i1 g1 (wp_load_mid t1 x1 h1 b1 0 e1'' cs1 d1 (World.rangeAt_setCells_apart R1 _ _ _ (Or.inl hne)) hu1 hd1 hi1 (last _ k2))
  · refine wpOp_in i1 g1 (wp_load_mid t1 x1 h1 b1 0 e1 cs1 d1 R1 hu1 hd1 hi1 ?_)
    show wpAny P .any #[o0, o1, o2, o3] Q 3 #[false, true, false, false] _ w.drew
    refine ⟨fun hr => (by rw [r2] at hr; simp at hr), fun i hi => ?_⟩
    rw [r2] at hi
    obtain rfl : i = 0 := by simpa using hi
    exact wpOp_in i0 g0 (wp_load_mid t0 x0 h0 b0 0 e0' cs0 d0 R0 hu0 hd0 hi0 (third _ k1))
end
end Go.Proofs.Ytkcanelboloihab
/-
  A drawn region that lays a struct of two calls' answers into a variable of its own: the variable may be made ahead of, between or behind the calls. One law for all orders, one way on.
-/
namespace Go.Proofs.Ytkcanelboloihab
open Go Go.RowKit Go.BigFrame
set_option linter.unusedVariables false

theorem wpH_in {P : Program} {ops : Array Oper} {Q : Exit → Act → World → Prop} {i : Nat} {o : Oper} {K : Act → World → Prop} {a : Act} {w : World} (hi : ops[i]? = some o) (hg : o.guard = none) (h : o.wp P a w K Q) : wpOp P ops Q i K a w := wpOp_in hi hg h

theorem wp_lit2 {P : Program} {id : Nat} {o0 o1 o2 o3 o4 o5 o6 o7 o8 o9 o10 o11 o12 : Oper} {Q : Exit → Act → World → Prop} {a : Act} {W : World} (hm : P.follows .mixedOrders = true) (hs : Region.noSelect #[o0, o1, o2, o3, o4, o5, o6, o7, o8, o9, o10, o11, o12] = true) 
    (f0 : Region.free .any #[o0, o1, o2, o3, o4, o5, o6, o7, o8, o9, o10, o11, o12] #[false, false, false, false, false, false, false, false, false, false, false, false, false] 0 = true) (r0 : (Region.ready .any #[o0, o1, o2, o3, o4, o5, o6, o7, o8, o9, o10, o11, o12] #[false, false, false, false, false, false, false, false, false, false, false, false, false]).contains 0 = true)
    (f1 : Region.free .any #[o0, o1, o2, o3, o4, o5, o6, o7, o8, o9, o10, o11, o12] #[true, false, false, false, false, false, false, false, false, false, false, false, false] 1 = true) (r1 : (Region.ready .any #[o0, o1, o2, o3, o4, o5, o6, o7, o8, o9, o10, o11, o12] #[true, false, false, false, false, false, false, false, false, false, false, false, false]).contains 1 = true)
    (f2 : Region.free .any #[o0, o1, o2, o3, o4, o5, o6, o7, o8, o9, o10, o11, o12] #[true, true, false, false, false, false, false, false, false, false, false, false, false] 2 = true) (r2 : (Region.ready .any #[o0, o1, o2, o3, o4, o5, o6, o7, o8, o9, o10, o11, o12] #[true, true, false, false, false, false, false, false, false, false, false, false, false]).contains 2 = true)
    (f3 : Region.free .any #[o0, o1, o2, o3, o4, o5, o6, o7, o8, o9, o10, o11, o12] #[true, true, true, false, false, false, false, false, false, false, false, false, false] 3 = true) (r3 : (Region.ready .any #[o0, o1, o2, o3, o4, o5, o6, o7, o8, o9, o10, o11, o12] #[true, true, true, false, false, false, false, false, false, false, false, false, false]).contains 3 = true)
    (f4 : Region.free .any #[o0, o1, o2, o3, o4, o5, o6, o7, o8, o9, o10, o11, o12] #[true, true, true, true, false, false, false, false, false, false, false, false, false] 4 = true) (r4 : (Region.ready .any #[o0, o1, o2, o3, o4, o5, o6, o7, o8, o9, o10, o11, o12] #[true, true, true, true, false, false, false, false, false, false, false, false, false]).contains 4 = true)
    (f6 : Region.free .any #[o0, o1, o2, o3, o4, o5, o6, o7, o8, o9, o10, o11, o12] #[true, true, true, true, true, false, false, false, false, false, false, false, false] 6 = true) (r6 : (Region.ready .any #[o0, o1, o2, o3, o4, o5, o6, o7, o8, o9, o10, o11, o12] #[true, true, true, true, true, false, false, false, false, false, false, false, false]).contains 6 = true)
    (f7 : Region.free .any #[o0, o1, o2, o3, o4, o5, o6, o7, o8, o9, o10, o11, o12] #[true, true, true, true, true, false, true, false, false, false, false, false, false] 7 = true) (r7 : (Region.ready .any #[o0, o1, o2, o3, o4, o5, o6, o7, o8, o9, o10, o11, o12] #[true, true, true, true, true, false, true, false, false, false, false, false, false]).contains 7 = true)
    (f8 : Region.free .any #[o0, o1, o2, o3, o4, o5, o6, o7, o8, o9, o10, o11, o12] #[true, true, true, true, true, false, true, true, false, false, false, false, false] 8 = true) (r8 : (Region.ready .any #[o0, o1, o2, o3, o4, o5, o6, o7, o8, o9, o10, o11, o12] #[true, true, true, true, true, false, true, true, false, false, false, false, false]).contains 8 = true)
    (q0 : Region.ready .any #[o0, o1, o2, o3, o4, o5, o6, o7, o8, o9, o10, o11, o12] #[true, true, true, true, true, false, true, true, true, false, false, false, false] = [5, 11])
    (q1 : Region.ready .any #[o0, o1, o2, o3, o4, o5, o6, o7, o8, o9, o10, o11, o12] #[true, true, true, true, true, true, true, true, true, false, false, false, false] = [9, 11])
    (q2 : Region.ready .any #[o0, o1, o2, o3, o4, o5, o6, o7, o8, o9, o10, o11, o12] #[true, true, true, true, true, false, true, true, true, false, false, true, false] = [5])
    (q3 : Region.ready .any #[o0, o1, o2, o3, o4, o5, o6, o7, o8, o9, o10, o11, o12] #[true, true, true, true, true, true, true, true, true, false, false, true, false] = [9])
    (f10a : Region.free .any #[o0, o1, o2, o3, o4, o5, o6, o7, o8, o9, o10, o11, o12] #[true, true, true, true, true, true, true, true, true, true, false, false, false] 10 = true) (r10a : (Region.ready .any #[o0, o1, o2, o3, o4, o5, o6, o7, o8, o9, o10, o11, o12] #[true, true, true, true, true, true, true, true, true, true, false, false, false]).contains 10 = true)
    (f10b : Region.free .any #[o0, o1, o2, o3, o4, o5, o6, o7, o8, o9, o10, o11, o12] #[true, true, true, true, true, true, true, true, true, true, false, true, false] 10 = true) (r10b : (Region.ready .any #[o0, o1, o2, o3, o4, o5, o6, o7, o8, o9, o10, o11, o12] #[true, true, true, true, true, true, true, true, true, true, false, true, false]).contains 10 = true)
    (q4 : Region.ready .any #[o0, o1, o2, o3, o4, o5, o6, o7, o8, o9, o10, o11, o12] #[true, true, true, true, true, true, true, true, true, true, true, false, false] = [11])
    (q5 : Region.ready .any #[o0, o1, o2, o3, o4, o5, o6, o7, o8, o9, o10, o11, o12] #[true, true, true, true, true, true, true, true, true, true, true, true, false] = [12])
    (q6 : Region.ready .any #[o0, o1, o2, o3, o4, o5, o6, o7, o8, o9, o10, o11, o12] #[true, true, true, true, true, true, true, true, true, true, true, true, true] = [])
    (g5 : o5.guard = none) (g9 : o9.guard = none) (g11 : o11.guard = none) (g12 : o12.guard = none) (v0 v1 v2 v3 v4 v6 v7 v8 v5 v9 v10 : Value) (hQ0 : ∀ c (a : Act) w, Q (.panic c) (a.put o0.dst v0) w → Q (.panic c) a w) (hQ1 : ∀ c (a : Act) w, Q (.panic c) (a.put o1.dst v1) w → Q (.panic c) a w) (hQ2 : ∀ c (a : Act) w, Q (.panic c) (a.put o2.dst v2) w → Q (.panic c) a w) (hQ3 : ∀ c (a : Act) w, Q (.panic c) (a.put o3.dst v3) w → Q (.panic c) a w) (hQ4 : ∀ c (a : Act) w, Q (.panic c) (a.put o4.dst v4) w → Q (.panic c) a w) (hQ6 : ∀ c (a : Act) w, Q (.panic c) (a.put o6.dst v6) w → Q (.panic c) a w) (hQ7 : ∀ c (a : Act) w, Q (.panic c) (a.put o7.dst v7) w → Q (.panic c) a w) (hQ8 : ∀ c (a : Act) w, Q (.panic c) (a.put o8.dst v8) w → Q (.panic c) a w) (hQ10 : ∀ c (a : Act) w, Q (.panic c) (a.put o10.dst v10) w → Q (.panic c) a w) (y0 : YieldsIf P #[o0, o1, o2, o3, o4, o5, o6, o7, o8, o9, o10, o11, o12] (fun w' => Kept [] W w') o0 v0 a)
    (y1 : YieldsIf P #[o0, o1, o2, o3, o4, o5, o6, o7, o8, o9, o10, o11, o12] (fun w' => Kept [] W w') o1 v1 (a.put o0.dst v0))
    (y2 : YieldsIf P #[o0, o1, o2, o3, o4, o5, o6, o7, o8, o9, o10, o11, o12] (fun w' => Kept [] W w') o2 v2 ((a.put o0.dst v0).put o1.dst v1))
    (y3 : YieldsIf P #[o0, o1, o2, o3, o4, o5, o6, o7, o8, o9, o10, o11, o12] (fun w' => Kept [] W w') o3 v3 (((a.put o0.dst v0).put o1.dst v1).put o2.dst v2))
    (y4 : YieldsIf P #[o0, o1, o2, o3, o4, o5, o6, o7, o8, o9, o10, o11, o12] (fun w' => Kept [] W w') o4 v4 ((((a.put o0.dst v0).put o1.dst v1).put o2.dst v2).put o3.dst v3))
    (y6 : YieldsIf P #[o0, o1, o2, o3, o4, o5, o6, o7, o8, o9, o10, o11, o12] (fun w' => Kept [] W w') o6 v6 (((((a.put o0.dst v0).put o1.dst v1).put o2.dst v2).put o3.dst v3).put o4.dst v4))
    (y7 : YieldsIf P #[o0, o1, o2, o3, o4, o5, o6, o7, o8, o9, o10, o11, o12] (fun w' => Kept [] W w') o7 v7 ((((((a.put o0.dst v0).put o1.dst v1).put o2.dst v2).put o3.dst v3).put o4.dst v4).put o6.dst v6))
    (y8 : YieldsIf P #[o0, o1, o2, o3, o4, o5, o6, o7, o8, o9, o10, o11, o12] (fun w' => Kept [] W w') o8 v8 (((((((a.put o0.dst v0).put o1.dst v1).put o2.dst v2).put o3.dst v3).put o4.dst v4).put o6.dst v6).put o7.dst v7))
    (c5 : ∀ w' K, Kept [] W w' → (∀ w'', Kept [] W w'' → Kept [] w' w'' → K (((((((((a.put o0.dst v0).put o1.dst v1).put o2.dst v2).put o3.dst v3).put o4.dst v4).put o6.dst v6).put o7.dst v7).put o8.dst v8).put o5.dst v5) w'') → o5.wp P ((((((((a.put o0.dst v0).put o1.dst v1).put o2.dst v2).put o3.dst v3).put o4.dst v4).put o6.dst v6).put o7.dst v7).put o8.dst v8) w' K Q) (c5g : ∀ (g : Nat) w' K, Kept [] W w' → (∀ w'', Kept [] W w'' → Kept [] w' w'' → K ((((((((((a.put o0.dst v0).put o1.dst v1).put o2.dst v2).put o3.dst v3).put o4.dst v4).put o6.dst v6).put o7.dst v7).put o8.dst v8).put o11.dst (.pointer (some ⟨g, 0, none⟩))).put o5.dst v5) w'') → o5.wp P (((((((((a.put o0.dst v0).put o1.dst v1).put o2.dst v2).put o3.dst v3).put o4.dst v4).put o6.dst v6).put o7.dst v7).put o8.dst v8).put o11.dst (.pointer (some ⟨g, 0, none⟩))) w' K Q)
    (k1 : ∀ g : Nat, (((((((((a.put o0.dst v0).put o1.dst v1).put o2.dst v2).put o3.dst v3).put o4.dst v4).put o6.dst v6).put o7.dst v7).put o8.dst v8).put o11.dst (.pointer (some ⟨g, 0, none⟩))).put o5.dst v5 = (((((((((a.put o0.dst v0).put o1.dst v1).put o2.dst v2).put o3.dst v3).put o4.dst v4).put o6.dst v6).put o7.dst v7).put o8.dst v8).put o5.dst v5).put o11.dst (.pointer (some ⟨g, 0, none⟩)))
    (c9 : ∀ w' K, Kept [] W w' → (∀ w'', Kept [] W w'' → Kept [] w' w'' → K ((((((((((a.put o0.dst v0).put o1.dst v1).put o2.dst v2).put o3.dst v3).put o4.dst v4).put o6.dst v6).put o7.dst v7).put o8.dst v8).put o5.dst v5).put o9.dst v9) w'') → o9.wp P (((((((((a.put o0.dst v0).put o1.dst v1).put o2.dst v2).put o3.dst v3).put o4.dst v4).put o6.dst v6).put o7.dst v7).put o8.dst v8).put o5.dst v5) w' K Q) (c9g : ∀ (g : Nat) w' K, Kept [] W w' → (∀ w'', Kept [] W w'' → Kept [] w' w'' → K (((((((((((a.put o0.dst v0).put o1.dst v1).put o2.dst v2).put o3.dst v3).put o4.dst v4).put o6.dst v6).put o7.dst v7).put o8.dst v8).put o5.dst v5).put o11.dst (.pointer (some ⟨g, 0, none⟩))).put o9.dst v9) w'') → o9.wp P ((((((((((a.put o0.dst v0).put o1.dst v1).put o2.dst v2).put o3.dst v3).put o4.dst v4).put o6.dst v6).put o7.dst v7).put o8.dst v8).put o5.dst v5).put o11.dst (.pointer (some ⟨g, 0, none⟩))) w' K Q)
    (k2 : ∀ g : Nat, ((((((((((a.put o0.dst v0).put o1.dst v1).put o2.dst v2).put o3.dst v3).put o4.dst v4).put o6.dst v6).put o7.dst v7).put o8.dst v8).put o5.dst v5).put o11.dst (.pointer (some ⟨g, 0, none⟩))).put o9.dst v9 = ((((((((((a.put o0.dst v0).put o1.dst v1).put o2.dst v2).put o3.dst v3).put o4.dst v4).put o6.dst v6).put o7.dst v7).put o8.dst v8).put o5.dst v5).put o9.dst v9).put o11.dst (.pointer (some ⟨g, 0, none⟩)))
    (y10 : YieldsIf P #[o0, o1, o2, o3, o4, o5, o6, o7, o8, o9, o10, o11, o12] (fun w' => Kept [] W w') o10 v10 ((((((((((a.put o0.dst v0).put o1.dst v1).put o2.dst v2).put o3.dst v3).put o4.dst v4).put o6.dst v6).put o7.dst v7).put o8.dst v8).put o5.dst v5).put o9.dst v9)) (y10g : ∀ g : Nat, YieldsIf P #[o0, o1, o2, o3, o4, o5, o6, o7, o8, o9, o10, o11, o12] (fun w' => Kept [] W w') o10 v10 (((((((((((a.put o0.dst v0).put o1.dst v1).put o2.dst v2).put o3.dst v3).put o4.dst v4).put o6.dst v6).put o7.dst v7).put o8.dst v8).put o5.dst v5).put o9.dst v9).put o11.dst (.pointer (some ⟨g, 0, none⟩))))
    (k3 : ∀ g : Nat, (((((((((((a.put o0.dst v0).put o1.dst v1).put o2.dst v2).put o3.dst v3).put o4.dst v4).put o6.dst v6).put o7.dst v7).put o8.dst v8).put o5.dst v5).put o9.dst v9).put o11.dst (.pointer (some ⟨g, 0, none⟩))).put o10.dst v10 = (((((((((((a.put o0.dst v0).put o1.dst v1).put o2.dst v2).put o3.dst v3).put o4.dst v4).put o6.dst v6).put o7.dst v7).put o8.dst v8).put o5.dst v5).put o9.dst v9).put o10.dst v10).put o11.dst (.pointer (some ⟨g, 0, none⟩)))
    (ty : TypeId) (zs R : Array Value)
    (al : ∀ (act : Act) (w' : World) K, K (act.put o11.dst (.pointer (some ⟨w'.heap.size, 0, none⟩))) (w'.alloc (.cells zs ty)) → o11.wp P act w' K Q)
    (p12 y12 : Operand) (h12 : o12.op = .store ty p12 y12) (hp12 : ∀ g : Nat, ((((((((((((a.put o0.dst v0).put o1.dst v1).put o2.dst v2).put o3.dst v3).put o4.dst v4).put o6.dst v6).put o7.dst v7).put o8.dst v8).put o5.dst v5).put o9.dst v9).put o10.dst v10).put o11.dst (.pointer (some ⟨g, 0, none⟩))).eval p12 = (.pointer (some ⟨g, 0, none⟩))) (hy12 : ∀ g : Nat, ((((((((((((a.put o0.dst v0).put o1.dst v1).put o2.dst v2).put o3.dst v3).put o4.dst v4).put o6.dst v6).put o7.dst v7).put o8.dst v8).put o5.dst v5).put o9.dst v9).put o10.dst v10).put o11.dst (.pointer (some ⟨g, 0, none⟩))).eval y12 = .agg R) (hi12 : (P.info? ty).map (·.size) = some R.size) (hold12 : zs.size = R.size) (hone12 : R.all (·.oneCell') = true)
    (h : ∀ (g : Nat) (w' : World), Kept [] W w' → W.heap.size ≤ g → w'.heap[g]? = some (.cells R ty (0, 0)) → Q .normal (((((((((((((a.put o0.dst v0).put o1.dst v1).put o2.dst v2).put o3.dst v3).put o4.dst v4).put o6.dst v6).put o7.dst v7).put o8.dst v8).put o5.dst v5).put o9.dst v9).put o10.dst v10).put o11.dst (.pointer (some ⟨g, 0, none⟩))).put o12.dst undef) w') :
    (Code.region id #[o0, o1, o2, o3, o4, o5, o6, o7, o8, o9, o10, o11, o12] true).wp P Q a W := by
  refine wp_region_any hm ?_
  refine wpAny_of_held (S := fun w' => Kept [] W w') _ _ _ _ ?_
  have hS0 : Kept [] W { W with drawn := W.drawn + 1 } := (Kept.refl [] W).drew
  show wpAnyH P .any #[o0, o1, o2, o3, o4, o5, o6, o7, o8, o9, o10, o11, o12] Q _ 13 #[false, false, false, false, false, false, false, false, false, false, false, false, false] a _
  -- behind all: the store
  have last : ∀ (g : Nat) (w' : World) A, A = (((((((((((a.put o0.dst v0).put o1.dst v1).put o2.dst v2).put o3.dst v3).put o4.dst v4).put o6.dst v6).put o7.dst v7).put o8.dst v8).put o5.dst v5).put o9.dst v9).put o10.dst v10).put o11.dst (.pointer (some ⟨g, 0, none⟩)) → Kept [] W w' → W.heap.size ≤ g → w'.heap[g]? = some (.cells zs ty (0, 0)) → wpAnyH P .any #[o0, o1, o2, o3, o4, o5, o6, o7, o8, o9, o10, o11, o12] Q (fun w' => Kept [] W w') 1 #[true, true, true, true, true, true, true, true, true, true, true, true, false] A w' := by
    rintro g w' A rfl hk hg hz
    refine ⟨fun hr => (by rw [q5] at hr; simp at hr), fun i hi => ?_⟩
    rw [q5] at hi
    obtain rfl : i = 12 := by simpa using hi
    refine wpH_in rfl g12 (wp_store_row ty p12 y12 h12 g R (hp12 g) (hy12 g) ty zs hz hi12 hold12 hone12 ⟨hk.setRow (Or.inr hg) _, ?_⟩)
    exact ⟨q6, h g _ (hk.setRow (Or.inr hg) _) hg (setRow_heap _ _ _ _ _ _ hz)⟩
  -- the variable is made; both calls are done
  have built : ∀ (g : Nat) (w' : World) A, A = ((((((((((a.put o0.dst v0).put o1.dst v1).put o2.dst v2).put o3.dst v3).put o4.dst v4).put o6.dst v6).put o7.dst v7).put o8.dst v8).put o5.dst v5).put o9.dst v9).put o11.dst (.pointer (some ⟨g, 0, none⟩)) → Kept [] W w' → W.heap.size ≤ g → w'.heap[g]? = some (.cells zs ty (0, 0)) → wpAnyH P .any #[o0, o1, o2, o3, o4, o5, o6, o7, o8, o9, o10, o11, o12] Q (fun w' => Kept [] W w') 2 #[true, true, true, true, true, true, true, true, true, true, false, true, false] A w' := by
    rintro g w' A rfl hk hg hz
    refine wpAnyH_take (i := 10) (oi := o10) (v := v10) rfl hs f10b r10b hQ10 (y10g g) hk ?_
    exact last g w' _ (k3 g) hk hg hz
  -- the variable is made; the first call is done
  have one : ∀ (g : Nat) (w' : World) A, A = (((((((((a.put o0.dst v0).put o1.dst v1).put o2.dst v2).put o3.dst v3).put o4.dst v4).put o6.dst v6).put o7.dst v7).put o8.dst v8).put o5.dst v5).put o11.dst (.pointer (some ⟨g, 0, none⟩)) → Kept [] W w' → W.heap.size ≤ g → w'.heap[g]? = some (.cells zs ty (0, 0)) → wpAnyH P .any #[o0, o1, o2, o3, o4, o5, o6, o7, o8, o9, o10, o11, o12] Q (fun w' => Kept [] W w') 3 #[true, true, true, true, true, true, true, true, true, false, false, true, false] A w' := by
    rintro g w' A rfl hk hg hz
    refine ⟨fun hr => (by rw [q3] at hr; simp at hr), fun i hi => ?_⟩
    rw [q3] at hi
    obtain rfl : i = 9 := by simpa using hi
    refine wpH_in rfl g9 (c9g g w' _ hk (fun w'' hk2 hk3 => ⟨hk2, ?_⟩))
    exact built g w'' _ (k2 g) hk2 hg (hk3.heap hz (by simp))
  refine wpAnyH_take (i := 0) (oi := o0) (v := v0) rfl hs f0 r0 hQ0 y0 hS0 ?_
  show wpAnyH P .any #[o0, o1, o2, o3, o4, o5, o6, o7, o8, o9, o10, o11, o12] Q _ 12 #[true, false, false, false, false, false, false, false, false, false, false, false, false] _ _
  refine wpAnyH_take (i := 1) (oi := o1) (v := v1) rfl hs f1 r1 hQ1 y1 hS0 ?_
  show wpAnyH P .any #[o0, o1, o2, o3, o4, o5, o6, o7, o8, o9, o10, o11, o12] Q _ 11 #[true, true, false, false, false, false, false, false, false, false, false, false, false] _ _
  refine wpAnyH_take (i := 2) (oi := o2) (v := v2) rfl hs f2 r2 hQ2 y2 hS0 ?_
  show wpAnyH P .any #[o0, o1, o2, o3, o4, o5, o6, o7, o8, o9, o10, o11, o12] Q _ 10 #[true, true, true, false, false, false, false, false, false, false, false, false, false] _ _
  refine wpAnyH_take (i := 3) (oi := o3) (v := v3) rfl hs f3 r3 hQ3 y3 hS0 ?_
  show wpAnyH P .any #[o0, o1, o2, o3, o4, o5, o6, o7, o8, o9, o10, o11, o12] Q _ 9 #[true, true, true, true, false, false, false, false, false, false, false, false, false] _ _
  refine wpAnyH_take (i := 4) (oi := o4) (v := v4) rfl hs f4 r4 hQ4 y4 hS0 ?_
  show wpAnyH P .any #[o0, o1, o2, o3, o4, o5, o6, o7, o8, o9, o10, o11, o12] Q _ 8 #[true, true, true, true, true, false, false, false, false, false, false, false, false] _ _
  refine wpAnyH_take (i := 6) (oi := o6) (v := v6) rfl hs f6 r6 hQ6 y6 hS0 ?_
  show wpAnyH P .any #[o0, o1, o2, o3, o4, o5, o6, o7, o8, o9, o10, o11, o12] Q _ 7 #[true, true, true, true, true, false, true, false, false, false, false, false, false] _ _
  refine wpAnyH_take (i := 7) (oi := o7) (v := v7) rfl hs f7 r7 hQ7 y7 hS0 ?_
  show wpAnyH P .any #[o0, o1, o2, o3, o4, o5, o6, o7, o8, o9, o10, o11, o12] Q _ 6 #[true, true, true, true, true, false, true, true, false, false, false, false, false] _ _
  refine wpAnyH_take (i := 8) (oi := o8) (v := v8) rfl hs f8 r8 hQ8 y8 hS0 ?_
  show wpAnyH P .any #[o0, o1, o2, o3, o4, o5, o6, o7, o8, o9, o10, o11, o12] Q _ 5 #[true, true, true, true, true, false, true, true, true, false, false, false, false] _ _
  refine ⟨fun hr => (by rw [q0] at hr; simp at hr), fun i hi => ?_⟩
  rw [q0] at hi
  rcases (by simpa using hi : i = 5 ∨ i = 11) with rfl | rfl
  · refine wpH_in rfl g5 (c5 _ _ hS0 (fun w1 hk1 _ => ⟨hk1, ?_⟩))
    show wpAnyH P .any #[o0, o1, o2, o3, o4, o5, o6, o7, o8, o9, o10, o11, o12] Q _ 4 #[true, true, true, true, true, true, true, true, true, false, false, false, false] _ _
    refine ⟨fun hr => (by rw [q1] at hr; simp at hr), fun i hi => ?_⟩
    rw [q1] at hi
    rcases (by simpa using hi : i = 9 ∨ i = 11) with rfl | rfl
    · refine wpH_in rfl g9 (c9 _ _ hk1 (fun w2 hk2 _ => ⟨hk2, ?_⟩))
      show wpAnyH P .any #[o0, o1, o2, o3, o4, o5, o6, o7, o8, o9, o10, o11, o12] Q _ 3 #[true, true, true, true, true, true, true, true, true, true, false, false, false] _ _
      refine wpAnyH_take (i := 10) (oi := o10) (v := v10) rfl hs f10a r10a hQ10 y10 hk2 ?_
      show wpAnyH P .any #[o0, o1, o2, o3, o4, o5, o6, o7, o8, o9, o10, o11, o12] Q _ 2 #[true, true, true, true, true, true, true, true, true, true, true, false, false] _ _
      refine ⟨fun hr => (by rw [q4] at hr; simp at hr), fun i hi => ?_⟩
      rw [q4] at hi
      obtain rfl : i = 11 := by simpa using hi
      refine wpH_in rfl g11 (al _ _ _ ⟨hk2.alloc _, ?_⟩)
      exact last _ _ _ rfl (hk2.alloc _) hk2.size (heap_alloc_new w2 _)
    · refine wpH_in rfl g11 (al _ _ _ ⟨hk1.alloc _, ?_⟩)
      exact one _ _ _ rfl (hk1.alloc _) hk1.size (heap_alloc_new w1 _)
  · refine wpH_in rfl g11 (al _ _ _ ⟨hS0.alloc _, ?_⟩)
    show wpAnyH P .any #[o0, o1, o2, o3, o4, o5, o6, o7, o8, o9, o10, o11, o12] Q _ 4 #[true, true, true, true, true, false, true, true, true, false, false, true, false] _ _
    refine ⟨fun hr => (by rw [q2] at hr; simp at hr), fun i hi => ?_⟩
    rw [q2] at hi
    obtain rfl : i = 5 := by simpa using hi
    refine wpH_in rfl g5 (c5g _ _ _ (hS0.alloc _) (fun w1 hk1 hk2 => ⟨hk1, ?_⟩))
    exact one _ _ _ (k1 _) hk1 hS0.size (hk2.heap (heap_alloc_new _ _) (by simp))
end Go.Proofs.Ytkcanelboloihab
namespace Go.Proofs.Ytkcanelboloihab
open Go.RowKit Go.BigFrame
set_option linter.unusedVariables false
set_option linter.unusedSimpArgs false

theorem ev_ne {a : Act} {d t : Nat} {v : Value} (h : d ≠ t) : (a.put (some d) v).eval (.tmp t) = a.eval (.tmp t) := by
  simp [Act.put, Act.eval, Array.getElem?_setIfInBounds, h]
theorem ev_eq {a : Act} {d : Nat} {v : Value} (h : d < a.tmps.size) : (a.put (some d) v).eval (.tmp d) = v := by
  simp [Act.put, Act.eval, Array.getElem?_setIfInBounds, h]
theorem ev_size {a : Act} {d : Nat} {v : Value} : (a.put (some d) v).tmps.size = a.tmps.size := by simp [Act.put]
theorem ev_comm {a : Act} {d e : Nat} {v u : Value} (h : d ≠ e) : (a.put (some d) v).put (some e) u = (a.put (some e) u).put (some d) v := by
  simp [Act.put, Array.setIfInBounds_comm _ _ h]
theorem run_move {P : Program} {o : Oper} {a : Act} (x : Operand) (ho : o.op = .move x) (v : Value) (hx : a.eval x = v) (w : World) : (execOp a.eval o).run P w = .ok (.value v) w := by
  unfold execOp; simp [ho, hx]
theorem fa_root0 {o : Oper} {a : Act} (x : Operand) (ho : o.op = .fieldAddr 29 x 0) (g : Nat) (hx : a.eval x = .pointer (some ⟨g, 0, none⟩)) (w : World) : (execOp a.eval o).run Try.prog w = .ok (.value (.pointer (some ⟨g, 0, none⟩))) w := by
  unfold execOp; simp only [ho, hx]; go_simp
theorem fa_root1 {o : Oper} {a : Act} (x : Operand) (ho : o.op = .fieldAddr 29 x 1) (g : Nat) (hx : a.eval x = .pointer (some ⟨g, 0, none⟩)) (w : World) : (execOp a.eval o).run Try.prog w = .ok (.value (.pointer (some ⟨g, 1, none⟩))) w := by
  unfold execOp; simp only [ho, hx]; go_simp
theorem fa_root2 {o : Oper} {a : Act} (x : Operand) (ho : o.op = .fieldAddr 29 x 2) (g : Nat) (hx : a.eval x = .pointer (some ⟨g, 0, none⟩)) (w : World) : (execOp a.eval o).run Try.prog w = .ok (.value (.pointer (some ⟨g, 33, none⟩))) w := by
  unfold execOp; simp only [ho, hx]; go_simp

theorem wp_cut {o : Oper} {a : Act} {w : World} {K : Act → World → Prop} {Q : Exit → Act → World → Prop} (x y : Operand) (ts : Array TypeId) (ho : o.op = .call { callee := .value (.func 12), args := #[x, y], argTypes := ts }) (k : Nat) (d : List Nat) (hx : a.eval x = .int .i64 k) (hy : a.eval y = .agg (d.map u8).toArray)
    (h1 : 1 ≤ k) (h2 : k ≤ 32) (hd : d.length = 32) (hb : ∀ z ∈ d, z < 256) (h : ∀ w'', Kept [] w w'' → K (a.put o.dst (.agg ((cutL k d).map u8).toArray)) w'') : o.wp Try.prog a w K Q := by
  unfold Oper.wp execOp
  simp only [ho]
  have hf : a.eval (.func 12) = .func (.func 12) #[] #[] := rfl
  have hcl : ∀ args W, (callFunc 12 args).run Try.prog W = .ok (.enter 12 args) W := fun args W => Try.call12 args W
  simp only [resolve, invoke, hf, hx, hy, Sem.run_bind, Sem.run_pure, Result.andThen_ok, List.map_toArray, List.map_cons, List.map_nil, hcl]
  simp [Deferred.ofValue, hcl, go_sem]
  refine (tcut_any k d w h1 h2 hd hb).mono ?_
  rintro e w2 ⟨rfl, k2⟩
  exact h w2 k2

theorem foldl_set (vs : List Value) : ∀ (pre mid post : List Value) (k : Nat), mid.length = vs.length → ((vs.zipIdx k).foldl (fun cs (p : Value × Nat) => cs.setIfInBounds (pre.length + p.2 - k) p.1) (pre ++ (mid ++ post)).toArray) = (pre ++ (vs ++ post)).toArray := by
  induction vs with
  | nil => intro pre mid post k h; have : mid = [] := List.eq_nil_of_length_eq_zero (by simpa using h); subst this; rfl
  | cons v r ih =>
    intro pre mid post k h
    obtain ⟨x, mid, rfl⟩ : ∃ x q, mid = x :: q := by cases mid with | nil => simp at h | cons x q => exact ⟨x, q, rfl⟩
    rw [List.zipIdx_cons, List.foldl_cons]
    have e1 : (pre ++ (x :: mid ++ post)).toArray.setIfInBounds (pre.length + k - k) v = ((pre ++ [v]) ++ (mid ++ post)).toArray := by rw [Nat.add_sub_cancel]; simp
    have h2 := ih (pre ++ [v]) mid post (k + 1) (by simpa using h)
    simp only [e1]
    rw [List.length_append, List.length_cons, List.length_nil] at h2
    have e2 : (fun (cs : Array Value) (p : Value × Nat) => cs.setIfInBounds (pre.length + p.2 - k) p.1) = fun cs p => cs.setIfInBounds (pre.length + (0 + 1) + p.2 - (k + 1)) p.1 := by funext cs p; congr 1; omega
    rw [e2, h2]; simp
theorem built_root (s : Nat) (l m : List Nat) (hl : l.length = 32) (hm : m.length = 32) (w : World) :
    (Instr.build 29 #[(0, .int .u64 (s : Int)), (1, .agg (l.map u8).toArray), (2, .agg (m.map u8).toArray)]).run Try.prog w = .ok (.agg (rootC s l m).toArray) w := by
  refine run_build w _ _ _ ?_
  have hi : (Try.prog.info? 29).isSome = true := by kernel_rfl
  obtain ⟨it, hit⟩ := Option.isSome_iff_exists.1 hi
  have hz : (Try.prog.info? 29).bind (·.zero) = some (.agg (rootC 0 z32 z32).toArray) := by kernel_rfl
  rw [hit, Option.bind_some] at hz
  have hpl : ∀ fs, Try.prog.underlying 29 = some (.struct fs) → fs.toList.mapM (fun f => (Try.prog.info? f.type).map fun i => (f.offset, i.size)) = some [(0, 1), (1, 32), (33, 32)] := by
    intro fs hfs
    rw [Try.underlying29] at hfs
    injection hfs with hfs
    injection hfs with hfs
    subst hfs
    kernel_rfl
  have hex : ∃ fs, Try.prog.underlying 29 = some (.struct fs) := ⟨_, Try.underlying29⟩
  obtain ⟨fs, hfs⟩ := hex
  have hpl := hpl fs hfs
  unfold Program.built
  rw [hit, hfs]
  simp only [hz, hpl]
  have z1 : z32.length = 32 := z32_len
  have f1 := foldl_set [Value.int .u64 (s : Int)] [] [.int .u64 0] (z32.map u8 ++ z32.map u8) 0 rfl
  have f2 := foldl_set (l.map u8) [.int .u64 (s : Int)] (z32.map u8) (z32.map u8) 0 (by simp [hl, z1])
  have f3 := foldl_set (m.map u8) (.int .u64 (s : Int) :: l.map u8) (z32.map u8) [] 0 (by simp [hm, z1])
  simp [Instr.fill, Value.cells, rootC, hl, hm, z1] at f1 f2 f3 ⊢
  rw [f2]
  exact ⟨by simp [hl, z1], f3⟩
theorem decE_zero {p : List Nat} {en : En} {fe : Nat} (h : decE p = (en, fe)) (h0 : fe ≠ 0) : en = ⟨0, [], []⟩ := by
  unfold decE at h
  split at h
  · injection h with h1 h2; exact h1.symm
  · split at h
    · injection h with h1 h2; exact h1.symm
    · injection h with h1 h2; exact absurd h2.symm h0
theorem cutL_cut {k : Nat} {d : List Nat} (hk : k ≤ 32) (hd : d.length = 32) : cutL k (cutL k d) = cutL k d := by
  unfold cutL
  rw [List.take_append_of_le_length (by simp [hd]; omega), List.take_take, Nat.min_self]
theorem rootE_cut {k : Nat} {l m : List Nat} (h1 : 1 ≤ k) (h2 : k ≤ 32) (hl : l.length = 32) (hm : m.length = 32) : rootE (k : Int) (cutL k l) (cutL k m) = 0 := by
  have hw : widthB (k : Int) = true := by simp [widthB]; omega
  unfold rootE
  rw [if_neg (by simp [hw]), if_neg (by simp [formB, hw, cutL_cut h2 hl]), if_neg (by simp [formB, hw, cutL_cut h2 hm])]
theorem run_rootlit {o : Oper} {a : Act} (x y z : Operand) (ho : o.op = .build 29 #[(0, x), (1, y), (2, z)]) (s : Nat) (l m : List Nat) (hl : l.length = 32) (hm : m.length = 32) (hx : a.eval x = .int .u64 (s : Int)) (hy : a.eval y = .agg (l.map u8).toArray) (hz : a.eval z = .agg (m.map u8).toArray) (w : World) :
    (execOp a.eval o).run Try.prog w = .ok (.value (.agg (rootC s l m).toArray)) w := by
  unfold execOp
  have hb := built_root s l m hl hm w
  simp only [ho, List.map_toArray, List.map_cons, List.map_nil, hx, hy, hz, Sem.run_bind, hb, Result.andThen_ok, Sem.run_pure]
theorem wp_allocroot {o : Oper} {a : Act} {w : World} {K : Act → World → Prop} {Q : Exit → Act → World → Prop} (ho : o.op = .alloc 29) (h : K (a.put o.dst (.pointer (some ⟨w.heap.size, 0, none⟩))) (w.alloc (.cells Try.zeroCells29 29))) : o.wp Try.prog a w K Q := by
  unfold Oper.wp execOp
  simp only [ho]
  go_simp
  exact h
end Go.Proofs.Ytkcanelboloihab
namespace Go.Proofs.Ytkcanelboloihab
open Go.RowKit Go.BigFrame
set_option linter.unusedVariables false
set_option linter.unusedSimpArgs false

theorem owns_shapeN {w : World} {base : Nat} {v : Value} {n : Nat} {xs : List Value} (h : w.ownsRow base 35 3 v n xs) : ∃ ao cap, v = .slice ao n cap := by
  rcases h.2 with ⟨rfl, rfl⟩ | ⟨g, cap, cur, rfl, _⟩
  · exact ⟨_, _, rfl⟩
  · exact ⟨_, _, rfl⟩
theorem foldl_ok (es : List En) (h : ∀ e ∈ es, chkE e = 0) : es.foldl (fun a e => leastE a (chkE e)) 0 = 0 := by
  induction es with
  | nil => rfl
  | cons x xs ih =>
    rw [List.foldl_cons, h x (by simp), show leastE 0 0 = 0 from rfl]
    exact ih (fun e he => h e (by simp [he]))
theorem chkB_ok {f : Nat} {es : List En} (h1 : 1 ≤ es.length) (h2 : es.length ≤ 64) (hf : f < 4611686018427387904) (h : ∀ e ∈ es, chkE e = 0) : chkB f es = 0 := by
  unfold chkB
  rw [show cntE f es.length = 0 by unfold cntE; rw [if_neg (by omega), if_neg (by omega)]]
  exact foldl_ok es h
theorem batB_len {f : Nat} {es : List En} (h : chkB f es = 0) (hf : f < 18446744073709551616) : 0 < (batB f es).length ∧ (batB f es).length ≤ 30000 := by
  obtain ⟨h1, h2, _, h4⟩ := chkB_zero h
  have h5 := entB_len es h4
  have h6 := uv_len f hf
  have h7 := uv_len es.length (by omega)
  have h8 : 0 < (uv f).length := uv_pos f
  unfold batB
  simp only [List.length_append]
  omega
theorem rdN_one {w : World} {g : Nat} (h : w.heap[g]? = some (.cells #[.int .u8 2, .slice none 0 0, .slice none 0 0] 35 (0, 0))) : RdN w (.slice (some ⟨g, 0, none⟩) 1 1) [⟨2, [], []⟩] := by
  refine ⟨some ⟨g, 0, none⟩, 1, 1, fun _ => .slice none 0 0, fun _ => .slice none 0 0, rfl, rfl, Nat.le_refl _, by omega, fun i hi => ?_, fun _ => ⟨g, 0, rfl, fun i hi => ?_⟩⟩
  · obtain rfl : i = 0 := by simpa using hi
    exact ⟨by show (2 : Nat) < 256; omega, Rd.nil _, Rd.nil _⟩
  · obtain rfl : i = 0 := by simpa using hi
    intro j v hv
    rw [cell_of_row w g _ _ _ _ h]
    simpa [enC] using hv

set_option maxRecDepth 100000 in
set_option maxHeartbeats 16000000 in
theorem wholeEntries_walk (wd f : Nat) (v : Value) (es : List En) (s : Nat) (l m : List Nat) (u : Value) (p : List Nat) (w : World) (hwd : wd < 256) (hf : f < 18446744073709551616) (h : RdN w v es) (hlen : es.length ≤ 1048576) (hs : s < 18446744073709551616) (hl : l.length = 32 ∧ ∀ x ∈ l, x < 256) (hm : m.length = 32 ∧ ∀ x ∈ m, x < 256) (hu : Rd w u p) (hp : p.length ≤ 1048576) :
    Calls Try.prog 3 #[.int .u8 wd, .agg #[.int .u64 f, v], .agg (rootC s l m).toArray, u] w fun r w' => r = .returned (.bool true) ∧ Below w.heap.size w w' := by
  have H := hide h
  have HU := hide hu
  obtain ⟨a1, m1, c1, kv, vv, rfl, hm1, h2, h3, h4, h5⟩ := h
  subst hm1
  have H4 := hide h4
  have H5 := hide h5
  clear h4 h5
  obtain ⟨au, mu, cu, rfl, hmu, _⟩ := hu
  subst hmu
  have HL := hide hl
  have HM := hide hm
  clear hl hm
  obtain ⟨A, hA⟩ : ∃ A, (rootC s l m).toArray = A := ⟨_, rfl⟩
  have HAA := hide hA
  rw [hA]
  clear hA
  have hc1 := Lib.run_convert_bytes_const (P := Try.prog) ((w.alloc (.cells #[.int .u64 (f : Int), .slice a1 es.length c1] 25)).alloc (.cells A 29)) 30 5 #[.int .u8 107] 1 1 Try.underlying30 Try.underlying5
  have hc2 := Lib.run_convert_bytes_const (P := Try.prog) (((w.alloc (.cells #[.int .u64 (f : Int), .slice a1 es.length c1] 25)).alloc (.cells A 29)).alloc (.cells #[.int .u8 107] 5 (1, 2))) 30 5 #[.int .u8 118] 1 1 Try.underlying30 Try.underlying5
  rw [show ((w.alloc (.cells #[.int .u64 (f : Int), .slice a1 es.length c1] 25)).alloc (.cells A 29)).heap.size = w.heap.size + 1 + 1 by simp, show #[Value.int IntKind.u8 107].size = 1 from rfl] at hc1
  rw [show (((w.alloc (.cells #[.int .u64 (f : Int), .slice a1 es.length c1] 25)).alloc (.cells A 29)).alloc (.cells #[.int .u8 107] 5 (1, 2))).heap.size = w.heap.size + 1 + 1 + 1 by simp, show #[Value.int IntKind.u8 118].size = 1 from rfl] at hc2
  have HW0 := hide (heap_alloc3e w (.cells #[.int .u64 (f : Int), .slice a1 es.length c1] 25) (.cells A 29) (.cells #[.int .u8 107] 5 (1, 2)))
  have HW1 := hide (heap_alloc_new (((w.alloc (.cells #[.int .u64 (f : Int), .slice a1 es.length c1] 25)).alloc (.cells A 29)).alloc (.cells #[.int .u8 107] 5 (1, 2))) (.cells #[.int .u8 118] 5 (1, 2)))
  rw [show (((w.alloc (.cells #[.int .u64 (f : Int), .slice a1 es.length c1] 25)).alloc (.cells A 29)).alloc (.cells #[.int .u8 107] 5 (1, 2))).heap.size = w.heap.size + 1 + 1 + 1 by simp] at HW1
  have HKW := hide ((Kept.refl [] (((w.alloc (.cells #[.int .u64 (f : Int), .slice a1 es.length c1] 25)).alloc (.cells A 29)).alloc (.cells #[.int .u8 107] 5 (1, 2)))).alloc (.cells #[.int .u8 118] 5 (1, 2)))
  have HK0 := hide (((((Kept.refl [] w).alloc (.cells #[.int .u64 (f : Int), .slice a1 es.length c1] 25)).alloc (.cells A 29)).alloc (.cells #[.int .u8 107] 5 (1, 2))).alloc (.cells #[.int .u8 118] 5 (1, 2)))
  go_enter Try.func3, Try.ntmps3
  go_wp2_with fail
  obtain ⟨W0, hW0⟩ : ∃ W, (((w.alloc (.cells #[.int .u64 (f : Int), .slice a1 es.length c1] 25)).alloc (.cells A 29)).alloc (.cells #[.int .u8 107] 5 (1, 2))).alloc (.cells #[.int .u8 118] 5 (1, 2)) = W := ⟨_, rfl⟩
  rw [hW0] at HW1 HKW HK0 ⊢
  clear hW0 hc1 hc2
  have HB0 := hide ((unhide HKW).heap (unhide HW0).1 (by simp))
  have HZ0 := hide ((unhide HKW).heap (unhide HW0).2.1 (by simp))
  have HC0 := hide ((unhide HKW).heap (unhide HW0).2.2 (by simp))
  have HO0 := hide (⟨by show (1 : Nat) < 256; omega, rd_row [107] (unhide HC0) rfl (by decide) 1 rfl (by decide), rd_row [118] (unhide HW1) rfl (by decide) 1 rfl (by decide)⟩ : OkE W0 ⟨1, [107], [118]⟩ (.slice (some ⟨w.heap.size + 1 + 1, 0, none⟩) 1 1) (.slice (some ⟨w.heap.size + 1 + 1 + 1, 0, none⟩) 1 1))
  clear HW0 HW1 HKW HC0
  refine Calls.mono (eencode_any ⟨1, [107], [118]⟩ _ _ W0 (unhide HO0)) ?_
  rintro r w1 ⟨v1, rfl, n1, k1⟩
  rw [show chkE ⟨1, [107], [118]⟩ = 0 by decide, if_pos rfl, enB_k] at n1
  rw [show chkE ⟨1, [107], [118]⟩ = 0 by decide]
  obtain ⟨ax, mx, cx, hux, hmx, _⟩ := id n1.1
  subst hux
  have hmx5 : mx = 5 := hmx.symm
  subst hmx5
  have HB1 := hide (k1.heap (unhide HB0) (by simp))
  have HZ1 := hide (k1.heap (unhide HZ0) (by simp))
  have HK1 := hide ((unhide HK0).trans k1 (by simp))
  clear n1 k1 HB0 HZ0 HK0 HO0 hmx
  have b1' := cell_of_row _ _ 1 _ _ _ (unhide HB1)
  go_wp2_with fail
  clear b1'
  go_loopw [11, 12] (fun t11 t12 wr => ∃ (i : Nat) (aL : Option Addr) (mL cL : Nat) (ts : List (En × Value × Value)), i ≤ es.length ∧ i ≤ 64 ∧ t12 = .int .i64 i ∧ t11 = .slice aL mL cL ∧ Hid (ts.length = i) ∧ Hid (∀ t ∈ ts, chkE t.1 = 0) ∧ Hid (OwnA w1 wr (.slice aL mL cL) ts)) (fun _ t _ => 64 - (intOf t).toNat)
  case atStart => exact ⟨0, none, 0, 0, [], Nat.zero_le _, Nat.zero_le _, rfl, rfl, hide rfl, hide (by simp), hide (OwnA.start (Kept.refl [] w1))⟩
  case round =>
    obtain ⟨i, aL, mL, cL, ts, hi, hi64, rfl, rfl, HJ, HCH, HO⟩ := hrel
    have HBr := hide ((unhide HO).kept.heap (unhide HB1) (by simp))
    have b1' := cell_of_row _ _ 1 _ _ _ (unhide HBr)
    by_cases hgo : i < es.length ∧ i < 64
    · obtain ⟨hlt, hlt64⟩ := hgo
      have hlt' : (i : Int) < es.length := by omega
      have hlt64' : (i : Int) < 64 := by omega
      obtain ⟨b, off, rfl, hcc⟩ := unhide H5 (by omega)
      have hr := hcc i hlt
      have HKr := hide ((unhide HK1).trans (unhide HO).kept (by simp))
      have q0 := (unhide HKr).cell (hr 0 _ rfl) (by simp)
      have q1 := (unhide HKr).cell (hr 1 _ rfl) (by simp)
      have q2 := (unhide HKr).cell (hr 2 _ rfl) (by simp)
      rw [Nat.add_zero] at q0
      have HOE := hide ((unhide H4 i hlt).old (unhide HKr))
      have HOE1 := hide ((unhide H4 i hlt).old (unhide HK1))
      clear hcc hr
      generalize kv i = kvi at q1 HOE HOE1
      generalize vv i = vvi at q2 HOE HOE1
      generalize es[i] = e at q0 HOE HOE1
      obtain ⟨a8, m8, c8, rfl, _⟩ := id (unhide HOE).key
      obtain ⟨a9, m9, c9, rfl, _⟩ := id (unhide HOE).val
      go_wp2_with fail
      refine Calls.mono (fits_any e _ _ wr (unhide HOE)) ?_
      rintro r w2 ⟨kv2, vv2, rfl, ok2, k2⟩
      have HOK := hide (ok2 w1 (unhide HOE1))
      have HC2 := hide (fitE_ok e)
      generalize fitE e = e2 at HOK HC2
      obtain ⟨b8, n8, d8, hu8, _⟩ := id (unhide HOK).key
      subst hu8
      obtain ⟨b9, n9, d9, hu9, _⟩ := id (unhide HOK).val
      subst hu9
      have HO2 := hide (((unhide HO).old k2).old ((Kept.refl [] w2).alloc (.cells #[.int .u8 (e2.k : Int), .slice b8 n8 d8, .slice b9 n9 d9] 35)))
      have HB2 := hide (unhide HO2).kept.size
      clear ok2 k2
      unfold enC
      go_wp2_with (at_builtin; refine wpList_pushN rfl _ _ rfl rfl _ w1.heap.size (.slice aL mL cL) ts e2 (.slice b8 n8 d8) (.slice b9 n9 d9) w2.heap.size (unhide HO2).own (heap_alloc_new _ _) rfl rfl (by have := unhide HJ; omega) (unhide HB2) rfl rfl ?_; intro g cap2 w5 HO5 HG5 HA5)
      refine ⟨⟨i + 1, some ⟨g, 0, none⟩, ts.length + 1, cap2, ts ++ [(e2, .slice b8 n8 d8, .slice b9 n9 d9)], by omega, by omega, by go_num, rfl, hide (by rw [List.length_append, unhide HJ]; rfl), hide ?_, hide ((unhide HO2).push (unhide HOK) (unhide HO5) (unhide HG5))⟩, ?_⟩
      · intro t ht
        rcases List.mem_append.1 ht with ht | ht
        · exact unhide HCH t ht
        · rw [List.mem_singleton] at ht; subst ht; exact unhide HC2
      · simp [intOf]; omega
    · have hmL : mL = ts.length := by obtain ⟨_, _, h9⟩ := owns_shapeN (unhide HO).own; injection h9
      have HKr := hide ((unhide HK1).trans (unhide HO).kept (by simp))
      have HZr := hide ((unhide HO).kept.heap (unhide HZ1) (by simp))
      have b0' := cell_of_row _ _ 0 _ _ _ (unhide HBr)
      obtain ⟨g, hg⟩ : ∃ g, f % 4611686018427387904 = g := ⟨_, rfl⟩
      have hg1 : (f : Int) % 4611686018427387904 = (g : Int) := by omega
      have hg2 : (f : Int).tmod 4611686018427387904 = (g : Int) := by rw [Int.tmod_eq_emod_of_nonneg (by omega)]; omega
      have hg62 : g < 4611686018427387904 := by omega
      have hg64 : (g : Int) < 18446744073709551616 := by omega
      clear hg
      have HJm := hide (unhide HJ)
      by_cases hz : ts.length = 0
      case' pos =>
        have hlt' : ¬ (i : Int) < es.length := by have := unhide HJ; omega
        have hz0 : mL = 0 := by omega
        clear hmL
        subst hz0
        have HNa := hide (rdN_one (heap_alloc_new wr (.cells #[.int .u8 2, .slice none 0 0, .slice none 0 0] 35)))
        have ka := (Kept.refl [] wr).alloc (.cells #[.int .u8 2, .slice none 0 0, .slice none 0 0] 35)
        have HKa := hide ((unhide HKr).trans ka (by simp))
        have HBa := hide (ka.heap (unhide HBr) (by simp))
        have HZa := hide (ka.heap (unhide HZr) (by simp))
        have c0 := ka.cell b0' (by simp)
        have HLL := hide (show (1 ≤ [(⟨2, [], []⟩ : En)].length ∧ [(⟨2, [], []⟩ : En)].length ≤ 64) ∧ ∀ e ∈ [(⟨2, [], []⟩ : En)], chkE e = 0 from ⟨by simp, by intro e he; rw [List.mem_singleton] at he; subst he; decide⟩)
        clear ka hz
        go_wp2_with fail
        obtain ⟨WL, hWL⟩ : ∃ W, wr.alloc (.cells #[.int .u8 2, .slice none 0 0, .slice none 0 0] 35) = W := ⟨_, rfl⟩
        have HWP := hide (show WL.heap.size = wr.heap.size + 1 by rw [← hWL]; simp)
        rw [hWL] at HNa HKa HBa HZa ⊢
        clear hWL c0 b0' b1'
        obtain ⟨wp, hwp⟩ : ∃ wp, wr.heap.size + 1 = wp := ⟨_, rfl⟩
        rw [hwp] at HWP ⊢
        clear hwp
        obtain ⟨eL, heL⟩ : ∃ eL, [(⟨2, [], []⟩ : En)] = eL := ⟨_, rfl⟩
        rw [heL] at HNa HLL
        clear heL
        obtain ⟨vL, hvL⟩ : ∃ v, Value.slice (some ⟨wr.heap.size, 0, none⟩) 1 1 = v := ⟨_, rfl⟩
        rw [hvL] at HNa ⊢
        clear hvL
      case' neg =>
        have HNa := hide (unhide HO).rdN
        have HLL := hide (show (1 ≤ (ts.map (·.1)).length ∧ (ts.map (·.1)).length ≤ 64) ∧ ∀ e ∈ ts.map (·.1), chkE e = 0 from ⟨by rw [List.length_map]; have := unhide HJ; omega, by intro e he; obtain ⟨t, ht, rfl⟩ := List.mem_map.1 he; exact unhide HCH t ht⟩)
        have HKa := HKr
        have HBa := HBr
        have HZa := HZr
        have hz0 : ((mL : Int) == 0) = false := by rw [beq_eq_false_iff_ne]; omega
        have hor : ¬ i < es.length ∨ (i < es.length ∧ ¬ i < 64) := by omega
        clear hmL hz hgo
        rcases hor with hlt | ⟨hlt, hlt64⟩
      case' neg.inl =>
        have hlt' : ¬ (i : Int) < es.length := by omega
        go_wp2_with fail
        obtain ⟨wp, hwp⟩ : ∃ wp, wr.heap.size = wp := ⟨_, rfl⟩
        have HWP := hide (show wr.heap.size = wp from hwp)
        rw [hwp]
        clear hwp
        obtain ⟨eL, heL⟩ : ∃ eL, ts.map (·.1) = eL := ⟨_, rfl⟩
        rw [heL] at HNa HLL
        clear heL
        obtain ⟨vL, hvL⟩ : ∃ v, Value.slice aL mL cL = v := ⟨_, rfl⟩
        rw [hvL] at HNa ⊢
        clear hvL b0' b1'
        obtain ⟨WL, hWL⟩ : ∃ W, wr = W := ⟨_, rfl⟩
        rw [hWL] at HNa HKa HBa HZa HWP ⊢
        clear hWL
      case' neg.inr =>
        have hlt' : (i : Int) < es.length := by omega
        have hlt64' : ¬ (i : Int) < 64 := by omega
        go_wp2_with fail
        obtain ⟨wp, hwp⟩ : ∃ wp, wr.heap.size = wp := ⟨_, rfl⟩
        have HWP := hide (show wr.heap.size = wp from hwp)
        rw [hwp]
        clear hwp
        obtain ⟨eL, heL⟩ : ∃ eL, ts.map (·.1) = eL := ⟨_, rfl⟩
        rw [heL] at HNa HLL
        clear heL
        obtain ⟨vL, hvL⟩ : ∃ v, Value.slice aL mL cL = v := ⟨_, rfl⟩
        rw [hvL] at HNa ⊢
        clear hvL b0' b1'
        obtain ⟨WL, hWL⟩ : ∃ W, wr = W := ⟨_, rfl⟩
        rw [hWL] at HNa HKa HBa HZa HWP ⊢
        clear hWL
      all_goals
        clear HO HJ HJm HCH HKr HZr HBr HK1 HZ1 HB1 H H4 H5
        obtain ⟨aX, mX, cX, kX, vX, hvX, hmX, _⟩ := id (unhide HNa)
        subst hvX
        have ka := (Kept.refl [] WL).alloc (.cells #[.int .u64 (g : Int), .slice aX mX cX] 25)
        have HGw := hide (by have h9 := heap_alloc_new WL (.cells #[.int .u64 (g : Int), .slice aX mX cX] 25); rw [unhide HWP] at h9; exact h9)
        have HNb := hide ((unhide HNa).old ka)
        have HKb := hide ((unhide HKa).trans ka (by simp))
        have HZb := hide (ka.heap (unhide HZa) (by simp))
        clear ka HNa HKa HZa HBa
        obtain ⟨WM, hWM⟩ : ∃ W, WL.alloc (.cells #[.int .u64 (g : Int), .slice aX mX cX] 25) = W := ⟨_, rfl⟩
        rw [hWM] at HGw HNb HKb HZb ⊢
        clear hWM
        have HCK := hide (chkB_ok (f := g) (unhide HLL).1.1 (unhide HLL).1.2 (by omega) (unhide HLL).2)
        refine Calls.mono (encodeBatch_any g _ eL WM (by omega) (unhide HNb)) ?_
        rintro r w2 ⟨vx, rfl, nx, kx⟩
        rw [unhide HCK, if_pos rfl] at nx
        rw [unhide HCK]
        have HGw2 := hide (kx.heap (unhide HGw) (by simp))
        have HN2 := hide ((unhide HNb).old kx)
        have HK2 := hide ((unhide HKb).trans kx (by simp))
        have HZ2 := hide (kx.heap (unhide HZb) (by simp))
        have HX2 := hide nx.1
        obtain ⟨ay, my, cy, huy, hmy, _⟩ := id nx.1
        subst huy
        have HBL := hide (batB_len (f := g) (unhide HCK) (by omega))
        have HDB := hide (decB_back (f := g) (unhide HCK) (by omega))
        have HDM := hide (decB_more (r := [0]) (f := g) (unhide HCK) (by omega) (by simp))
        have HDL := hide (fun hn => decB_less (n := (batB g eL).length - 1) (f := g) (unhide HCK) (by omega) (unhide HX2).byte hn)
        clear nx kx HGw HNb HKb HZb
        obtain ⟨B, hB⟩ : ∃ B, batB g eL = B := ⟨_, rfl⟩
        rw [hB] at HX2 HBL HDB HDM HDL hmy
        clear hB
        subst hmy
        go_wp2_with fail
      all_goals
        refine Calls.mono (decodeBatch_any _ B w2 (unhide HX2)) ?_
        rintro r w3 ⟨bv, rfl, n3, k3⟩
        rw [unhide HDB] at n3 ⊢
        simp only at n3 ⊢
        have HN3 := hide n3.rdN
        obtain ⟨aY, mY, cY, kY, vY, hvY, hmY, hcY1, hcY2, hY4, hY5⟩ := n3.rdN
        subst hvY
        have HY4 := hide hY4
        have HY5 := hide hY5
        clear hY4 hY5
        obtain ⟨_, _, _, kX', vX', hvX', hmX', hcX1, hcX2, hX4, hX5⟩ := unhide HN2
        cases hvX'
        have ka := (Kept.refl [] w3).alloc (.cells #[.int .u64 (g : Int), .slice aY mY cY] 25)
        have k3a := k3.trans ka (by simp)
        have HX4 := hide (fun i hi => (hX4 i hi).old k3a)
        have HX5 := hide (fun h0 => by obtain ⟨b, off, e1, e2⟩ := hX5 h0; exact ⟨b, off, e1, fun i hi => rangeE_kept (e2 i hi) k3a (by simp)⟩ : 0 < mX → ∃ b off, aX = some ⟨b, off, none⟩ ∧ ∀ i (h : i < eL.length), (w3.alloc (.cells #[.int .u64 (g : Int), .slice aY mY cY] 25)).rangeAt b (off + i * 3) (enC eL[i] (kX' i) (vX' i)).toList)
        have HY4a := hide (fun i hi => (unhide HY4 i hi).old ka)
        have HY5a := hide (fun h0 => by obtain ⟨b, off, e1, e2⟩ := unhide HY5 h0; exact ⟨b, off, e1, fun i hi => rangeE_kept (e2 i hi) ka (by simp)⟩ : 0 < mY → ∃ b off, aY = some ⟨b, off, none⟩ ∧ ∀ i (h : i < eL.length), (w3.alloc (.cells #[.int .u64 (g : Int), .slice aY mY cY] 25)).rangeAt b (off + i * 3) (enC eL[i] (kY i) (vY i)).toList)
        have HGy := hide (heap_alloc_new w3 (.cells #[.int .u64 (g : Int), .slice aY mY cY] 25))
        have HGw3 := hide (k3a.heap (unhide HGw2) (by simp))
        have HK3 := hide ((unhide HK2).trans k3a (by simp))
        have HZ3 := hide (k3a.heap (unhide HZ2) (by simp))
        have HX3 := hide ((unhide HX2).old k3a (by simp))
        have y0 := cell_of_row _ _ 0 _ _ _ (unhide HGy)
        have y1 := cell_of_row _ _ 1 _ _ _ (unhide HGy)
        have g0 := cell_of_row _ _ 0 _ _ _ (unhide HGw3)
        clear n3 k3 ka k3a hX4 hX5 HY4 HY5 HGw2 HK2 HZ2 HX2 HN2 HN3
        have hmE : mY = mX := by omega
        subst hmE
        have hgg : ((g : Int) != (g : Int)) = false := by simp
        have hmm : ((mY : Int) != (mY : Int)) = false := by simp
        go_wp2_with fail
      all_goals
        obtain ⟨Wv, hWv⟩ : ∃ W, w3.alloc (.cells #[.int .u64 (g : Int), .slice aY mY cY] 25) = W := ⟨_, rfl⟩
        rw [hWv] at HX4 HX5 HY4a HY5a HGy HGw3 HK3 HZ3 HX3 y0 y1 g0 ⊢
        clear hWv y0 y1 g0
        go_loopw [18] (fun t wr => ∃ (k : Nat), k ≤ mY ∧ t = .int .i64 k ∧ Hid (Kept [] Wv wr)) (fun t _ => mY - (intOf t).toNat)
        case atStart => exact ⟨0, Nat.zero_le _, rfl, hide (Kept.refl [] Wv)⟩
        case round =>
          obtain ⟨k, hk, rfl, HKq⟩ := hrel
          by_cases hltk : k < mY
          · have hltk' : (k : Int) < mY := by omega
            have y1 := (unhide HKq).cell (cell_of_row _ _ 1 _ _ _ (unhide HGy)) (by simp)
            obtain ⟨bx, ox, rfl, hcx⟩ := unhide HX5 (by omega)
            obtain ⟨by', oy, rfl, hcy⟩ := unhide HY5a (by omega)
            have HRX := hide (rangeE_kept (hcx k (by omega)) (unhide HKq) (by simp))
            have HRY := hide (rangeE_kept (hcy k (by omega)) (unhide HKq) (by simp))
            have HOx := hide ((unhide HX4 k (by omega)).old (unhide HKq))
            have HOy := hide ((unhide HY4a k (by omega)).old (unhide HKq))
            have HCk := hide ((unhide HLL).2 _ (List.getElem_mem (show k < eL.length by omega)))
            clear hcx hcy
            generalize kX' k = u1 at HRX HOx
            generalize vX' k = u2 at HRX HOx
            generalize kY k = u3 at HRY HOy
            generalize vY k = u4 at HRY HOy
            generalize eL[k] = e at HRX HRY HOx HOy HCk
            have HS1 := hide (by rw [Array.length_toList, enC_size]; exact Try.size_entry : (Try.prog.info? 35).map (·.size) = some (enC e u1 u2).toList.length)
            have HS2 := hide (by rw [Array.length_toList, enC_size]; exact Try.size_entry : (Try.prog.info? 35).map (·.size) = some (enC e u3 u4).toList.length)
            have HC1 := hide (fun w' (hw' : Kept [] wr w') => (tsameEntry_any e e u3 u4 u1 u2 w' ((unhide HOy).old hw') ((unhide HOx).old hw')).mono (fun e w2 (h2 : _ ∧ _) => (⟨h2.1, hw'.trans h2.2 (by simp)⟩ : _ ∧ Kept [] wr w2)))
            rw [decide_eq_true rfl] at HC1
            have HC2 := hide (fun w' (hw' : Kept [] wr w') => (check_any e u1 u2 w' ((unhide HOx).old hw')).mono (fun e w2 (h2 : _ ∧ _) => (⟨h2.1, hw'.trans h2.2 (by simp)⟩ : _ ∧ Kept [] wr w2)))
            rw [unhide HCk] at HC2
            have hne : ∀ p : Prop, (∀ w', Kept [] wr w' → p) = p := fun p => propext ⟨fun h => h wr (Kept.refl [] wr), fun h _ _ => h⟩
            go_wp2_with fail
            refine wp_region_keep (by kernel_rfl) (by kernel_rfl) ?_
            iterate 1 (go_big_quiet_step (fail))
            refine wpQuiet_val rfl (.slice (some ⟨by', oy, none⟩) mY cY) (fun w' hw' => run_loadS 23 _ rfl ⟨w3.heap.size, 1, none⟩ rfl w' _ 35 Try.underlying23 (hw'.cell y1 (by simp))) ?_
            simp only [Act.put, List.setIfInBounds_toArray, List.set_cons_succ, List.set_cons_zero]
            iterate 2 (go_big_quiet_step (fail))
            refine wpQuiet_mid rfl 35 _ rfl by' (oy + k * 3) rfl (enC e u3 u4).toList _ (fun w' hw' => rangeE_kept (unhide HRY) hw' (by simp)) Try.underlying35 rfl (unhide HS2) ?_
            simp only [Act.put, List.setIfInBounds_toArray, List.set_cons_succ, List.set_cons_zero]
            iterate 3 (go_big_quiet_step (fail))
            refine wpQuiet_mid rfl 35 _ rfl bx (ox + k * 3) rfl (enC e u1 u2).toList _ (fun w' hw' => rangeE_kept (unhide HRX) hw' (by simp)) Try.underlying35 rfl (unhide HS1) ?_
            simp only [Act.put, List.setIfInBounds_toArray, List.set_cons_succ, List.set_cons_zero]
            go_big_quiet_want
            go_big_quiet_op
            apply Exists.intro
            refine ⟨fun w' hw' => ?_, ?_⟩
            · exact unhide HC1 w' hw'
            go_big_quiet_on
            iterate 5 (go_big_quiet_step (fail))
            refine wpQuiet_mid rfl 35 _ rfl bx (ox + k * 3) rfl (enC e u1 u2).toList _ (fun w' hw' => rangeE_kept (unhide HRX) hw' (by simp)) Try.underlying35 rfl (unhide HS1) ?_
            simp only [Act.put, List.setIfInBounds_toArray, List.set_cons_succ, List.set_cons_zero]
            go_big_quiet_want
            go_big_quiet_op
            apply Exists.intro
            refine ⟨fun w' hw' => ?_, ?_⟩
            · exact unhide HC2 w' hw'
            go_big_quiet_on
            repeat (go_big_quiet_step (fail))
            refine wpQuiet_nil ?_
            intro w6 hw6
            have HK6 := hide ((unhide HKq).trans hw6 (by simp))
            clear hw6 hne
            go_wp2
            refine ⟨⟨k + 1, by omega, by go_num, HK6⟩, ?_⟩
            simp [intOf]; omega
          · have hltk' : ¬ (k : Int) < mY := by omega
            have HK4 := hide ((unhide HK3).trans (unhide HKq) (by simp))
            have HZ4 := hide ((unhide HKq).heap (unhide HZ3) (by simp))
            have HX4' := hide ((unhide HX3).old (unhide HKq) (by simp))
            have hB0 := (unhide HBL).1
            have hB1 := (unhide HBL).2
            have hBi : (0 : Int) ≤ (B.length : Int) - 1 := by omega
            have hBj : (B.length : Int) - 1 ≤ cy := by obtain ⟨_, _, _, hE, _, h9, _⟩ := unhide HX4'; cases hE; omega
            clear HX4 HX5 HY4a HY5a HGy HGw3 HK3 HZ3 HX3 HKq HLL
            go_wp2_with fail
            refine Calls.mono (decodeBatch_any _ (B.take (B.length - 1)) wr ((unhide HX4').short (by omega))) ?_
            rintro r w5 ⟨bv5, rfl, n5, k5⟩
            obtain ⟨a5, m5, c5, _, _, hu5, _⟩ := n5.rdN
            subst hu5
            have HE3 := hide (unhide HDL (by omega))
            generalize decB (B.take (B.length - 1)) = D5 at HE3
            obtain ⟨f5, es5, e5⟩ := D5
            simp only at HE3 ⊢
            have HK5 := hide ((unhide HK4).trans k5 (by simp))
            have HZ5 := hide (k5.heap (unhide HZ4) (by simp))
            have HX5' := hide ((unhide HX4').old k5 (by simp))
            clear n5 k5 HK4 HZ4 HX4' HDL
            go_wp2_with fail
            have ka := (Kept.refl [] w5).alloc (.cells #[.int .u64 (f5 : Int), .slice a5 m5 c5] 25)
            have HK6 := hide ((unhide HK5).trans ka (by simp))
            have HZ6 := hide (ka.heap (unhide HZ5) (by simp))
            have HX6 := hide ((unhide HX5').old ka (by simp))
            clear ka HK5 HZ5 HX5'
            obtain ⟨W6, hW6⟩ : ∃ W, w5.alloc (.cells #[.int .u64 (f5 : Int), .slice a5 m5 c5] 25) = W := ⟨_, rfl⟩
            rw [hW6] at HK6 HZ6 HX6 ⊢
            clear hW6
            refine Calls.mono (ttwin_any _ B W6 (unhide HX6) (by omega)) ?_
            rintro r w7 ⟨a7, c7, rfl, o7, k7⟩
            have ka := (Kept.refl [] w7).alloc (.cells #[.int .u8 0] 5)
            have HO7 := hide (ka.owns o7 (by simp))
            have HM7 := hide (rd_row [0] (heap_alloc_new w7 (.cells #[.int .u8 0] 5)) rfl (by decide) 1 rfl (by decide))
            have HK7 := hide (((unhide HK6).trans k7 (by simp)).trans ka (by simp))
            have HZ7 := hide (ka.heap (k7.heap (unhide HZ6) (by simp)) (by simp))
            have hs7 : W6.heap.size ≤ w7.heap.size := k7.size
            have HBM := hide (show ∀ x ∈ B ++ [0], x < 256 from fun x hx => by rcases List.mem_append.1 hx with h | h; exact (unhide HX6).byte x h; rw [List.mem_singleton] at h; omega)
            have hs6 : w.heap.size ≤ W6.heap.size := (unhide HK6).size
            have hz6 : w.heap.size + 1 < W6.heap.size := lt_of_block (unhide HZ6)
            clear ka o7 k7 HK6 HZ6
            go_wp2_with (at_builtin; refine wpList_appendAll rfl _ _ rfl rfl _ W6.heap.size (.slice a7 B.length c7) B [0] (some ⟨w7.heap.size, 0, none⟩) 1 1 (by exact unhide HO7) (by exact unhide HM7) (by simp; omega) (by simp; omega) rfl rfl ?_; intro ao8 cap8 w8 HO8 HG8 HA8)
            have HK8 := hide ((unhide HK7).grown (unhide HG8) (fun k hk => Or.inr (by have h9 := ((unhide HO7).lt k hk).1; omega)))
            have HZ8 := hide (((Kept.refl (Value.slice a7 B.length c7).ownBlock.toList (w7.alloc (.cells #[.int .u8 0] 5))).grown (unhide HG8) (by intro k hk; left; simp [hk])).heap (unhide HZ7) (fun hm9 => by have h9 := ((unhide HO7).lt _ (by simpa using hm9)).1; omega))
            have HR8 := hide (rd_owns (unhide HO8) (unhide HBM) (by rw [List.length_append]; simp; omega))
            clear HK7 HZ7 HO7 HM7 HO8 HG8 HA8 HBM HX6
            refine Calls.mono (decodeBatch_any _ (B ++ [0]) w8 (unhide HR8)) ?_
            rintro r w9 ⟨bv9, rfl, n9, k9⟩
            obtain ⟨a9, m9, c9, _, _, hu9, _⟩ := n9.rdN
            subst hu9
            generalize decB (B ++ [0]) = D9 at HDM
            obtain ⟨f9, es9, e9⟩ := D9
            simp only at HDM ⊢
            have h93 := unhide HDM
            subst h93
            have ka := (Kept.refl [] w9).alloc (.cells #[.int .u64 (f9 : Int), .slice a9 m9 c9] 25)
            have HK9 := hide (((unhide HK8).trans k9 (by simp)).trans ka (by simp))
            have HZ9 := hide (ka.heap (k9.heap (unhide HZ8) (by simp)) (by simp))
            clear n9 k9 ka HK8 HZ8 HR8 HDM
            go_wp2_with fail
            obtain ⟨W9, hW9⟩ : ∃ W, w9.alloc (.cells #[.int .u64 (f9 : Int), .slice a9 m9 c9] 25) = W := ⟨_, rfl⟩
            rw [hW9] at HK9 HZ9 ⊢
            clear hW9
            refine Calls.mono (twidth_any wd W9 hwd) ?_
            rintro r wa ⟨rfl, rfl⟩
            have hw1 : 1 ≤ 1 + wd % 32 := by omega
            have hw2 : 1 + wd % 32 ≤ 32 := by omega
            obtain ⟨nw, hnw⟩ : ∃ n, 1 + wd % 32 = n := ⟨_, rfl⟩
            rw [hnw] at hw1 hw2 ⊢
            clear hnw
            go_wp2_with fail
            have HR9 := hide (range_left wa (w.heap.size + 1) (l.map Go.Proofs.Ytkcanelboloihab.u8) (m.map Go.Proofs.Ytkcanelboloihab.u8) 29 (0, 0) _ (by have h9 := unhide HZ9; rw [← unhide HAA] at h9; exact h9))
            rw [List.length_map, (unhide HL).1] at HR9
            have HC9 := hide (by have h9 := unhide HZ9; rw [← unhide HAA] at h9; have h8 := cell_of_row _ _ 0 _ _ _ h9; exact h8 : wa.cell? ⟨w.heap.size + 1, 0, none⟩ = some (.int .u64 (s : Int)))
            have HSL := hide (by rw [List.length_map, (unhide HL).1]; exact Try.size_dig : (Try.prog.info? 27).map (·.size) = some (l.map Go.Proofs.Ytkcanelboloihab.u8).length)
            have HSM := hide (by rw [List.length_map, (unhide HM).1]; exact Try.size_dig : (Try.prog.info? 27).map (·.size) = some (m.map Go.Proofs.Ytkcanelboloihab.u8).length)
            have HLc := hide (cutL_len nw l hw2 (unhide HL).1)
            have HMc := hide (cutL_len nw m hw2 (unhide HM).1)
            have HSR := hide (rootC_size s (unhide HLc) (unhide HMc))
            have HSO := hide (by have h9 := (unhide HSR).symm.trans zRoot_size2; exact (Option.some.inj h9).symm : Try.zeroCells29.size = (rootC s (cutL nw l) (cutL nw m)).toArray.size)
            have HOR := hide (rootC_one s (cutL nw l) (cutL nw m))
            generalize hact : (Act.mk _ _) = a0
            have e6 : a0.eval (.tmp 6) = .pointer (some ⟨w.heap.size + 1, 0, none⟩) := by rw [← hact]; rfl
            have e23 : a0.eval (.tmp 23) = .int .i64 (nw : Int) := by rw [← hact]; rfl
            have hsz : 165 < a0.tmps.size := by rw [← hact]; exact of_decide_eq_true (by rfl)
            have HACT := hide hact
            clear hact
            refine wp_lit2 (by kernel_rfl) (by kernel_rfl) (by kernel_rfl) (by kernel_rfl) (by kernel_rfl) (by kernel_rfl) (by kernel_rfl) (by kernel_rfl) (by kernel_rfl) (by kernel_rfl) (by kernel_rfl) (by kernel_rfl) (by kernel_rfl) (by kernel_rfl) (by kernel_rfl) (by kernel_rfl) (by kernel_rfl) (by kernel_rfl) (by kernel_rfl) (by kernel_rfl) (by kernel_rfl) (by kernel_rfl) (by kernel_rfl) (by kernel_rfl) (by kernel_rfl) (by kernel_rfl) (by kernel_rfl) (by kernel_rfl) (by kernel_rfl) rfl rfl rfl rfl
              (.pointer (some ⟨w.heap.size + 1, 0, none⟩)) (.int .u64 (s : Int)) (.int .i64 (nw : Int)) (.pointer (some ⟨w.heap.size + 1, 1, none⟩)) (.agg (l.map Go.Proofs.Ytkcanelboloihab.u8).toArray) (.int .i64 (nw : Int)) (.pointer (some ⟨w.heap.size + 1, 33, none⟩)) (.agg (m.map Go.Proofs.Ytkcanelboloihab.u8).toArray)
              (.agg ((cutL nw l).map Go.Proofs.Ytkcanelboloihab.u8).toArray) (.agg ((cutL nw m).map Go.Proofs.Ytkcanelboloihab.u8).toArray) (.agg (rootC s (cutL nw l) (cutL nw m)).toArray)
              (fun _ _ _ h => h) (fun _ _ _ h => h) (fun _ _ _ h => h) (fun _ _ _ h => h) (fun _ _ _ h => h) (fun _ _ _ h => h) (fun _ _ _ h => h) (fun _ _ _ h => h) (fun _ _ _ h => h)
              (Or.inl ⟨rfl, fun w' _ => fa_root0 _ rfl (w.heap.size + 1) (by simp (disch := first | decide | omega | (simp only [ev_size]; omega)) only [ev_ne, ev_eq, e6, e23]) w'⟩)
              (Or.inl ⟨rfl, fun w' hw' => run_load1 22 _ rfl ⟨w.heap.size + 1, 0, none⟩ (by simp (disch := first | decide | omega | (simp only [ev_size]; omega)) only [ev_ne, ev_eq, e6, e23]) w' _ .u64 Try.underlying22 (Kept.cell hw' (unhide HC9) (by simp))⟩)
              (Or.inl ⟨rfl, fun w' _ => run_move _ rfl _ (by simp (disch := first | decide | omega | (simp only [ev_size]; omega)) only [ev_ne, ev_eq, e6, e23]) w'⟩)
              (Or.inl ⟨rfl, fun w' _ => fa_root1 _ rfl (w.heap.size + 1) (by simp (disch := first | decide | omega | (simp only [ev_size]; omega)) only [ev_ne, ev_eq, e6, e23]) w'⟩)
              (yieldsIf_load_mid rfl 27 _ rfl (w.heap.size + 1) 1 (by simp (disch := first | decide | omega | (simp only [ev_size]; omega)) only [ev_ne, ev_eq, e6, e23]) (l.map Go.Proofs.Ytkcanelboloihab.u8) _ (fun w' hw' => range_kept (unhide HR9).1 hw' (by simp)) Try.underlying27 rfl (unhide HSL))
              (Or.inl ⟨rfl, fun w' _ => run_move _ rfl _ (by simp (disch := first | decide | omega | (simp only [ev_size]; omega)) only [ev_ne, ev_eq, e6, e23]) w'⟩)
              (Or.inl ⟨rfl, fun w' _ => fa_root2 _ rfl (w.heap.size + 1) (by simp (disch := first | decide | omega | (simp only [ev_size]; omega)) only [ev_ne, ev_eq, e6, e23]) w'⟩)
              (yieldsIf_load_mid rfl 27 _ rfl (w.heap.size + 1) 33 (by simp (disch := first | decide | omega | (simp only [ev_size]; omega)) only [ev_ne, ev_eq, e6, e23]) (m.map Go.Proofs.Ytkcanelboloihab.u8) _ (fun w' hw' => range_kept (unhide HR9).2 hw' (by simp)) Try.underlying27 rfl (unhide HSM))
              (fun w' K hk h => wp_cut _ _ _ rfl nw l (by simp (disch := first | decide | omega | (simp only [ev_size]; omega)) only [ev_ne, ev_eq, e6, e23]) (by simp (disch := first | decide | omega | (simp only [ev_size]; omega)) only [ev_ne, ev_eq, e6, e23]) hw1 hw2 (unhide HL).1 (unhide HL).2 (fun w'' k2 => h w'' (Kept.trans hk k2 (by simp)) k2))
              (fun g w' K hk h => wp_cut _ _ _ rfl nw l (by simp (disch := first | decide | omega | (simp only [ev_size]; omega)) only [ev_ne, ev_eq, e6, e23]) (by simp (disch := first | decide | omega | (simp only [ev_size]; omega)) only [ev_ne, ev_eq, e6, e23]) hw1 hw2 (unhide HL).1 (unhide HL).2 (fun w'' k2 => h w'' (Kept.trans hk k2 (by simp)) k2))
              (fun g => ev_comm (by decide))
              (fun w' K hk h => wp_cut _ _ _ rfl nw m (by simp (disch := first | decide | omega | (simp only [ev_size]; omega)) only [ev_ne, ev_eq, e6, e23]) (by simp (disch := first | decide | omega | (simp only [ev_size]; omega)) only [ev_ne, ev_eq, e6, e23]) hw1 hw2 (unhide HM).1 (unhide HM).2 (fun w'' k2 => h w'' (Kept.trans hk k2 (by simp)) k2))
              (fun g w' K hk h => wp_cut _ _ _ rfl nw m (by simp (disch := first | decide | omega | (simp only [ev_size]; omega)) only [ev_ne, ev_eq, e6, e23]) (by simp (disch := first | decide | omega | (simp only [ev_size]; omega)) only [ev_ne, ev_eq, e6, e23]) hw1 hw2 (unhide HM).1 (unhide HM).2 (fun w'' k2 => h w'' (Kept.trans hk k2 (by simp)) k2))
              (fun g => ev_comm (by decide))
              (Or.inl ⟨rfl, fun w' _ => run_rootlit _ _ _ rfl s _ _ (unhide HLc) (unhide HMc) (by simp (disch := first | decide | omega | (simp only [ev_size]; omega)) only [ev_ne, ev_eq, e6, e23]) (by simp (disch := first | decide | omega | (simp only [ev_size]; omega)) only [ev_ne, ev_eq, e6, e23]) (by simp (disch := first | decide | omega | (simp only [ev_size]; omega)) only [ev_ne, ev_eq, e6, e23]) w'⟩)
              (fun g => Or.inl ⟨rfl, fun w' _ => run_rootlit _ _ _ rfl s _ _ (unhide HLc) (unhide HMc) (by simp (disch := first | decide | omega | (simp only [ev_size]; omega)) only [ev_ne, ev_eq, e6, e23]) (by simp (disch := first | decide | omega | (simp only [ev_size]; omega)) only [ev_ne, ev_eq, e6, e23]) (by simp (disch := first | decide | omega | (simp only [ev_size]; omega)) only [ev_ne, ev_eq, e6, e23]) w'⟩)
              (fun g => ev_comm (by decide)) 29 Try.zeroCells29 (rootC s (cutL nw l) (cutL nw m)).toArray
              (fun act w' K h => wp_allocroot rfl h)
              (.tmp 24) (.tmp 164) rfl (fun g => (by simp (disch := first | decide | omega | (simp only [ev_size]; omega)) only [ev_ne, ev_eq, e6, e23])) (fun g => (by simp (disch := first | decide | omega | (simp only [ev_size]; omega)) only [ev_ne, ev_eq, e6, e23])) (unhide HSR) (unhide HSO) (unhide HOR) ?_
            intro gR wb kb hgR hRb
            have HGb := hide hRb
            have HKb := hide ((unhide HK9).trans kb (by simp))
            have HRE := hide (show rootE (nw : Int) (cutL nw l) (cutL nw m) = 0 from rootE_cut hw1 hw2 (unhide HL).1 (unhide HM).1)
            have HLb := hide (cutL_byte nw l (unhide HL).2)
            have HMb := hide (cutL_byte nw m (unhide HM).2)
            clear kb hRb HK9 HZ9 HR9 HC9 HSL HSM
            clear e6 e23 hsz
            have hact := unhide HACT
            subst hact
            clear HACT
            simp only [Act.put, List.setIfInBounds_toArray, List.set_cons_zero, List.set_cons_succ]
            obtain ⟨R, hR⟩ : ∃ R, (rootC s (cutL nw l) (cutL nw m)).toArray = R := ⟨_, rfl⟩
            have HRR := hide hR
            rw [hR] at HGb HSR HSO HOR ⊢
            clear hR
            go_wp2_with (refine wpList_load_row rfl 29 _ rfl gR rfl _ R (0, 0) _ (unhide HGb) Try.underlying29 rfl (unhide HSR) ?_)
            have hcz := encodeRoot_any (nw : Int) s (cutL nw l) (cutL nw m) wb (by omega) hs (unhide HLc) (unhide HMc) (unhide HLb) (unhide HMb)
            rw [unhide HRR, unhide HRE, if_pos rfl, Int.toNat_natCast] at hcz
            refine Calls.mono hcz ?_
            clear hcz
            rintro r wc ⟨vz, rfl, nz, kz⟩
            have HGc := hide (kz.heap (unhide HGb) (by simp))
            have HKc := hide ((unhide HKb).trans kz (by simp))
            have HRz := hide nz.1
            obtain ⟨az, mz, cz, huz, _⟩ := id nz.1
            subst huz
            clear nz kz HGb HKb
            go_wp2_with fail
            have hcd := decodeRoot_any (nw : Int) _ _ wc (by omega) (unhide HRz)
            have hbk := (decR_back (z := (nw : Int)) hs (unhide HLc) (unhide HMc) (unhide HRE)).1
            rw [Int.toNat_natCast] at hbk
            rw [hbk] at hcd
            simp only at hcd
            rw [unhide HRR] at hcd
            clear hbk
            refine Calls.mono hcd ?_
            clear hcd
            rintro r we ⟨rfl, ke⟩
            have HZN := hide (heap_alloc_new we (.cells Try.zeroCells29 29))
            have ka := ((Kept.refl [] we).alloc (.cells Try.zeroCells29 29)).setRow (g := we.heap.size) (Or.inr (Nat.le_refl _)) R
            have HKe := hide (((unhide HKc).trans ke (by simp)).trans ka (by simp))
            have HGe := hide (ka.heap (ke.heap (unhide HGc) (by simp)) (by simp))
            have HGs := hide (setRow_heap (we.alloc (.cells Try.zeroCells29 29)) we.heap.size _ R 29 (0, 0) (unhide HZN))
            clear ka ke HGc HKc HRz
            have he3 : ((e5 : Int) == 0) = false := by rw [beq_eq_false_iff_ne]; have := unhide HE3; omega
            have heq : ∀ W, (Op.equalIn 10000 29 (.agg R) (.agg R)).run Try.prog W = .ok true W := fun W => by
              have h9 := root_eq W s s (cutL nw l) (cutL nw m) (cutL nw l) (cutL nw m) (unhide HLc) (unhide HMc) (unhide HLc) (unhide HMc)
              rw [unhide HRR] at h9
              rw [h9]; simp
            go_wp2_with (first
              | (refine wpList_store_row rfl 29 _ _ rfl we.heap.size R rfl rfl _ Try.zeroCells29 (unhide HZN) (unhide HSR) (unhide HSO) (unhide HOR) ?_; obtain ⟨We, hWe⟩ : ∃ W, (we.alloc (.cells Try.zeroCells29 29)).setRow we.heap.size R = W := ⟨_, rfl⟩; rw [hWe]; rw [hWe] at HGe HGs HKe; clear hWe)
              | (refine wpList_load_rowG rfl 29 _ rfl we.heap.size rfl _ R (0, 0) _ (unhide HGs) Try.underlying29 rfl (unhide HSR) ?_)
              | (refine wpList_load_rowG rfl 29 _ rfl gR rfl _ R (0, 0) _ (unhide HGe) Try.underlying29 rfl (unhide HSR) ?_))
            refine Calls.mono (decode_any _ p We ((unhide HU).old (unhide HKe) (by simp))) ?_
            rintro r wf ⟨kvf, vvf, rfl, okf, kf, _⟩
            have HDE := hide (rfl : decE p = decE p)
            have HDO := hide (fun (en : En) (h : decE p = (en, 0)) => decE_one h (unhide HU).byte)
            have HDZ := hide (fun (en : En) (fe : Nat) (h : decE p = (en, fe)) (h0 : fe ≠ 0) => decE_zero h h0)
            obtain ⟨D, hD⟩ : ∃ D, decE p = D := ⟨_, rfl⟩
            have HD := hide hD
            rw [hD] at okf ⊢
            clear hD HDE
            obtain ⟨en, fe⟩ := D
            simp only at okf ⊢
            obtain ⟨a8, m8, c8, hu8, hm8, _⟩ := id okf.key
            subst hu8
            obtain ⟨b8, n8, d8, hv8, hn8, _⟩ := id okf.val
            subst hv8
            unfold enC
            have ka := (Kept.refl [] wf).alloc (.cells #[.int .u8 (en.k : Int), .slice a8 m8 c8, .slice b8 n8 d8] 35)
            have HGf := hide (heap_alloc_new wf (.cells #[.int .u8 (en.k : Int), .slice a8 m8 c8, .slice b8 n8 d8] 35))
            have HOf := hide (okf.old ka)
            have HKf := hide (((unhide HKe).trans kf (by simp)).trans ka (by simp))
            clear ka kf okf HGe HGs HKe HZN
            by_cases hfe : fe = 0
            · subst hfe
              obtain ⟨hpe, hce⟩ := unhide HDO en (unhide HD)
              have HPE := hide hpe
              have HCE := hide hce
              clear hpe hce
              go_wp2_with (refine wpList_load_row rfl 35 _ rfl wf.heap.size rfl _ #[.int .u8 (en.k : Int), .slice a8 m8 c8, .slice b8 n8 d8] (0, 0) _ (unhide HGf) Try.underlying35 rfl Try.size_entry ?_)
              refine Calls.mono (eencode_any en _ _ _ (unhide HOf)) ?_
              rintro r wg ⟨vg, rfl, ng, kg⟩
              rw [unhide HCE, if_pos rfl, ← unhide HPE] at ng
              rw [unhide HCE]
              have HRg := hide ng.1
              have HKg := hide ((unhide HKf).trans kg (by simp))
              obtain ⟨ag, mg, cg, hug, hmg, _⟩ := id ng.1
              subst hug
              subst hmg
              clear ng kg
              go_wp2_with fail
              refine Calls.mono (tsame_any _ _ p p wg (unhide HRg) ((unhide HU).old (unhide HKg) (by simp))) ?_
              rintro r wh ⟨rfl, rfl⟩
              rw [decide_eq_true rfl]
              go_wp2
              go_ret
              exact ⟨rfl, (unhide HKg).below (Nat.le_refl _) (by simp)⟩
            · have hen := unhide HDZ en fe (unhide HD) hfe
              subst hen
              have hm0 : m8 = 0 := hm8.symm
              have hn0 : n8 = 0 := hn8.symm
              subst hm0
              subst hn0
              have hfe' : ((fe : Int) != 0) = true := by rw [bne_iff_ne]; omega
              have x0 := cell_of_row _ _ 0 _ _ _ (unhide HGf)
              have x1 := cell_of_row _ _ 1 _ _ _ (unhide HGf)
              have x2 := cell_of_row _ _ 2 _ _ _ (unhide HGf)
              clear hm8 hn8
              go_wp2
              go_ret
              exact ⟨rfl, (unhide HKf).below (Nat.le_refl _) (by simp)⟩
end Go.Proofs.Ytkcanelboloihab
namespace Go.Proofs.Ytkcanelboloihab
open Go.ChangeShapes Go.WideShapes Go.ChangeAt Go.RowKit Go.Deep
set_option linter.unusedVariables false
set_option linter.unusedSimpArgs false

theorem own : ownKnob Try.prog.godebug = none := by kernel_rfl
theorem laidOut : laidOutB Try.prog = true := by kernel_rfl
theorem byte_of_wf {x : Int} (h : (Lit.int .u8 x).wf = true) : 0 ≤ x ∧ x < 256 := by
  simp [Lit.wf, IntKind.min, IntKind.max, IntKind.signed, IntKind.bits] at h
  exact ⟨by omega, by omega⟩
theorem int_of_wf {x : Int} (h : (Lit.int .i64 x).wf = true) : -9223372036854775808 ≤ x ∧ x ≤ 9223372036854775807 := by
  simp [Lit.wf, IntKind.min, IntKind.max, IntKind.signed, IntKind.bits] at h
  exact ⟨by omega, by omega⟩

theorem bulk_one {H : Type} (d : DataW H) : 1 ≤ Rows.uptoBulk d := by
  cases d with
  | lit l => cases l <;> simp [Rows.uptoBulk]
  | nil => simp [Rows.uptoBulk]
  | ptr d => simp [Rows.uptoBulk]
  | slice elems spare => simp [Rows.uptoBulk]
  | agg parts => simp [Rows.uptoBulk]
  | iface t d => simp [Rows.uptoBulk]
  | map entries => simp [Rows.uptoBulk]
  | held h => simp [Rows.uptoBulk]
theorem bulk_len {H : Type} (l : List (DataW H)) : l.length ≤ Rows.uptoBulkAll l := by
  induction l with
  | nil => simp [Rows.uptoBulkAll]
  | cons x r ih => have := bulk_one x; simp only [Rows.uptoBulkAll, List.length_cons]; omega
theorem Try.bytes5 : Try.prog.bytesOf 5 = 1 := by kernel_rfl

section
variable {H : Type} {enc : TypeId × Value → H} {W : World}

/-- Bytes that came in, as the walks want them, of whatever length. -/
theorem open_bytes {fuel : Nat} {cs : List Value} {x : DataW H × List MemPlace} (h : DataW.trod enc Try.prog W 0 (fun _ => true) true fuel 30 cs = some x) :
    ∃ v bs, cs = [v] ∧ (bs.length ≤ 140737488355328 → Rd W v bs) ∧ ((bs = [] ∧ x.1 = .nil) ∨ ∃ elems spare, x.1 = .slice elems spare ∧ elems.length = bs.length) := by
  rcases open_ints Try.underlying30 Try.underlying5 (by kernel_rfl) h with ⟨rfl, rfl⟩ | ⟨a, len, cap, zs, rfl, _, hl, hm, hz, rfl, hcell, hwz⟩
  · exact ⟨_, [], rfl, fun _ => Rd.nil W, .inl ⟨rfl, rfl⟩⟩
  · have h2 : (lits (H := H) .u8 (zs.take len)).length = len := by simp only [lits, List.length_map, List.length_take]; simp at hz; omega
    have hbl : ((zs.take len).map Int.toNat).length = len := by simp at hz; simp; omega
    refine ⟨_, (zs.take len).map Int.toNat, rfl, fun hB => ⟨_, _, _, rfl, hbl, hl, ⟨by unfold maxLen at hm; omega, by omega⟩, by simp, ?_, ?_⟩, .inr ⟨_, _, rfl, by rw [h2, hbl]⟩⟩
    · intro y hy
      obtain ⟨z, hz1, rfl⟩ := List.mem_map.1 hy
      have := byte_of_wf (hwz z (List.mem_of_mem_take hz1)); omega
    · intro hp
      simp at hz
      have hc0 := hcell 0 (by omega)
      obtain ⟨b, off, spot⟩ := a
      have hspot : spot = none := by simpa [Addr.add] using World.cell?_spot hc0
      subst hspot
      refine ⟨b, off, rfl, fun i hi => ?_⟩
      have hc := hcell i (by omega)
      have hzi : i < zs.length := by omega
      rw [Addr.add_mid] at hc
      rw [hc]
      have hw := byte_of_wf (hwz (zs[i]) (List.getElem_mem hzi))
      simp only [List.getD_eq_getElem?_getD, List.getElem?_eq_getElem hzi, Option.getD_some, List.getElem?_map, List.getElem?_take, hi, if_true, Option.map_some]
      simp [u8]; omega
/-- Their length, by the reach. -/
theorem reach_bytes {ts : List TypeId} {ds : List (DataW H)} (h : (DataW.weightsEach Try.prog ts ds).all (· ≤ reachBytes) = true) {j : Nat} (ht : ts[j]? = some 30) {d : DataW H} (hd : ds[j]? = some d) {bs : List Nat}
    (hx : (bs = [] ∧ d = .nil) ∨ ∃ elems spare, d = .slice elems spare ∧ elems.length = bs.length) : bs.length ≤ 140737488351232 := by
  rcases hx with ⟨rfl, _⟩ | ⟨elems, spare, rfl, he⟩
  · simp
  · have := sized_slice h ht hd Try.underlying30
    rw [Try.bytes5, Nat.mul_one] at this
    unfold reachBytes at this
    omega
/-- Their length, by the bulk. -/
theorem bulk_bytes {d : DataW H} {bs : List Nat} (hx : (bs = [] ∧ d = .nil) ∨ ∃ elems spare, d = .slice elems spare ∧ elems.length = bs.length) : bs.length + 1 ≤ Rows.uptoBulk d := by
  rcases hx with ⟨rfl, rfl⟩ | ⟨elems, spare, rfl, he⟩
  · simp [Rows.uptoBulk]
  · have := bulk_len elems
    simp only [Rows.uptoBulk]; omega
end
end Go.Proofs.Ytkcanelboloihab
namespace Go.Proofs.Ytkcanelboloihab
open Go.ChangeShapes Go.WideShapes Go.ChangeAt Go.RowKit Go.Deep
set_option linter.unusedVariables false
set_option linter.unusedSimpArgs false
section
variable {H : Type} {enc : TypeId × Value → H} {W : World}

theorem n_bulk_part {d : DataW H} {l : List (DataW H)} (h : d ∈ l) : Rows.uptoBulk d ≤ Rows.uptoBulkAll l := by
  induction l with
  | nil => simp at h
  | cons a l ih =>
    simp only [Rows.uptoBulkAll]
    rcases List.mem_cons.1 h with rfl | h
    · omega
    · have := ih h; omega
theorem n_bulk_len (D : Nat → DataW H) (l : List Nat) (h : ∀ i ∈ l, 1 ≤ Rows.uptoBulk (D i)) : l.length ≤ Rows.uptoBulkAll (l.map D) := by
  induction l with
  | nil => simp
  | cons a l ih =>
    have h1 := h a (by simp)
    have h2 := ih (fun i hi => h i (by simp [hi]))
    simp only [List.map_cons, Rows.uptoBulkAll, List.length_cons]
    omega
theorem n_split (cs : List Value) (a n : Nat) : cs.drop a = (cs.drop a).take n ++ cs.drop (a + n) := by
  rw [← List.drop_drop, List.take_append_drop]
/-- An entry that came in. -/
theorem open_entry {fuel : Nat} {cs : List Value} {x : DataW H × List MemPlace} (h : DataW.trod enc Try.prog W 0 (fun _ => true) true fuel 35 cs = some x) (hB : Rows.uptoBulk x.1 ≤ 1048576) :
    ∃ (e : En) (kv vv : Value), cs = (enC e kv vv).toList ∧ OkE W e kv vv ∧ e.key.length + e.val.length + 2 ≤ Rows.uptoBulk x.1 := by
  obtain ⟨xs, n, _, rfl, hl, hlen, hf⟩ := DataW.trod_struct Try.underlying35 h
  rw [show Try.prog.cellsOf 35 = 3 from by kernel_rfl] at hl
  match xs, hlen with
  | [y0, y1, y2], _ =>
    have ci : Try.prog.cellsOf 5 = 1 := by kernel_rfl
    have cb : Try.prog.cellsOf 30 = 1 := by kernel_rfl
    have f0 : DataW.trod enc Try.prog W 0 (fun _ => true) true n 5 ((cs.drop 0).take 1) = some y0 := by rw [← ci]; exact hf 0 _ rfl
    have f1 : DataW.trod enc Try.prog W 0 (fun _ => true) true n 30 ((cs.drop 1).take 1) = some y1 := by have this : DataW.trod enc Try.prog W 0 (fun _ => true) true n 30 ((cs.drop 1).take (Try.prog.cellsOf 30)) = some y1 := hf 1 _ rfl; rw [cb] at this; exact this
    have f2 : DataW.trod enc Try.prog W 0 (fun _ => true) true n 30 ((cs.drop 2).take 1) = some y2 := by have this : DataW.trod enc Try.prog W 0 (fun _ => true) true n 30 ((cs.drop 2).take (Try.prog.cellsOf 30)) = some y2 := hf 2 _ rfl; rw [cb] at this; exact this
    simp only [List.map_cons, List.map_nil, Rows.uptoBulk, Rows.uptoBulkAll] at hB ⊢
    obtain ⟨k, e0, _, w0⟩ := DataW.trod_int Try.underlying5 f0
    obtain ⟨kv, key, e1, hr1, hb1⟩ := open_bytes f1
    obtain ⟨vv, val, e2, hr2, hb2⟩ := open_bytes f2
    have g1 := bulk_bytes hb1
    have g2 := bulk_bytes hb2
    have hk := byte_of_wf w0
    refine ⟨⟨k.toNat, key, val⟩, kv, vv, ?_, ⟨by show k.toNat < 256; omega, hr1 (by omega), hr2 (by omega)⟩, by show key.length + val.length + 2 ≤ _; omega⟩
    have hd : cs.drop 3 = [] := List.drop_eq_nil_of_le (by omega)
    have this := n_split cs 0 1
    rw [e0, n_split cs 1 1, e1, n_split cs 2 1, e2, hd, List.drop_zero] at this
    rw [this]
    simp [enC, Int.toNat_of_nonneg hk.1]
instance : Inhabited En := ⟨⟨0, [], []⟩⟩
/-- Entries that came in. -/
theorem open_entries {fuel : Nat} {cs : List Value} {x : DataW H × List MemPlace} (h : DataW.trod enc Try.prog W 0 (fun _ => true) true fuel 23 cs = some x) (hB : Rows.uptoBulk x.1 ≤ 1048576) :
    ∃ v es, cs = [v] ∧ RdN W v es ∧ es.length ≤ 1048576 := by
  rcases open_slice Try.underlying23 h with ⟨rfl, rfl⟩ | ⟨a, len, cap, m, n, D, Pl, rfl, _, hl, hm, hmm, rfl, hx⟩
  · exact ⟨_, [], rfl, RdN.nil W, by simp⟩
  · have hC : Try.prog.cellsOf 35 = 3 := by kernel_rfl
    rw [hC] at hx
    simp only [if_true] at hmm
    simp only [Rows.uptoBulk] at hB
    obtain ⟨f, hf⟩ := choose_lt (α := En × Value × Value) (n := len) (p := fun i o => ((∀ j v, (enC o.1 o.2.1 o.2.2).toList[j]? = some v → W.cell? ((a.add (i * 3)).add j) = some v) ∧ OkE W o.1 o.2.1 o.2.2) ∧ 1 ≤ Rows.uptoBulk (D i)) (by
      intro i hi
      obtain ⟨cs', h1, h2⟩ := hx i (by omega)
      have hDi : Rows.uptoBulk (D i) ≤ Rows.uptoBulkAll ((List.range len).map D) := n_bulk_part (List.mem_map.2 ⟨i, List.mem_range.2 hi, rfl⟩)
      obtain ⟨o, kv, vv, rfl, ho, hbb⟩ := open_entry h2 (by simp only; omega)
      obtain ⟨_, hlen, hc⟩ := World.cells?_some h1
      refine ⟨(o, kv, vv), ⟨fun j v hv => ?_, ho⟩, by simp only at hbb; omega⟩
      have hj := (List.getElem?_eq_some_iff.1 hv).1
      have := hc j hj
      rw [this, ← hv, List.getElem?_eq_getElem hj])
    refine ⟨_, (List.range len).map fun i => (f i).1, rfl, ⟨some a, len, cap, fun i => (f i).2.1, fun i => (f i).2.2, rfl, by simp, hl, by unfold maxLen at hm; omega, ?_, ?_⟩, ?_⟩
    · intro i hi
      have hi' : i < len := by simpa using hi
      have := (hf i hi').1.2
      simpa using this
    · intro hp
      obtain ⟨b, off, spot⟩ := a
      have h0 := (hf 0 hp).1
      have hc0 := h0.1 0 _ rfl
      have hspot : spot = none := by simpa [Addr.add] using World.cell?_spot hc0
      subst hspot
      refine ⟨b, off, rfl, fun i hi j v hv => ?_⟩
      have hi' : i < len := by simpa using hi
      have e9 : ((List.range len).map fun i => (f i).1)[i] = (f i).1 := by simp
      rw [e9] at hv
      have := (hf i hi').1.1 j v hv
      rw [Addr.add_mid, Addr.add_mid] at this
      exact this
    · have := n_bulk_len D (List.range len) (fun i hi => (hf i (List.mem_range.1 hi)).2)
      simp only [List.length_map, List.length_range] at this ⊢
      omega
/-- A batch that came in. -/
theorem open_batch {fuel : Nat} {cs : List Value} {x : DataW H × List MemPlace} (h : DataW.trod enc Try.prog W 0 (fun _ => true) true fuel 25 cs = some x) (hB : Rows.uptoBulk x.1 ≤ 1048576) :
    ∃ (f : Nat) (v : Value) (es : List En), cs = [.int .u64 (f : Int), v] ∧ f < 18446744073709551616 ∧ RdN W v es ∧ es.length ≤ 1048576 := by
  obtain ⟨xs, n, _, rfl, hl, hlen, hf⟩ := DataW.trod_struct Try.underlying25 h
  rw [show Try.prog.cellsOf 25 = 2 from by kernel_rfl] at hl
  match xs, hlen with
  | [y0, y1], _ =>
    have ci : Try.prog.cellsOf 22 = 1 := by kernel_rfl
    have cb : Try.prog.cellsOf 23 = 1 := by kernel_rfl
    have f0 : DataW.trod enc Try.prog W 0 (fun _ => true) true n 22 ((cs.drop 0).take 1) = some y0 := by rw [← ci]; exact hf 0 _ rfl
    have f1 : DataW.trod enc Try.prog W 0 (fun _ => true) true n 23 ((cs.drop 1).take 1) = some y1 := by have this : DataW.trod enc Try.prog W 0 (fun _ => true) true n 23 ((cs.drop 1).take (Try.prog.cellsOf 23)) = some y1 := hf 1 _ rfl; rw [cb] at this; exact this
    simp only [List.map_cons, List.map_nil, Rows.uptoBulk, Rows.uptoBulkAll] at hB
    obtain ⟨k, e0, _, w0⟩ := DataW.trod_int Try.underlying22 f0
    obtain ⟨v, es, e1, hr1, hb1⟩ := open_entries f1 (by omega)
    have hk : 0 ≤ k ∧ k < 18446744073709551616 := by
      simp [Lit.wf, IntKind.min, IntKind.max, IntKind.signed, IntKind.bits] at w0
      omega
    refine ⟨k.toNat, v, es, ?_, by omega, hr1, hb1⟩
    have hd : cs.drop 2 = [] := List.drop_eq_nil_of_le (by omega)
    have this := n_split cs 0 1
    rw [e0, n_split cs 1 1, e1, hd, List.drop_zero] at this
    rw [this]
    simp [Int.toNat_of_nonneg hk.1]
end
end Go.Proofs.Ytkcanelboloihab
namespace Go.Proofs.Ytkcanelboloihab
open Go Go.RowKit
set_option linter.unusedVariables false
set_option linter.unusedSimpArgs false
section
variable {H : Type} {enc : TypeId × Value → H} {W : World}

def natOf : Value → Nat
  | .int _ n => n.toNat
  | _ => 0
/-- A digest that came in. -/
theorem open_dig {fuel : Nat} {cs : List Value} {x : DataW H × List MemPlace} (h : DataW.trod enc Try.prog W 0 (fun _ => true) true fuel 27 cs = some x) :
    ∃ l : List Nat, cs = l.map u8 ∧ l.length = 32 ∧ ∀ y ∈ l, y < 256 := by
  obtain ⟨xs, m, _, rfl, hl, hn, hc⟩ := DataW.trod_array Try.underlying27 h
  rw [show Try.prog.cellsOf 27 = 32 from by kernel_rfl] at hl
  rw [show Try.prog.cellsOf 5 = 1 from by kernel_rfl] at hc
  have key : ∀ i (hi : i < cs.length), cs[i] = u8 (natOf cs[i]) ∧ natOf cs[i] < 256 := by
    intro i hi
    have h1 := hc i (by omega)
    rw [Nat.mul_one, List.getElem?_eq_getElem (by omega)] at h1
    obtain ⟨n, e, _, hw⟩ := DataW.trod_int Try.underlying5 h1
    rw [List.drop_eq_getElem_cons hi, List.take_succ_cons, List.take_zero] at e
    simp only [List.cons.injEq, and_true] at e
    have := byte_of_wf hw
    rw [e]
    refine ⟨?_, ?_⟩
    · simp [u8, natOf]; omega
    · simp [natOf]; omega
  refine ⟨cs.map natOf, ?_, by simp [hl], ?_⟩
  · rw [List.map_map]
    refine List.ext_getElem (by simp) fun i h1 h2 => ?_
    rw [List.getElem_map]
    exact (key i h1).1
  · intro y hy
    obtain ⟨v, hv, rfl⟩ := List.mem_map.1 hy
    obtain ⟨i, hi, rfl⟩ := List.getElem_of_mem hv
    exact (key i hi).2
set_option maxRecDepth 100000 in
theorem open_digv {b0 : Nat} {v : Value} {d : DataW H} {ps : List MemPlace} (hv : Value.okWide Try.prog W .any b0 27 v) (h : DataW.Trod enc Try.prog W 0 (fun _ => true) true 27 v d ps) :
    ∃ l : List Nat, v = .agg (brow l) ∧ l.length = 32 ∧ ∀ y ∈ l, y < 256 := by
  unfold Value.okWide at hv
  rw [Try.underlying27] at hv
  obtain ⟨cs, rfl, _, _⟩ := hv
  obtain ⟨fuel, hf⟩ := h
  obtain ⟨l, e, h1, h2⟩ := open_dig hf
  refine ⟨l, ?_, h1, h2⟩
  simp only [Value.cells] at e
  unfold brow
  rw [← e]
end
end Go.Proofs.Ytkcanelboloihab
namespace Go.Proofs.Ytkcanelboloihab
open Go.ChangeShapes Go.WideShapes Go.ChangeAt Go.RowKit Go.Deep
set_option linter.unusedVariables false
set_option linter.unusedSimpArgs false
section
variable {H : Type} {enc : TypeId × Value → H} {W : World}

theorem o_split (cs : List Value) (a n : Nat) : cs.drop a = (cs.drop a).take n ++ cs.drop (a + n) := by
  rw [← List.drop_drop, List.take_append_drop]

/-- A Root that came in. -/
theorem open_root {fuel : Nat} {cs : List Value} {x : DataW H × List MemPlace} (h : DataW.trod enc Try.prog W 0 (fun _ => true) true fuel 29 cs = some x) :
    ∃ (s : Nat) (l m : List Nat), cs = rootC s l m ∧ s < 18446744073709551616 ∧ (l.length = 32 ∧ ∀ y ∈ l, y < 256) ∧ (m.length = 32 ∧ ∀ y ∈ m, y < 256) := by
  obtain ⟨xs, n, _, rfl, hl, hlen, hf⟩ := DataW.trod_struct Try.underlying29 h
  rw [show Try.prog.cellsOf 29 = 65 from by kernel_rfl] at hl
  match xs, hlen with
  | [y0, y1, y2], _ =>
    have cu : Try.prog.cellsOf 22 = 1 := by kernel_rfl
    have cd : Try.prog.cellsOf 27 = 32 := by kernel_rfl
    have f0 : DataW.trod enc Try.prog W 0 (fun _ => true) true n 22 ((cs.drop 0).take 1) = some y0 := by rw [← cu]; exact hf 0 _ rfl
    have f1 : DataW.trod enc Try.prog W 0 (fun _ => true) true n 27 ((cs.drop 1).take 32) = some y1 := by rw [← cd]; exact hf 1 _ rfl
    have f2 : DataW.trod enc Try.prog W 0 (fun _ => true) true n 27 ((cs.drop 33).take 32) = some y2 := by rw [← cd]; exact hf 2 _ rfl
    obtain ⟨k, e0, _, w0⟩ := DataW.trod_int Try.underlying22 f0
    obtain ⟨l, e1, l1, l2⟩ := open_dig f1
    obtain ⟨m, e2, m1, m2⟩ := open_dig f2
    have hw : 0 ≤ k ∧ k < 18446744073709551616 := by
      simp [Lit.wf, IntKind.min, IntKind.max, IntKind.signed, IntKind.bits] at w0
      omega
    refine ⟨k.toNat, l, m, ?_, by omega, ⟨l1, l2⟩, ⟨m1, m2⟩⟩
    have hd : cs.drop 65 = [] := List.drop_eq_nil_of_le (by omega)
    have := o_split cs 0 1
    rw [e0, o_split cs 1 32, e1, o_split cs 33 32, e2, hd, List.drop_zero] at this
    rw [this, rootC, Int.toNat_of_nonneg hw.1]
    simp
end
end Go.Proofs.Ytkcanelboloihab
