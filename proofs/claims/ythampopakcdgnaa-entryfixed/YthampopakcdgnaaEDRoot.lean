import Derived.Test.YthampopakcdgnaaEZero
import Derived.Test.YthampopakcdgnaaEDec2
import Derived.Deep.RegionHeld3
namespace Go.Proofs.Ythampopakcdgnaa
open Go.RowKit Go.BigFrame
set_option linter.unusedVariables false
set_option linter.unusedSimpArgs false

set_option maxRecDepth 100000 in
set_option maxHeartbeats 1000000 in
theorem eru64_any (b : Nat) (gv : Value) (p : List Nat) (i e : Nat) (w : World) (h : ReAt w b gv p i e) :
    Calls Try.prog 32 #[.pointer (some ⟨b, 0, none⟩)] w fun r w' => r = .returned (.int .u64 (rNum p i e 8).1) ∧ ReAt w' b gv p (rNum p i e 8).2.1 (rNum p i e 8).2.2 ∧ Kept [b] w w' := by
  have HR := hide h
  clear h
  go_enter Try.func32, Try.ntmps32
  go_wp2_with (go_at_call 48; go_must (refine (rnum_any b gv p i e 8 _ (unhide HR) (by omega)).mono ?_; rintro r w1 ⟨rfl, h1, h2⟩; have H1 := hide h1; have H2 := hide h2; clear h1 h2))
  go_ret
  exact ⟨rfl, unhide H1, unhide H2⟩

theorem results_row_tmp {P : Program} {fn : Func} {p q : Tmp} {ty : TypeId} (h : fn.results = #[.cell p ty, .tmp q]) (tmps : Array Value) (w : World) (g : Nat) (t : TypeId) (cs : Array Value) (fr : Nat × Nat) (d : TypeDesc)
    (hp : tmps.getD p undef = .pointer (some ⟨g, 0, none⟩)) (hg : w.heap[g]? = some (.cells cs t fr))
    (hu : P.underlying ty = some d) (hd : (match d with | .struct _ | .array _ _ => true | _ => false) = true) (hi : (P.info? ty).map (·.size) = some cs.size) (v : Value) (hq : tmps.getD q undef = v) :
    (results fn tmps).run P w = .ok (.tuple #[.agg cs, v]) w := by
  have hp' : tmps[p]?.getD undef = .pointer (some ⟨g, 0, none⟩) := by simpa using hp
  have hq' : tmps[q]?.getD undef = v := by simpa using hq
  simp [results, h, hp', hq', asAddr, run_loadVar_row w g t ty cs fr d hg hu hd hi]
def z32 : List Nat := List.replicate 32 0
theorem z32_len : z32.length = 32 := by simp [z32]
theorem z32_drop (k : Nat) : z32.drop k = List.replicate (32 - k) 0 := by unfold z32; rw [List.drop_replicate]
def zRoot : Array Value := (rootC 0 z32 z32).toArray
theorem zRoot_eq : Try.zeroCells43 = zRoot := by unfold zRoot rootC z32; rfl
theorem Try.size_root : (Try.prog.info? 43).map (·.size) = some 65 := by kernel_rfl
theorem rootC_one (s : Nat) (l m : List Nat) : (rootC s l m).toArray.all (·.oneCell') = true := by
  rw [Array.all_eq_true_iff_forall_mem]; intro v hv; simp [rootC] at hv; rcases hv with rfl | ⟨x, _, rfl⟩ | ⟨x, _, rfl⟩ <;> rfl
theorem rootC_size (s : Nat) {l m : List Nat} (hl : l.length = 32) (hm : m.length = 32) : (Try.prog.info? 43).map (·.size) = some (rootC s l m).toArray.size := by
  rw [Try.size_root]; simp [rootC, hl, hm]
theorem zRoot_one : Try.zeroCells43.all (·.oneCell') = true := by rw [zRoot_eq]; exact rootC_one _ _ _
theorem zRoot_size2 : (Try.prog.info? 43).map (·.size) = some Try.zeroCells43.size := by rw [zRoot_eq]; exact Try.size_root
theorem zRoot_size : (Try.prog.info? 43).map (·.size) = some zRoot.size := Try.size_root

theorem rootSet (s : Nat) : Try.zeroCells43.setIfInBounds 0 (.int .u64 (s : Int)) = (rootC s z32 z32).toArray := by rw [zRoot_eq]; unfold zRoot rootC; simp
theorem rootSet_one (s : Nat) : (Try.zeroCells43.setIfInBounds 0 (.int .u64 (s : Int))).all (·.oneCell') = true := by rw [rootSet]; exact rootC_one _ _ _
theorem rootSet_size (s : Nat) : (Try.prog.info? 43).map (·.size) = some (Try.zeroCells43.setIfInBounds 0 (.int .u64 (s : Int))).size := by rw [rootSet]; exact rootC_size s z32_len z32_len

theorem copy_log {w : World} {g s n : Nat} {l m q : List Nat} {ao : Option Addr} {c : Nat} (hg : w.heap[g]? = some (.cells (rootC s l m).toArray 43 (0, 0))) (hl : l.length = 32) (hm : m.length = 32) (hr : Rd w (.slice ao n c) q) (hn : q.length = n) (h0 : 0 < n) (h1 : n ≤ 32) :
    (Builtin.copy_ #[23, 23] 3 #[.slice (some ⟨g, 1, none⟩) 32 32, .slice ao n c]).run Try.prog w = .ok (goInt n) (w.setRow g (rootC s (q ++ l.drop n) m).toArray) := by
  subst hn
  obtain ⟨ad, rfl, hc⟩ := hr.src (by simpa using h0)
  have h9 := run_copy_row (P := Try.prog) w 23 23 3 5 g 1 32 32 ad q.length c (rootC s l m).toArray 43 (q.map u8) Try.underlying23 Try.size5 hg (by rw [List.length_map]; exact (Nat.min_eq_left h1).symm) hc (by simp [rootC, hl, hm]; omega) (u8_oneCell q)
  rw [List.length_map] at h9
  rw [h9]
  have e9 : (rootC s l m).toArray.toList.take 1 ++ q.map u8 ++ (rootC s l m).toArray.toList.drop (1 + q.length) = rootC s (q ++ l.drop q.length) m := by
    unfold rootC
    rw [List.toList_toArray, Nat.add_comm 1, List.drop_succ_cons, List.take_succ_cons, List.take_zero, List.drop_append_of_le_length (by simp [hl]; omega)]
    simp
  rw [e9]
theorem copy_map {w : World} {g s n : Nat} {l m q : List Nat} {ao : Option Addr} {c : Nat} (hg : w.heap[g]? = some (.cells (rootC s l m).toArray 43 (0, 0))) (hl : l.length = 32) (hm : m.length = 32) (hr : Rd w (.slice ao n c) q) (hn : q.length = n) (h0 : 0 < n) (h1 : n ≤ 32) :
    (Builtin.copy_ #[23, 23] 3 #[.slice (some ⟨g, 33, none⟩) 32 32, .slice ao n c]).run Try.prog w = .ok (goInt n) (w.setRow g (rootC s l (q ++ m.drop n)).toArray) := by
  subst hn
  obtain ⟨ad, rfl, hc⟩ := hr.src (by simpa using h0)
  have h9 := run_copy_row (P := Try.prog) w 23 23 3 5 g 33 32 32 ad q.length c (rootC s l m).toArray 43 (q.map u8) Try.underlying23 Try.size5 hg (by rw [List.length_map]; exact (Nat.min_eq_left h1).symm) hc (by simp [rootC, hl, hm]; omega) (u8_oneCell q)
  rw [List.length_map] at h9
  rw [h9]
  have e9 : (rootC s l m).toArray.toList.take 33 ++ q.map u8 ++ (rootC s l m).toArray.toList.drop (33 + q.length) = rootC s l (q ++ m.drop q.length) := by
    unfold rootC
    rw [List.toList_toArray, show 33 + q.length = (32 + q.length) + 1 by omega, List.drop_succ_cons, List.take_succ_cons, List.take_left' (by simp [hl]), ← List.drop_drop, List.drop_left' (by simp [hl])]
    simp
  rw [e9]

def pad32 (q : List Nat) : List Nat := q ++ List.replicate (32 - q.length) 0
def decR (z : Int) (p : List Nat) : Nat × List Nat × List Nat × Nat :=
  if widthB z = false then (0, z32, z32, 1) else if (p.length : Int) ≠ 8 + 2 * z then (0, z32, z32, 3)
  else (beL (p.take 8), pad32 ((p.drop 8).take z.toNat), pad32 ((p.drop (8 + z.toNat)).take z.toNat), 0)

set_option maxRecDepth 100000 in
set_option maxHeartbeats 2000000 in
theorem decodeRoot_any (z : Int) (v : Value) (p : List Nat) (w : World) (hz : -9223372036854775808 ≤ z ∧ z ≤ 9223372036854775807) (h : Rd w v p) :
    Calls Try.prog 10 #[.int .i64 z, v] w fun e w' => e = .returned (.tuple #[.agg (rootC (decR z p).1 (decR z p).2.1 (decR z p).2.2.1).toArray, .int .i64 (decR z p).2.2.2]) ∧ Kept [] w w' := by
  have H := hide h
  obtain ⟨a1, n1, c1, hv1, hn1, _, ⟨_, hlen⟩, _⟩ := id h
  subst hv1
  subst hn1
  clear h
  obtain ⟨D, hD⟩ : ∃ D, decR z p = D := ⟨_, rfl⟩
  rw [hD]
  have HD := hide hD
  clear hD
  unfold decR at HD
  go_enter Try.func10, Try.ntmps10
  go_wp2_with fail
  rw [zRoot_eq]
  have HA := hide (heap_alloc_new w (.cells zRoot 43))
  have HKA := hide ((Kept.refl [] w).alloc (.cells zRoot 43))
  obtain ⟨W, hW⟩ : ∃ W, w.alloc (.cells zRoot 43) = W := ⟨_, rfl⟩
  rw [hW] at HA HKA ⊢
  clear hW
  have HSR := hide zRoot_size
  refine Calls.mono (ewidth_any z _ hz) ?_
  rintro e w1 ⟨rfl, rfl⟩
  by_cases hw : widthB z = false
  · rw [hw]
    have HE := hide (by have h9 := unhide HD; rw [if_pos hw] at h9; exact h9.symm : D = (0, z32, z32, 1))
    clear hw
    go_wp2_with (refine wpList_store_row rfl 43 _ _ rfl w.heap.size Try.zeroCells43 rfl rfl _ zRoot (unhide HA) zRoot_size2 rfl zRoot_one ?_)
    refine bodyPost_ret (v := .tuple #[.agg Try.zeroCells43, .int .i64 1]) ?_ rfl ⟨by rw [unhide HE, zRoot_eq]; rfl, (unhide HKA).setRow (Or.inr (Nat.le_refl _)) _⟩
    exact results_row_tmp rfl _ _ w.heap.size _ _ (0, 0) _ rfl (setRow_heap _ _ _ _ _ _ (unhide HA)) Try.underlying43 rfl zRoot_size2 _ rfl
  have HD1 := hide (by have h9 := unhide HD; rw [if_neg hw] at h9; exact h9)
  replace hw : widthB z = true := by simpa using hw
  rw [hw]
  have hwd : 1 ≤ z ∧ z ≤ 32 := by simpa [widthB] using hw
  clear hw HD
  obtain ⟨k, rfl⟩ : ∃ k : Nat, z = k := ⟨z.toNat, by omega⟩
  by_cases hn : (p.length : Int) ≠ 8 + 2 * (k : Int)
  · have hn' : ((p.length : Int) != 8 + 2 * (k : Int)) = true := by rw [bne_iff_ne]; exact hn
    have HE := hide (by have h9 := unhide HD1; rw [if_pos hn] at h9; exact h9.symm : D = (0, z32, z32, 3))
    clear hn
    go_wp2_with (refine wpList_store_row rfl 43 _ _ rfl w.heap.size Try.zeroCells43 rfl rfl _ zRoot (unhide HA) zRoot_size2 rfl zRoot_one ?_)
    refine bodyPost_ret (v := .tuple #[.agg Try.zeroCells43, .int .i64 3]) ?_ rfl ⟨by rw [unhide HE, zRoot_eq]; rfl, (unhide HKA).setRow (Or.inr (Nat.le_refl _)) _⟩
    exact results_row_tmp rfl _ _ w.heap.size _ _ (0, 0) _ rfl (setRow_heap _ _ _ _ _ _ (unhide HA)) Try.underlying43 rfl zRoot_size2 _ rfl
  have HD2 := hide (by have h9 := unhide HD1; rw [if_neg hn] at h9; exact h9)
  clear HD1
  have hpl : p.length = 8 + 2 * k := by omega
  clear hn
  have hn' : ((p.length : Int) != 8 + 2 * (k : Int)) = false := by rw [bne_eq_false_iff_eq]; omega
  have HPL := hide hpl
  clear hpl
  go_wp2_with fail
  refine Calls.mono (newReader_any _ p w1 ((unhide H).old (unhide HKA) (by simp))) ?_
  rintro r w2 ⟨b, gv, rfl, hb, r2, g2, k2⟩
  have hs1 : w.heap.size < w1.heap.size := lt_of_block (unhide HA)
  have HA2 := hide (k2.heap (unhide HA) (by simp))
  have HK2 := hide ((unhide HKA).trans k2 (by simp))
  have HR2 := hide r2
  have HG2 := hide g2
  clear r2 g2 k2
  go_wp2_with fail
  refine Calls.mono (eru64_any b gv p 0 0 w2 (unhide HR2)) ?_
  rintro r w3 ⟨rfl, r3, k3⟩
  have HN := hide (by have h9 := unhide HPL; unfold rNum; rw [if_neg (by simp), if_neg (by omega), List.drop_zero] : rNum p 0 0 8 = (beL (p.take 8), 0 + 8, 0))
  rw [unhide HN] at r3 ⊢
  simp only [Nat.zero_add] at r3 ⊢
  clear HN
  have hnb : w.heap.size ≠ b := by omega
  have HA3 := hide (k3.heap (unhide HA2) (by simpa using hnb))
  have HK3 := hide ((unhide HK2).trans k3 (by simp; omega))
  have HR3 := hide r3
  have hgv3 := hide (fun x hx => Nat.lt_of_lt_of_le (unhide HG2 x hx).2 k3.size : ∀ x ∈ blk gv, x < w3.heap.size)
  clear r3 k3
  obtain ⟨s, hs⟩ : ∃ s, beL (p.take 8) = s := ⟨_, rfl⟩
  rw [hs] at HD2 ⊢
  clear hs
  have kal := ((Kept.refl [] w3).alloc (.cells Try.zeroCells43 43)).setRow (g := w3.heap.size) (Or.inr (Nat.le_refl _)) (Try.zeroCells43.setIfInBounds 0 (.int .u64 (s : Int)))
  have HZN := hide (heap_alloc_new w3 (.cells Try.zeroCells43 43))
  have HG4 := hide (by have h9 := setRow_heap (w3.alloc (.cells Try.zeroCells43 43)) w3.heap.size _ (Try.zeroCells43.setIfInBounds 0 (.int .u64 (s : Int))) 43 (0, 0) (unhide HZN); rw [rootSet] at h9 ⊢; exact h9 : ((w3.alloc (.cells Try.zeroCells43 43)).setRow w3.heap.size (Try.zeroCells43.setIfInBounds 0 (.int .u64 (s : Int)))).heap[w3.heap.size]? = some (.cells (rootC s z32 z32).toArray 43 (0, 0)))
  have HA4 := hide (kal.heap (unhide HA3) (by simp))
  have HK4 := hide ((unhide HK3).trans kal (by simp))
  have HR4 := hide ((unhide HR3).kept kal (by simp) (by simp))
  have hgl := hide (lt_of_block (unhide HR3).at_)
  have hal := hide (lt_of_block (unhide HA3))
  clear kal
  go_wp2_with (refine wpList_store_row rfl 43 _ _ rfl w3.heap.size (Try.zeroCells43.setIfInBounds 0 (.int .u64 (s : Int))) rfl rfl _ Try.zeroCells43 (unhide HZN) (rootSet_size s) (by simp) (rootSet_one s) ?_)
  obtain ⟨W4, hW4⟩ : ∃ W, (w3.alloc (.cells Try.zeroCells43 43)).setRow w3.heap.size (Try.zeroCells43.setIfInBounds 0 (.int .u64 (s : Int))) = W := ⟨_, rfl⟩
  rw [hW4] at HG4 HA4 HK4 HR4 ⊢
  clear hW4 HZN
  have HKD := hide (unhide HK4).drew
  have HRQ := hide (by unfold rRaw; have h9 := unhide HPL; rw [if_neg (by simp), if_neg (by omega), if_neg (by omega), Int.toNat_natCast] : rRaw p 8 0 (k : Int) = ((p.drop 8).take k, 8 + k, 0))
  have HQL := hide (by have h9 := unhide HPL; rw [List.length_take, List.length_drop]; omega : ((p.drop 8).take k).length = k)
  have HRQ2 := hide (by unfold rRaw; have h9 := unhide HPL; rw [if_neg (by simp), if_neg (by omega), if_neg (by omega), Int.toNat_natCast] : rRaw p (8 + k) 0 (k : Int) = ((p.drop (8 + k)).take k, 8 + k + k, 0))
  have HQL2 := hide (by have h9 := unhide HPL; rw [List.length_take, List.length_drop]; omega : ((p.drop (8 + k)).take k).length = k)
  have hGN := hide (fun x hx => Nat.ne_of_lt (unhide hgv3 x hx) : ∀ x ∈ blk gv, x ≠ w3.heap.size)
  have hkI : -9223372036854775808 ≤ (k : Int) ∧ (k : Int) ≤ 9223372036854775807 := hz
  have HR4d := hide ((unhide HR4).kept ((Kept.refl [] W4).drew) (by simp) (by simp))
  have HG4d := hide (show W4.drew.heap[w3.heap.size]? = _ from unhide HG4)
  have HA4d := hide (show W4.drew.heap[w.heap.size]? = _ from unhide HA4)
  simp only [Act.put]
  have hneb := hide (by have := unhide hgl; omega : w3.heap.size ≠ b)
  have hwb := hide hnb
  go_region_held3 (fun _ => True) (trivial) (first
    | (go_at_call 33; refine (rraw_any b gv p 8 0 (k : Int) _ (by exact unhide HR4d) hkI).mono ?_; rintro e w5 ⟨v5, rfl, rd5, r5, k5, n5⟩; rw [unhide HRQ] at rd5 r5; obtain ⟨a5, m5, c5, hu5, hm5, _⟩ := id rd5; rw [unhide HQL] at hm5; subst hu5; subst hm5; have HG5 := hide (k5.heap (unhide HG4d) (by simpa using unhide hneb)); have HA5 := hide (k5.heap (unhide HA4d) (by simpa using unhide hwb)); have HK5 := hide ((unhide HKD).trans k5 (by simp; omega)); have HR5 := hide r5; clear k5 r5 n5; have hcp := copy_log (unhide HG5) z32_len z32_len rd5 (unhide HQL) (by omega) (by omega); clear rd5))
  clear hcp
  obtain ⟨q, hq⟩ : ∃ q, (p.drop 8).take k = q := ⟨_, rfl⟩
  rw [Int.toNat_natCast, hq] at HD2
  rw [hq] at HQL ⊢
  clear hq HRQ
  have HL1 := hide (by rw [List.length_append, unhide HQL, List.length_drop, z32_len]; omega : (q ++ z32.drop k).length = 32)
  have HP1 := hide (by unfold pad32; rw [unhide HQL, z32_drop] : pad32 q = q ++ z32.drop k)
  rw [unhide HP1] at HD2
  obtain ⟨l, hl⟩ : ∃ l, q ++ z32.drop k = l := ⟨_, rfl⟩
  rw [hl] at HD2 HL1 ⊢
  clear hl HP1
  have kst := (Kept.refl [w3.heap.size] w5).setRow (g := w3.heap.size) (Or.inl (by simp)) (rootC s l z32).toArray
  have HG6 := hide (setRow_heap w5 w3.heap.size _ (rootC s l z32).toArray 43 (0, 0) (unhide HG5))
  have HA6 := hide (kst.heap (unhide HA5) (by simp; have := unhide hal; omega))
  have HK6 := hide ((unhide HK5).setRow (g := w3.heap.size) (Or.inr (by have := unhide hal; omega)) (rootC s l z32).toArray)
  have HR6 := hide ((unhide HR5).kept kst (by have := unhide hneb; simp; omega) (fun x hx => by simpa using unhide hGN x hx))
  clear kst
  obtain ⟨W6, hW6⟩ : ∃ W, w5.setRow w3.heap.size (rootC s l z32).toArray = W := ⟨_, rfl⟩
  rw [hW6] at HG6 HA6 HK6 HR6 ⊢
  clear hW6 HG4 HG4d HG5 HA5 HA4 HA4d HR4 HR4d HR5
  have HKD6 := hide (unhide HK6).drew
  have HR6d := hide ((unhide HR6).kept ((Kept.refl [] W6).drew) (by simp) (by simp))
  have HG6d := hide (show W6.drew.heap[w3.heap.size]? = _ from unhide HG6)
  have HA6d := hide (show W6.drew.heap[w.heap.size]? = _ from unhide HA6)
  go_wp2_with fail
  go_region_held3 (fun _ => True) (trivial) (first
    | (go_at_call 33; refine (rraw_any b gv p (8 + k) 0 (k : Int) _ (by exact unhide HR6d) hkI).mono ?_; rintro e w7 ⟨v7, rfl, rd7, r7, k7, n7⟩; rw [unhide HRQ2] at rd7 r7; obtain ⟨a7, m7, c7, hu7, hm7, _⟩ := id rd7; rw [unhide HQL2] at hm7; subst hu7; subst hm7; have HG7 := hide (k7.heap (unhide HG6d) (by simpa using unhide hneb)); have HA7 := hide (k7.heap (unhide HA6d) (by simpa using unhide hwb)); have HK7 := hide ((unhide HKD6).trans k7 (by simp; omega)); clear k7 r7 n7; have hcp := copy_map (unhide HG7) (unhide HL1) z32_len rd7 (unhide HQL2) (by omega) (by omega); clear rd7))
  clear hcp
  obtain ⟨q2, hq2⟩ : ∃ q, (p.drop (8 + k)).take k = q := ⟨_, rfl⟩
  rw [hq2] at HD2 HQL2 ⊢
  clear hq2 HRQ2
  have HL2 := hide (by rw [List.length_append, unhide HQL2, List.length_drop, z32_len]; omega : (q2 ++ z32.drop k).length = 32)
  have HP2 := hide (by unfold pad32; rw [unhide HQL2, z32_drop] : pad32 q2 = q2 ++ z32.drop k)
  rw [unhide HP2] at HD2
  obtain ⟨m, hm⟩ : ∃ m, q2 ++ z32.drop k = m := ⟨_, rfl⟩
  rw [hm] at HD2 HL2 ⊢
  clear hm HP2
  have kst := (Kept.refl [w3.heap.size] w7).setRow (g := w3.heap.size) (Or.inl (by simp)) (rootC s l m).toArray
  have HG8 := hide (setRow_heap w7 w3.heap.size _ (rootC s l m).toArray 43 (0, 0) (unhide HG7))
  have HA8 := hide (kst.heap (unhide HA7) (by simp; have := unhide hal; omega))
  have HK8 := hide ((unhide HK7).setRow (g := w3.heap.size) (Or.inr (by have := unhide hal; omega)) (rootC s l m).toArray)
  clear kst
  obtain ⟨W8, hW8⟩ : ∃ W, w7.setRow w3.heap.size (rootC s l m).toArray = W := ⟨_, rfl⟩
  rw [hW8] at HG8 HA8 HK8 ⊢
  clear hW8
  have HSZ := hide (rootC_size s (unhide HL1) (unhide HL2))
  have HS2 := hide (by have h9 := (unhide HSZ).symm.trans zRoot_size; exact (Option.some.inj h9).symm : zRoot.size = (rootC s l m).toArray.size)
  have HON := hide (rootC_one s l m)
  obtain ⟨A, hA⟩ : ∃ A, (rootC s l m).toArray = A := ⟨_, rfl⟩
  rw [hA] at HG8 HSZ HS2 HON
  have HAA := hide hA
  clear hA
  go_wp2_with (first
    | (refine wpList_load_row rfl 43 _ rfl w3.heap.size rfl _ A (0, 0) _ (unhide HG8) Try.underlying43 rfl (unhide HSZ) ?_)
    | (refine wpList_store_row rfl 43 _ _ rfl w.heap.size A rfl rfl _ zRoot (unhide HA8) (unhide HSZ) (unhide HS2) (unhide HON) ?_))
  refine bodyPost_ret (v := .tuple #[.agg A, .int .i64 0]) ?_ rfl ⟨by rw [← unhide HD2, ← unhide HAA]; rfl, (unhide HK8).setRow (Or.inr (Nat.le_refl _)) _⟩
  exact results_row_tmp rfl _ _ w.heap.size _ _ (0, 0) _ rfl (setRow_heap _ _ _ _ _ _ (unhide HA8)) Try.underlying43 rfl (unhide HSZ) _ rfl
end Go.Proofs.Ythampopakcdgnaa
