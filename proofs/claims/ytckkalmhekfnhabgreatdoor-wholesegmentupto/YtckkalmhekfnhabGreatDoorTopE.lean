import Derived.Test.YtckkalmhekfnhabGreatDoorTopD
import Derived.Test.YtckkalmhekfnhabGreatDoorBase
import Derived.Test.YtckkalmhekfnhabGreatDoorCards
import Derived.Test.YtckkalmhekfnhabGreatDoorTie
import Derived.ProofKit
import Derived.OpenShut
import Derived.Deep.Slices
import Derived.SizedLaws
import Derived.Test.YtckkalmhekfnhabGreatDoorEBat
import Derived.Test.YtckkalmhekfnhabGreatDoorTopC
namespace Go.Proofs.YtckkalmhekfnhabGreatDoor
open Go.RowKit Go.BigFrame
set_option linter.unusedVariables false
set_option linter.unusedSimpArgs false

theorem fit_by {w : World} {e : En} {kv vv : Value} (h : OkE w e kv vv) : (fitE e).k < 256 ∧ (∀ x ∈ (fitE e).key, x < 256) ∧ ∀ x ∈ (fitE e).val, x < 256 := by
  unfold fitE
  split
  · exact ⟨by show (2 : Nat) < 256; decide, fun x hx => h.key.byte x (List.mem_of_mem_take hx), fun x hx => by cases hx⟩
  · exact ⟨by show (1 : Nat) < 256; decide, fun x hx => h.key.byte x (List.mem_of_mem_take hx), fun x hx => h.val.byte x (List.mem_of_mem_take hx)⟩
/-- What a batch reads stays, whatever turns outside its memory and what was there at first. -/
def Sty (A B C : Nat) (w : World) (v : Value) (es : List En) : Prop := ∀ M w', Kept M w w' → (∀ x ∈ M, A ≤ x ∧ (x < B ∨ C ≤ x)) → RdN w' v es
theorem Sty.pass {A B C : Nat} {w w' : World} {v : Value} {es : List En} (h : Sty A B C w v es) (k : Kept [] w w') : Sty A B C w' v es := fun N w2 kN hN => h N w2 ((k.mono (M := N) (by simp)).trans kN (fun x hx => Or.inl hx)) hN
theorem less_asym : ∀ (x y : List UInt8), Op.bytesLess x y = true → Op.bytesLess y x = false
  | _, [], h => by simp [Op.bytesLess] at h
  | [], b :: y, _ => rfl
  | a :: x, b :: y, h => by
    simp only [Op.bytesLess, Bool.or_eq_true, decide_eq_true_eq, Bool.and_eq_true, beq_iff_eq] at h
    rcases h with h | ⟨rfl, h⟩
    · have h1 : ¬ b < a := fun h2 => absurd (UInt8.lt_trans h h2) (UInt8.lt_irrefl a)
      have h3 : (b == a) = false := beq_eq_false_iff_ne.2 (fun e => by subst e; exact UInt8.lt_irrefl _ h)
      simp [Op.bytesLess, h1, h3]
    · have ih := less_asym x y h
      simp [Op.bytesLess, ih, UInt8.lt_irrefl]
theorem Sty.turn {A B C : Nat} {w W : World} {v : Value} {es : List En} {o : Option Nat} (h : Sty A B C w v es) (gr : w.grownBy W o) (ho : ∀ b, o = some b → A ≤ b ∧ (b < B ∨ C ≤ b)) : Sty A B C W v es := rd_turn (w0s := 0) (t := (0, v, es)) h gr ho

set_option maxRecDepth 100000 in
set_option maxHeartbeats 8000000 in
theorem wholeSegment_walk (a b wd : Nat) (v : Value) (ps : List (Nat × En)) (at_ ng : Nat) (w : World) (ha : a < 18446744073709551616) (hb : b < 18446744073709551616) (hwd : wd < 256) (h : RdT w v ps) (hl : ps.length ≤ 1048576) (hat : at_ < 4294967296) (hng : ng < 256) (hv : VarsS w) :
    Calls Tryz.prog 5 #[.int .u64 a, .int .u64 b, .int .u8 wd, v, .int .u32 at_, .int .u8 ng] w fun e w' => e = .returned (.bool true) ∧ Below w.heap.size w w' := by
  have HV := hide hv
  obtain ⟨ao, cap, S, rfl, hps, hcap1, hcap2, hok, hcl⟩ := h
  have HOK := hide hok
  have HCL := hide hcl
  have HPS := hide hps
  have hSl : ps.length = S.length := by rw [hps]; simp
  rw [hSl] at hl
  have HFB := hide (fun p (hp : p ∈ ps) => by
    rw [hps] at hp
    obtain ⟨t, ht, rfl⟩ := List.mem_map.1 hp
    exact fit_by (hok t ht).2 : ∀ p ∈ ps, (fitE p.2).k < 256 ∧ (∀ x ∈ (fitE p.2).key, x < 256) ∧ ∀ x ∈ (fitE p.2).val, x < 256)
  clear hv hps hok hcl
  obtain ⟨c, hc⟩ : ∃ c, a % 1000 = c := ⟨_, rfl⟩
  have hc1 : c < 1000 := by omega
  have hci : (a : Int) % 1000 = (c : Int) := by omega
  obtain ⟨z, hz⟩ : ∃ z, 1 + wd % 32 = z := ⟨_, rfl⟩
  have hz1 : 1 ≤ z ∧ z ≤ 32 := by omega
  have HTW := hide (twidth_any wd w hwd)
  rw [hz] at HTW
  have HWD := hide (by unfold wideB; simp only [decide_eq_true_eq]; omega : wideB (z : Int) = true)
  clear hc hz hwd
  obtain ⟨D, hD⟩ : ∃ D, wsL c ps = D := ⟨_, rfl⟩
  have HNU := hide (by rw [← hD]; exact wsL_num c ps : numS c (D.map (·.2)) = D)
  have HKS := hide (by rw [← hD]; exact wsL_ok ps c (by rw [hSl]; omega) : okS c (D.map (·.2)) = true)
  have HBN := hide (by rw [← hD]; exact wsL_by ps c (unhide HFB) : ∀ es ∈ D.map (·.2), byN es)
  have HDL := hide (by rw [← hD, wsL_len, hSl] : D.length = S.length)
  have HD := hide hD
  clear hD hSl
  have HH0 := hide (heap_alloc_new w (.cells #[.int .u64 (a : Int), .int .u64 (b : Int), .int .u64 (c : Int), .int .i64 (z : Int)] 33))
  have HK0 := hide ((Kept.refl [] w).alloc (.cells #[.int .u64 (a : Int), .int .u64 (b : Int), .int .u64 (c : Int), .int .i64 (z : Int)] 33))
  obtain ⟨W1, hW1⟩ : ∃ W, w.alloc (.cells #[.int .u64 (a : Int), .int .u64 (b : Int), .int .u64 (c : Int), .int .i64 (z : Int)] 33) = W := ⟨_, rfl⟩
  have HS1 := hide (by rw [← hW1]; simp : W1.heap.size = w.heap.size + 1)
  rw [hW1] at HH0 HK0
  have HW1 := hide hW1
  clear hW1
  obtain ⟨d0, d1, d2, d3⟩ := hcells (unhide HH0)
  rw [← unhide HW1] at d0 d1 d2 d3
  go_enter Tryz.func5, Tryz.ntmps5
  go_wp2_with fail
  refine Calls.mono (unhide HTW) ?_
  rintro e w9 ⟨rfl, h9⟩
  subst w9
  go_wp2_with fail
  rw [unhide HW1]
  clear d0 d1 d2 d3
  refine Calls.mono (encodeHead_any a b c (z : Int) W1 ha (by omega)) ?_
  rintro e w2 ⟨v2, rfl, n2, k2⟩
  rw [show ehE (z : Int) = 0 by simp [ehE, unhide HWD]]
  obtain ⟨E, hE⟩ : ∃ E, ehB a b c (z : Int) = E := ⟨_, rfl⟩
  have hEL : E.length = 48 := by rw [← hE]; exact ehB_len (unhide HWD)
  have HE := hide hE
  rw [hE] at n2
  clear hE
  obtain ⟨g0, hv2, hg0, hh0⟩ : ∃ g, v2 = .slice (some ⟨g, 0, none⟩) 48 48 ∧ W1.heap.size ≤ g ∧ w2.heap[g]? = some (.cells (E.map Go.Proofs.YtckkalmhekfnhabGreatDoor.u8).toArray 5 (0, 0)) := by
    rcases n2.2 with ⟨h0, _⟩ | ⟨g, h1, h2, h3⟩
    · rw [h0] at hEL; simp at hEL
    · rw [hEL] at h1; exact ⟨g, h1, h2, h3⟩
  subst hv2
  have HEB := hide n2.1.byte
  have HEL := hide hEL
  have HH2 := hide (k2.heap (unhide HH0) (by simp))
  have HK2 := hide ((unhide HK0).trans k2 (by simp))
  have HSK := hide k2.size
  have HG0 := hide (And.intro hg0 hh0)
  clear n2 k2 hg0 hh0 hEL HTW HK0 HW1
  have KA := hide ((Kept.refl [] w2).alloc (.cells #[.int .i64 48] 3))
  have HJ2 := hide (heap_alloc_new w2 (.cells #[.int .i64 48] 3))
  obtain ⟨W2, hW2⟩ : ∃ W, w2.alloc (.cells #[.int .i64 48] 3) = W := ⟨_, rfl⟩
  rw [hW2] at KA HJ2
  have HW2 := hide hW2
  clear hW2
  have HH3 := hide ((unhide KA).heap (unhide HH2) (by simp))
  have HK3 := hide ((unhide HK2).trans (unhide KA) (by simp))
  obtain ⟨d0, d1, d2, d3⟩ := hcells (unhide HH3)
  rw [← unhide HW2] at d0 d1 d2 d3
  have HL0 := hide (by
    refine ⟨⟨by rw [List.length_map, Nat.mul_one], Or.inr ⟨g0, 48, _, by rw [unhide HEL], (unhide HG0).1, (unhide KA).heap (unhide HG0).2 (by simp), by rw [unhide HEL]; exact Nat.le_refl _, by unfold maxLen; omega, by rw [List.size_toArray, List.length_map, unhide HEL], by rw [List.take_of_length_le (by simp)]⟩⟩, World.ownsRow_nil _ _ _ _, ⟨rfl, Or.inr ⟨w2.heap.size, 1, _, rfl, unhide HSK, unhide HJ2, Nat.le_refl _, by unfold maxLen; omega, rfl, rfl⟩⟩, by simp, ?_, by rw [unhide HS1]; omega⟩
    exact Nat.le_trans (unhide HSK) (unhide KA).size : LaW w.heap.size W1 W2 (.slice (some ⟨g0, 0, none⟩) 48 48) (.slice none 0 0) (.slice (some ⟨w2.heap.size, 0, none⟩) 1 1) E [] [48])
  go_wp2_with fail
  rw [unhide HW2]
  clear d0 d1 d2 d3 HH2 HK2 HG0 HJ2 KA HW2 HSK
  go_loopw [14, 17, 18, 19, 20] (fun t14 t17 t18 t19 t20 wr => ∃ (i nxt : Nat) (ts : List (Nat × Value × List En)) (BS : List Nat) (X : List Nat), t20 = .int .i64 (i : Int) ∧ i ≤ S.length ∧ t19 = .int .u64 (nxt : Int) ∧ Hid (nxt ≤ 1000 + 64 * i ∧ ts.length = i) ∧ Hid (D = ts.map (fun t => (t.1, t.2.2)) ++ wsL nxt (ps.drop i)) ∧ Hid (BS = E ++ runS (ts.map fun t => (t.1, t.2.2)) ∧ BS.length ≤ 48 + 30018 * i ∧ ∀ x ∈ BS, x < 256) ∧ Hid (X = 48 :: atS 48 (ts.map fun t => (t.1, t.2.2))) ∧ Hid (LaW w.heap.size W1 wr t14 t17 t18 BS ts X) ∧ Hid (Kept [] w wr) ∧ Hid (wr.heap[w.heap.size]? = some (.cells #[.int .u64 (a : Int), .int .u64 (b : Int), .int .u64 (c : Int), .int .i64 (z : Int)] 33 (0, 0))) ∧ (∃ g cp, t14 = .slice (some ⟨g, 0, none⟩) BS.length cp)) (fun _ _ _ _ t _ => S.length - (intOf t).toNat)
  case atStart =>
    exact ⟨0, c, [], E, [48], rfl, Nat.zero_le _, rfl, hide ⟨by omega, rfl⟩, hide (by rw [← unhide HD]; simp), hide ⟨by simp [runS], by rw [unhide HEL]; omega, unhide HEB⟩, hide rfl, HL0, HK3, HH3, g0, 48, by rw [unhide HEL]⟩
  case round =>
    obtain ⟨i, nxt, ts, BS, X, rfl, hi, rfl, HN, HDD, HBS, HX, HL, HK, HH, gp, cp, rfl⟩ := hrel
    by_cases hlt : i < S.length
    · have hlt' : (i : Int) < (S.length : Int) := by omega
      obtain ⟨b0, off, rfl, hcell⟩ := unhide HCL (by omega)
      have hrg := hcell i hlt
      obtain ⟨hc256, hokt⟩ := unhide HOK S[i] (List.getElem_mem hlt)
      have HDR := hide (by rw [unhide HPS, List.drop_eq_getElem_cons (by simpa using hlt)]; simp : ps.drop i = (S[i].1, S[i].2.1) :: ps.drop (i + 1))
      obtain ⟨cn, en, kv, vv, hSi⟩ : ∃ cn en kv vv, S[i] = (cn, en, kv, vv) := ⟨_, _, _, _, rfl⟩
      rw [hSi] at hrg hc256 hokt HDR
      simp only at hrg hc256 hokt HDR
      clear hSi hcell
      obtain ⟨a1, n1, c1, hu1, _⟩ := id hokt.key
      subst hu1
      obtain ⟨a2, n2, c2, hu2, _⟩ := id hokt.val
      subst hu2
      have HOT := hide hokt
      have p0 := (unhide HK).cell (hrg 0 _ rfl) (by simp)
      have p1 := (unhide HK).cell (hrg 1 _ rfl) (by simp)
      have p2 := (unhide HK).cell (hrg 2 _ rfl) (by simp)
      have p3 := (unhide HK).cell (hrg 3 _ rfl) (by simp)
      rw [Nat.add_zero] at p0
      clear hokt hrg
      have hnx : nxt < 18446744073709551616 := by have := (unhide HN).1; omega
      go_wp2_with fail
      clear p0 p1 p2 p3
      refine Calls.mono (tbatch_any nxt cn en _ _ w wr hnx hc256 (unhide HK) (unhide HOT)) ?_
      rintro e w4 ⟨bv, rfl, hst, k4⟩
      have hst2 : Sty w.heap.size wr.heap.size w4.heap.size w4 bv (btE nxt en (cn % 64)) := hst
      have HT4 := hide hst2
      clear hst hst2
      have hm64 : cn % 64 < 64 := Nat.mod_lt _ (by omega)
      have HCK := hide (bt_ok (f := nxt) (e := en) hm64 (by have := (unhide HN).1; omega))
      have HLE := hide (btE_len nxt en (cn % 64))
      have HWS := hide (by rw [unhide HDR]; rfl : wsL nxt (ps.drop i) = (nxt, btE nxt en (cn % 64)) :: wsL ((nxt + (cn % 64 + 1)) % 18446744073709551616) (ps.drop (i + 1)))
      obtain ⟨m, hm⟩ : ∃ m, cn % 64 = m := ⟨_, rfl⟩
      rw [hm] at HT4 HCK HLE HWS hm64
      clear hm HDR HOT hc256
      obtain ⟨es, hes⟩ : ∃ es, btE nxt en m = es := ⟨_, rfl⟩
      rw [hes] at HT4 HCK HLE HWS
      clear hes
      obtain ⟨av, cv, hbv, _, _⟩ := (unhide HT4 [] w4 (Kept.refl _ _) (by simp)).shapeN
      rw [unhide HLE] at hbv
      subst hbv
      have HL4 := hide ((unhide HL).pass k4)
      have HK4 := hide ((unhide HK).trans k4 (by simp))
      have HH4 := hide (k4.heap (unhide HH) (by simp))
      have HLT := hide (fun b hb => ((unhide HL).lt b hb))
      have HS4 := hide k4.size
      clear k4
      have KB := hide ((Kept.refl [] w4).alloc (.cells #[.int .u64 (nxt : Int), .slice av (m + 1) cv] 37))
      have HB5 := hide (heap_alloc_new w4 (.cells #[.int .u64 (nxt : Int), .slice av (m + 1) cv] 37))
      obtain ⟨W5, hW5⟩ : ∃ W, w4.alloc (.cells #[.int .u64 (nxt : Int), .slice av (m + 1) cv] 37) = W := ⟨_, rfl⟩
      rw [hW5] at KB HB5
      have HW5 := hide hW5
      clear hW5
      obtain ⟨g0', g1'⟩ := bcells (unhide HB5)
      rw [← unhide HW5] at g0' g1'
      go_wp2_with fail
      rw [unhide HW5]
      clear g0' g1'
      have HT5 := hide ((unhide HT4).pass (unhide KB))
      refine Calls.mono (segBatch_any nxt _ es W5 hnx (unhide HT5 [] W5 (Kept.refl _ _) (by simp))) ?_
      rintro e w6 ⟨v6, rfl, n6, k6⟩
      rw [unhide HCK]
      obtain ⟨a6, m6, c6, rfl, hm6, _⟩ := id n6.1
      have HQ6 := hide n6.1
      have K46 := (unhide KB).trans k6 (by simp)
      have HT6 := hide ((unhide HT5).pass k6)
      have HL6 := hide ((unhide HL4).pass K46)
      have HK6 := hide ((unhide HK4).trans K46 (by simp))
      have HH6 := hide (K46.heap (unhide HH4) (by simp))
      have HB6 := hide (k6.heap (unhide HB5) (by simp))
      have HS6 := hide K46.size
      clear n6 k6 K46 KB HB5 HT4 HT5 HL4 HK4 HH4 HW5 HL HK HH
      subst hm6
      obtain ⟨pp, hpp⟩ : ∃ pp, sbB nxt es = pp := ⟨_, rfl⟩
      have HPP := hide hpp
      have HPL := hide (by rw [← hpp, sbB_len (unhide HCK)]; have := batB_lenS (unhide HCK) hnx; omega : pp.length ≤ 30018)
      rw [hpp] at HQ6 ⊢
      clear hpp
      go_upto_region 17 with (at_builtin; refine wpList_appendAll rfl (.tmp 76) (.tmp 77) rfl rfl _ W1.heap.size (.slice (some ⟨gp, 0, none⟩) BS.length cp) BS pp a6 pp.length c6 (unhide HL6).byt (unhide HQ6) (by have := (unhide HBS).2.1; have := unhide HPL; omega) (unhide HL6).sz rfl rfl ?_; intro ao7 cp7 w7 HO7 HG7 HA7)
      have HL7 := hide ((unhide HL6).bytes (unhide HO7) (unhide HG7) (unhide HA7))
      have HLT6 := hide (unhide HL6).lt
      have HT7 := hide ((unhide HT6).turn (unhide HG7) (fun b hb => by have h9 := unhide HLT b (Or.inl hb); have := unhide HS1; omega))
      have K67 := ((Kept.refl ((Value.slice (some ⟨gp, 0, none⟩) BS.length cp).ownBlock.toList) w6)).grown (unhide HG7) (by intro k hk; left; simp [hk])
      have HK7 := hide ((unhide HK6).grown (unhide HG7) (fun k hk => Or.inr (by have h9 := unhide HLT k (Or.inl hk); have := unhide HS1; omega)))
      have HH7 := hide (K67.heap (unhide HH6) (by intro hm; have h9 := unhide HLT _ (Or.inl (by simpa using hm)); have := unhide HS1; omega))
      have HB7 := hide (K67.heap (unhide HB6) (by intro hm; have h9 := unhide HLT _ (Or.inl (by simpa using hm)); have := unhide HS4; omega))
      have HS7 := hide (by have := K67.size; have := unhide HS6; omega : w4.heap.size ≤ w7.heap.size)
      obtain ⟨gp7, hgp7⟩ : ∃ g, ao7 = some ⟨g, 0, none⟩ := by
        rcases (unhide HL7).byt.2 with ⟨h1, h2⟩ | ⟨g, cap9, cur, h1, _⟩
        · rw [List.length_append] at h2; have h3 := (unhide HBS).1; have h4 := unhide HEL; rw [h3, List.length_append] at h2; omega
        · simp only [Value.slice.injEq] at h1; exact ⟨g, h1.1⟩
      subst hgp7
      have HBB := hide (fun x hx => by rcases List.mem_append.1 hx with hx | hx; exact (unhide HBS).2.2 x hx; exact (unhide HQ6).byte x hx : ∀ x ∈ BS ++ pp, x < 256)
      have HBS7 := hide (by rw [List.length_append]; have := (unhide HBS).2.1; have := unhide HPL; omega : (BS ++ pp).length ≤ 48 + 30018 * (i + 1))
      have HBE := hide (List.length_append : (BS ++ pp).length = BS.length + pp.length)
      have HPB := hide (fun b (hb : (Value.slice (some ⟨gp7, 0, none⟩) (BS.length + pp.length) cp7).ownBlock = some b) => by
        rcases unhide HA7 with h9 | h9
        · rw [h9] at hb; have := unhide HLT b (Or.inl hb); omega
        · rw [h9] at hb; simp only [Option.some.injEq] at hb; have := unhide HS6; omega : ∀ b, (Value.slice (some ⟨gp7, 0, none⟩) (BS.length + pp.length) cp7).ownBlock = some b → b < wr.heap.size ∨ w4.heap.size ≤ b)
      obtain ⟨N, hN⟩ : ∃ N, BS.length + pp.length = N := ⟨_, rfl⟩
      rw [hN] at HL7 HBE HPB ⊢
      clear hN K67 HO7 HG7 HA7 HL6 HT6 HK6 HH6 HB6 HQ6
      have KA := hide ((Kept.refl [] w7).alloc (.cells #[.int .i64 (N : Int)] 3))
      have HNI := hide (heap_alloc_new w7 (.cells #[.int .i64 (N : Int)] 3))
      have HL8 := hide ((unhide HL7).pass (unhide KA))
      have HT8 := hide ((unhide HT7).pass (unhide KA))
      have HK8 := hide ((unhide HK7).trans (unhide KA) (by simp))
      have HH8 := hide ((unhide KA).heap (unhide HH7) (by simp))
      have HB8 := hide ((unhide KA).heap (unhide HB7) (by simp))
      have HS8 := hide (by have := (unhide KA).size; have := unhide HS7; omega : w4.heap.size ≤ (w7.alloc (.cells #[.int .i64 (N : Int)] 3)).heap.size)
      have HXL := hide (by rw [unhide HX, List.length_cons, atS_len, List.length_map, (unhide HN).2] : X.length = i + 1)
      go_upto_region 18 with (at_builtin; refine wpList_pushI rfl (.tmp 79) (.tmp 82) rfl rfl _ W1.heap.size u18 X N w7.heap.size (unhide HL8).ints (unhide HNI) (by rw [unhide HXL]; omega) (unhide HL8).sz rfl rfl ?_; intro gi ci w9 HO9 HG9 HI9)
      have HL9 := hide ((unhide HL8).int (x := N) rfl (unhide HO9) (unhide HG9) (unhide HI9))
      have K89 := (Kept.refl (u18.ownBlock.toList) _).grown (unhide HG9) (by intro k hk; left; simp [hk])
      have HT9 := hide ((unhide HT8).turn (unhide HG9) (fun b hb => by have h9 := unhide HLT b (Or.inr (Or.inr hb)); have := unhide HS1; omega))
      have HK9 := hide ((unhide HK8).grown (unhide HG9) (fun k hk => Or.inr (by have h9 := unhide HLT k (Or.inr (Or.inr hk)); have := unhide HS1; omega)))
      have HH9 := hide (K89.heap (unhide HH8) (by intro hm; have h9 := unhide HLT _ (Or.inr (Or.inr (by simpa using hm))); have := unhide HS1; omega))
      have HB9 := hide (K89.heap (unhide HB8) (by intro hm; have h9 := unhide HLT _ (Or.inr (Or.inr (by simpa using hm))); have := unhide HS4; omega))
      have HS9 := hide (by have := K89.size; have := unhide HS8; omega : w4.heap.size ≤ w9.heap.size)
      have HIB := hide (fun b (hb : (Value.slice (some ⟨gi, 0, none⟩) (X.length + 1) ci).ownBlock = some b) => by
        simp only [Value.ownBlock, Option.some.injEq] at hb
        subst hb
        rcases unhide HI9 with h9 | h9
        · have := unhide HLT _ (Or.inr (Or.inr h9)); omega
        · have := unhide HS8; omega : ∀ b, (Value.slice (some ⟨gi, 0, none⟩) (X.length + 1) ci).ownBlock = some b → b < wr.heap.size ∨ w4.heap.size ≤ b)
      clear K89 HO9 HG9 HI9 HL8 HT8 HK8 HH8 HB8 HL7 HT7 HK7 HH7 HB7 KA HNI
      have KA := hide ((Kept.refl [] w9).alloc (.cells #[.int .u64 (nxt : Int), .slice av (m + 1) cv] 37))
      have HNB := hide (heap_alloc_new w9 (.cells #[.int .u64 (nxt : Int), .slice av (m + 1) cv] 37))
      have HL10 := hide ((unhide HL9).pass (unhide KA))
      have HT10 := hide ((unhide HT9).pass (unhide KA))
      have HK10 := hide ((unhide HK9).trans (unhide KA) (by simp))
      have HH10 := hide ((unhide KA).heap (unhide HH9) (by simp))
      have HB10 := hide ((unhide KA).heap (unhide HB9) (by simp))
      have HS10 := hide (by have := (unhide KA).size; have := unhide HS9; omega : w4.heap.size ≤ (w9.alloc (.cells #[.int .u64 (nxt : Int), .slice av (m + 1) cv] 37)).heap.size)
      obtain ⟨q0, q1⟩ := bcells (unhide HB9)
      go_upto_region 19 with (at_builtin; refine wpList_pushB rfl (.tmp 84) (.tmp 86) rfl rfl _ W1.heap.size u17 ts nxt (.slice av (m + 1) cv) w9.heap.size (unhide HL10).own (unhide HNB) rfl (by have := (unhide HN).2; omega) (unhide HL10).sz rfl rfl ?_; intro gb cb w11 HO11 HG11 HI11)
      have HL11 := hide ((unhide HL10).bat rfl ⟨wr.heap.size, w4.heap.size, unhide HS10, fun b hb => by
        rcases hb with hb | hb | hb
        · exact unhide HPB b hb
        · have := unhide HLT b (Or.inr (Or.inl hb)); omega
        · exact unhide HIB b hb, unhide HT10⟩ (unhide HO11) (unhide HG11) (unhide HI11))
      have K11 := (Kept.refl (u17.ownBlock.toList) _).grown (unhide HG11) (by intro k hk; left; simp [hk])
      have HK11 := hide ((unhide HK10).grown (unhide HG11) (fun k hk => Or.inr (by have h9 := unhide HLT k (Or.inr (Or.inl hk)); have := unhide HS1; omega)))
      have HH11 := hide (K11.heap (unhide HH10) (by intro hm; have h9 := unhide HLT _ (Or.inr (Or.inl (by simpa using hm))); have := unhide HS1; omega))
      have HB11 := hide (K11.heap (unhide HB10) (by intro hm; have h9 := unhide HLT _ (Or.inr (Or.inl (by simpa using hm))); have := unhide HS4; omega))
      clear K11 HO11 HG11 HI11 HL10 HT10 HK10 HH10 HB10 HL9 HT9 HK9 HH9 HB9 KA HNB q0 q1 HPB HIB
      obtain ⟨q0, q1⟩ := bcells (unhide HB11)
      have hnw : IntKind.u64.wrap ((nxt : Int) + IntKind.u64.wrap (((m + 1 : Nat) : Int))) = ((nxt + (m + 1) : Nat) : Int) := by rw [IntKind.wrap_u64, IntKind.wrap_u64]; have := (unhide HN).1; omega
      go_wp2_with fail
      clear q0 q1
      go_roundw
      case rel =>
        refine ⟨i + 1, nxt + (m + 1), ts ++ [(nxt, .slice av (m + 1) cv, es)], BS ++ pp, X ++ [N], by simp, by omega, ?_, hide ⟨by have := (unhide HN).1; omega, by rw [List.length_append, (unhide HN).2]; rfl⟩, hide ?_, hide ⟨?_, unhide HBS7, unhide HBB⟩, hide ?_, hide (unhide HL11), HK11, HH11, gp7, cp7, by rw [unhide HBE]⟩
        · have h8 : IntKind.u64.wrap ((nxt : Int) + ((m : Int) + 1)) = ((nxt + (m + 1) : Nat) : Int) := by rw [IntKind.wrap_u64]; have := (unhide HN).1; omega
          rw [h8]
        · rw [unhide HDD, unhide HWS, Nat.mod_eq_of_lt (by have := (unhide HN).1; omega)]; simp
        · rw [(unhide HBS).1, List.map_append, runS_app, List.map_singleton, runS_one, ← unhide HPP]; simp
        · have h9 := atS_snoc 48 (ts.map fun t => (t.1, t.2.2)) (nxt, es)
          have h10 := unhide HBE
          rw [List.length_append, (unhide HBS).1, List.length_append, unhide HEL] at h10
          rw [unhide HX, List.map_append, List.map_singleton, h9, runS_app, List.length_append, runS_one, List.cons_append]
          simp only [unhide HPP]
          rw [← h10]
          congr 3
          omega
      case measure => simp [intOf]; omega
    · have hlt' : ¬ (i : Int) < (S.length : Int) := by omega
      have HDE := hide (by have h9 := unhide HDD; rw [List.drop_eq_nil_of_le (by rw [unhide HPS]; simp; omega)] at h9; simpa [wsL] using h9 : D = ts.map (fun t => (t.1, t.2.2)))
      have HPE := hide (by rw [unhide HDE]; exact (unhide HBS).1 : BS = E ++ runS D)
      have HXE := hide (by rw [unhide HDE]; exact unhide HX : X = 48 :: atS 48 D)
      have HPL := hide (by have := (unhide HBS).2.1; omega : BS.length ≤ 48 + 30018 * 1048576)
      have hP48 : 48 ≤ BS.length := by rw [unhide HPE, List.length_append, unhide HEL]; omega
      have HRB := hide (by rw [unhide HDE]; exact (unhide HL).rdB : RdB wr u17 D)
      have HRJ := hide ((unhide HL).rdJ (by rw [unhide HXE]; simp))
      have HRP := hide (rd_owns (unhide HL).byt (unhide HBS).2.2 (by have := unhide HPL; omega))
      have HSH := hide (fun (cut m : Nat) (h1 : cut < 48) => seg_headless (a := a) (b := b) (c := c) (cut := cut) (m := m) (R := runS D) ha (unhide HWD) h1)
      have HST := hide (fun (cut m k : Nat) (h1 : k ≤ (numS c (D.map (·.2))).length) (h2 : 48 + (runS ((numS c (D.map (·.2))).take k)).length ≤ cut) (h3 : k = (numS c (D.map (·.2))).length ∨ cut < 48 + (runS ((numS c (D.map (·.2))).take (k + 1))).length) => seg_torn (a := a) (b := b) (cut := cut) (m := m) ha hb (by omega : c < 18446744073709551616) (unhide HWD) (unhide HKS) (unhide HBN) h1 h2 h3)
      simp only [unhide HNU, unhide HE] at HSH HST
      simp only [← unhide HPE] at HSH HST
      have HXL := hide (by rw [unhide HXE, List.length_cons, atS_len] : X.length = D.length + 1)
      have HXK := hide (fun (k : Nat) (h1 : k ≤ D.length) => (by rw [unhide HXE]; exact atS_at k 48 D h1 : X[k]? = some (48 + (runS (D.take k)).length)))
      clear HDD HN hi hlt
      obtain ⟨Q, hQ⟩ : ∃ Q, BS.length + 1 = Q := ⟨_, rfl⟩
      have hw1 : IntKind.i64.wrap ((BS.length : Int) + 1) = (Q : Int) := by have := unhide HPL; simp [IntKind.wrap, IntKind.signed, IntKind.bits]; omega
      have hQ0 : ¬ (Q : Int) = 0 := by omega
      have HQ := hide hQ
      clear hQ
      obtain ⟨R, hR⟩ : ∃ R, at_ % Q = R := ⟨_, rfl⟩
      have hRi : (at_ : Int) % (Q : Int) = (R : Int) := by omega
      have HR := hide (by rw [← hR]; have := Nat.mod_lt at_ (show 0 < Q by omega); have := unhide HQ; omega : R ≤ BS.length)
      clear hR
      have haw : IntKind.i64.wrap (at_ : Int) = at_ := by simp [IntKind.wrap, IntKind.signed, IntKind.bits]; omega
      by_cases h4 : at_ % 4 = 0
      · have h4i : (at_ : Int) % 4 = 0 := by omega
        go_upto_region 23 with fail
        obtain ⟨av, hav⟩ : ∃ av, av = u17 := ⟨_, rfl⟩
        subst hav
        obtain ⟨tv, htv⟩ : ∃ tv, tv = u18 := ⟨_, rfl⟩
        subst htv
        obtain ⟨V, hVV⟩ : ∃ V, V = wr := ⟨_, rfl⟩
        subst hVV
        obtain ⟨aw, cw, rfl, hcw1, hcw2⟩ := (unhide HRB).shape
        obtain ⟨bt, ct, rfl, hct, hcj⟩ := id (unhide HRJ)
        have HCJ := hide hcj
        clear hcj
        obtain ⟨_, _, _, ep, _, hcp, ⟨hcm, _⟩, _⟩ := id (unhide HRP)
        cases ep
        have hcc : (BS.length : Int) ≤ (cp : Int) := by skip; omega
        have HR9 := hide (by have h9 := Rd.cutN (p := BS) (unhide HRP) 0 BS.length (by omega) (by skip; omega); simpa using h9 : Rd V (.slice (some ⟨gp, 0, none⟩) BS.length cp) (BS.take BS.length))
        have HTL := hide (by rw [List.length_take]; skip; omega : (BS.take BS.length).length = BS.length)
        go_wp2_with fail
        refine Calls.mono (ttwin_any _ (BS.take BS.length) V (unhide HR9) (by rw [unhide HTL]; have := unhide HPL; skip; omega)) ?_
        rintro e w3 ⟨a3, c3, rfl, o3, k3⟩
        rw [unhide HTL] at o3 ⊢
        have HO3 := hide o3
        have HK3 := hide k3
        clear o3 k3
        have hgw : IntKind.i64.wrap (ng : Int) = ng := by simp [IntKind.wrap, IntKind.signed, IntKind.bits]; omega
        go_wp2_with fail
        go_loopw [25, 26] (fun t25 t26 wq => ∃ (j L : Nat) (aq : Option Addr) (cq : Nat), t26 = .int .i64 (j : Int) ∧ j ≤ ng ∧ t25 = .slice aq L cq ∧ Hid (L = BS.length + j) ∧ Hid (wq.ownsRow V.heap.size 5 1 (.slice aq L cq) (BS.take BS.length ++ List.replicate j 0).length ((BS.take BS.length ++ List.replicate j 0).map Go.Proofs.YtckkalmhekfnhabGreatDoor.u8)) ∧ Hid (Kept [] V wq)) (fun _ t _ => ng - (intOf t).toNat)
        case atStart => exact ⟨0, BS.length, a3, c3, rfl, Nat.zero_le _, rfl, hide rfl, hide (by simp only [List.replicate_zero, List.append_nil, unhide HTL]; exact unhide HO3), HK3⟩
        case round =>
          obtain ⟨j, L, aq, cq, rfl, hj, rfl, HLq, HOq, HKq⟩ := hrel
          obtain ⟨Z, hZZ⟩ : ∃ Z, Z = wr := ⟨_, rfl⟩
          subst hZZ
          have HTj := hide (by rw [List.length_append, unhide HTL, List.length_replicate] : (BS.take BS.length ++ List.replicate j 0).length = BS.length + j)
          by_cases hjn : j < ng
          · have hji : (j : Int) < (ng : Int) := by omega
            have KA := hide ((Kept.refl [] Z).alloc (.cells #[.int .u8 0] 5))
            have HN4 := hide (rd_row [0] (heap_alloc_new Z (.cells #[.int .u8 0] 5)) rfl (by decide) 1 rfl (by omega))
            have HO4 := hide ((unhide KA).owns (unhide HOq) (by simp))
            have HK4 := hide ((unhide HKq).trans (unhide KA) (by simp))
            obtain ⟨Tj, hTj⟩ : ∃ Tj, BS.take BS.length ++ List.replicate j 0 = Tj := ⟨_, rfl⟩
            rw [hTj] at HO4 HTj
            have HTE := hide hTj
            clear hTj
            go_upto_region 26 with (at_builtin; refine wpList_appendAll rfl (.tmp 115) (.tmp 116) rfl rfl _ V.heap.size (.slice aq L cq) Tj [0] (some ⟨Z.heap.size, 0, none⟩) 1 1 (unhide HO4) (unhide HN4) (by rw [unhide HTj]; have := unhide HPL; skip; simp; omega) (unhide HK4).size rfl rfl ?_; intro a5 c5 w5 HO5 HG5 HA5)
            have HK5 := hide ((unhide HK4).grown (unhide HG5) (fun k hk => Or.inr ((unhide HO4).lt k hk).1))
            have HO6 := hide (by have h9 := unhide HO5; rw [← unhide HTE, List.append_assoc, ← List.replicate_succ', unhide HTE] at h9; exact h9 : w5.ownsRow V.heap.size 5 1 (.slice a5 (Tj.length + 1) c5) (BS.take BS.length ++ List.replicate (j + 1) 0).length ((BS.take BS.length ++ List.replicate (j + 1) 0).map Go.Proofs.YtckkalmhekfnhabGreatDoor.u8))
            clear HO5 HG5 HA5 HO4 HN4 KA
            go_wp2
            go_roundw
            case rel => exact ⟨j + 1, Tj.length + 1, a5, c5, by simp, by omega, rfl, hide (by rw [unhide HTj]; omega), HO6, HK5⟩
            case measure => simp [intOf]; omega
          · have hji : ¬ (j : Int) < (ng : Int) := by omega
            obtain rfl : j = ng := by omega
            have HTB := hide (fun x hx => by
              rcases List.mem_append.1 hx with hx | hx
              · exact (unhide HBS).2.2 x (List.mem_of_mem_take hx)
              · have := (List.mem_replicate.1 hx).2; omega : ∀ x ∈ BS.take BS.length ++ List.replicate j 0, x < 256)
            have HSH2 := hide (fun h1 => unhide HSH BS.length j h1)
            have HST2 := hide (fun k h1 h2 h3 => unhide HST BS.length j k h1 h2 h3)
            obtain ⟨T, hT⟩ : ∃ T, BS.take BS.length ++ List.replicate j 0 = T := ⟨_, rfl⟩
            rw [hT] at HOq HTj HTB
            simp only [hT] at HSH2 HST2
            clear hT HSH HST
            have HRT := hide (rd_owns (by have h9 := unhide HOq; exact h9) (unhide HTB) (by rw [unhide HTj]; have := unhide HPL; skip; omega))
            have HRD := hide (read_any _ T Z (unhide HRT) (by rw [unhide HTj]; have := unhide HPL; skip; omega))
            obtain ⟨hT, hhT⟩ : ∃ h, hdC T = h := ⟨_, rfl⟩
            obtain ⟨UT, hUT⟩ : ∃ h, sgU T = h := ⟨_, rfl⟩
            obtain ⟨ET, hET⟩ : ∃ h, sgE T = h := ⟨_, rfl⟩
            obtain ⟨BT, hBT⟩ : ∃ h, sgB T = h := ⟨_, rfl⟩
            rw [hhT, hUT, hET, hBT] at HRD
            simp only [hhT, hUT, hET, hBT] at HSH2 HST2
            clear hhT hUT hET hBT HRT HOq HTB
            go_wp2_with fail
            refine Calls.mono (unhide HRD) ?_
            rintro e w5 ⟨bw, rfl, r5, k5, _⟩
            obtain ⟨aS, cS, rfl, _, _⟩ := r5.shape
            have KA := (Kept.refl [] w5).alloc (.cells #[.int .u64 (hT.a : Int), .int .u64 (hT.b : Int), .int .u64 (hT.c : Int), .int .i64 (hT.d : Int), .slice aS BT.length cS, .int .i64 (UT : Int)] 40)
            have HS6 := hide (heap_alloc_new w5 (.cells #[.int .u64 (hT.a : Int), .int .u64 (hT.b : Int), .int .u64 (hT.c : Int), .int .i64 (hT.d : Int), .slice aS BT.length cS, .int .i64 (UT : Int)] 40))
            have HR6 := hide (r5.old KA)
            have KV := ((unhide HKq).trans k5 (by simp)).trans KA (by simp)
            have HB6 := hide ((unhide HRB).old KV)
            have HJ6 := hide (fun (q : Nat) (hq : q < X.length) => KV.cell (unhide HCJ q hq) (by simp))
            have HH6 := hide (KV.heap (unhide HH) (by simp))
            have HK6 := hide ((unhide HK).trans KV (by simp))
            clear k5 r5 KA KV HRD HKq
            by_cases hc48 : BS.length < 48
            · exact absurd hc48 (by omega)
            · have hcl : ¬ (BS.length : Int) < 48 := by omega
              go_wp2_with fail
              obtain ⟨W6, hW6⟩ : ∃ W, w5.alloc (.cells #[.int .u64 (hT.a : Int), .int .u64 (hT.b : Int), .int .u64 (hT.c : Int), .int .i64 (hT.d : Int), .slice aS BT.length cS, .int .i64 (UT : Int)] 40) = W := ⟨_, rfl⟩
              rw [hW6] at HS6 HR6 HB6 HJ6 HH6 HK6 ⊢
              clear hW6
              go_loopw [29] (fun t29 wq => ∃ k : Nat, t29 = .int .i64 (k : Int) ∧ k ≤ D.length ∧ Hid (48 + (runS (D.take k)).length ≤ BS.length) ∧ wq = W6) (fun t _ => D.length - (intOf t).toNat)
              case atStart => exact ⟨0, rfl, Nat.zero_le _, hide (by simp [runS]; omega), rfl⟩
              case round =>
                obtain ⟨k, rfl, hk, HC, hwq⟩ := hrel
                subst hwq
                obtain ⟨W6, hW66⟩ : ∃ W6, W6 = wr := ⟨_, rfl⟩
                subst hW66
                by_cases hkD : k < D.length
                · have hk1X : k + 1 < X.length := by rw [unhide HXL]; omega
                  obtain ⟨Vv, hV⟩ : ∃ Vv, 48 + (runS (D.take (k + 1))).length = Vv := ⟨_, rfl⟩
                  have hXV : X[k + 1] = Vv := by have h9 := unhide HXK (k + 1) (by omega); rw [hV, List.getElem?_eq_getElem hk1X] at h9; exact Option.some.inj h9
                  have j1 := unhide HJ6 (k + 1) hk1X
                  rw [hXV] at j1
                  have HVV := hide hV
                  clear hXV hV
                  have hks : (k : Int) + 1 < (X.length : Int) := by omega
                  by_cases hvc : Vv ≤ BS.length
                  · have hvi : (Vv : Int) ≤ (BS.length : Int) := by omega
                    go_wp2
                    go_roundw
                    case rel => exact ⟨k + 1, by simp, by omega, hide (by rw [unhide HVV]; exact hvc), trivial⟩
                    case measure => simp [intOf]; omega
                  · have hvi : ¬ (Vv : Int) ≤ (BS.length : Int) := by omega
                    have HTK := hide (by rw [List.length_take]; omega : (D.take k).length = k)
                    obtain ⟨t1, t2, t3, t4⟩ := unhide HST2 k hk (unhide HC) (Or.inr (by rw [unhide HVV]; omega))
                    have HS8 := hide (unhide HS6)
                    rw [t1, t3, t4, unhide HTK] at HS8
                    simp only [Int.toNat_natCast] at HS8
                    have HR8 := hide (unhide HR6)
                    rw [t3, unhide HTK] at HR8
                    have hE0 : ((ET : Int) != 0) = false := by rw [t2]; rfl
                    clear t1 t2 t3 t4
                    obtain ⟨U, hU⟩ : ∃ U, 48 + (runS (D.take k)).length = U := ⟨_, rfl⟩
                    have hXk : k < X.length := by rw [unhide HXL]; omega
                    have HUk := hide (by have h9 := unhide HXK k hk; rw [List.getElem?_eq_getElem hXk, hU] at h9; have h8 := unhide HJ6 k hXk; rw [Option.some.inj h9] at h8; exact h8 : W6.cell? ⟨bt, k, none⟩ = some (.int .i64 (U : Int)))
                    rw [hU] at HS8
                    clear hU
                    have hkX : (k : Int) < (X.length : Int) := by omega
                    go_upto_region 34 with fail
                    have hnp : ∀ p : Prop, (∀ w', Kept [] W6 w' → p) = p := fun p => propext ⟨fun h => h W6 (Kept.refl [] W6), fun h _ _ => h⟩
                    have HQ0 := hide (scells (unhide HS8))
                    have HR1 := hide (range4 ⟨(unhide HQ0).1, (unhide HQ0).2.1, (unhide HQ0).2.2.1, (unhide HQ0).2.2.2.1⟩)
                    have HR2 := hide (range4 (hcells (unhide HH6)))
                    refine wp_region_keep (by kernel_rfl) (by kernel_rfl) ?_
                    iterate 4 (go_big_quiet_step (fail))
                    refine wpQuiet_mid rfl 33 _ rfl w5.heap.size 0 rfl [.int .u64 (a : Int), .int .u64 (b : Int), .int .u64 (c : Int), .int .i64 (z : Int)] _ (fun w' hw' => rangeE_kept (unhide HR1) hw' (by simp)) Tryz.underlying33 rfl Tryz.size_head ?_
                    simp only [Act.put, List.setIfInBounds_toArray, List.set_cons_succ, List.set_cons_zero]
                    refine wpQuiet_mid rfl 33 _ rfl w.heap.size 0 rfl [.int .u64 (a : Int), .int .u64 (b : Int), .int .u64 (c : Int), .int .i64 (z : Int)] _ (fun w' hw' => rangeE_kept (unhide HR2) hw' (by simp)) Tryz.underlying33 rfl Tryz.size_head ?_
                    simp only [Act.put, List.setIfInBounds_toArray, List.set_cons_succ, List.set_cons_zero]
                    refine wpQuiet_val rfl (.bool false) (fun w' _ => by go_simp) ?_
                    simp only [Act.put, List.setIfInBounds_toArray, List.set_cons_succ, List.set_cons_zero]
                    iterate 3 (go_big_quiet_step (fail))
                    refine wpQuiet_val rfl (.slice aS k cS) (fun w' hw' => run_loadS 38 _ rfl ⟨w5.heap.size, 4, none⟩ rfl w' _ _ Tryz.underlying38 (hw'.cell (unhide HQ0).2.2.2.2.1 (by simp))) ?_
                    simp only [Act.put, List.setIfInBounds_toArray, List.set_cons_succ, List.set_cons_zero]
                    iterate 6 (go_big_quiet_step (fail))
                    refine wpQuiet_val rfl (.int .i64 (U : Int)) (fun w' hw' => run_load1 3 _ rfl ⟨w5.heap.size, 5, none⟩ rfl w' _ .i64 (by kernel_rfl) (hw'.cell (unhide HQ0).2.2.2.2.2 (by simp))) ?_
                    simp only [Act.put, List.setIfInBounds_toArray, List.set_cons_succ, List.set_cons_zero]
                    iterate 3 (go_big_quiet_step (fail))
                    refine wpQuiet_val rfl (.int .i64 (U : Int)) (fun w' hw' => run_load1 3 _ rfl ⟨bt, k, none⟩ (by simp [go_sem]) w' _ .i64 (by kernel_rfl) (hw'.cell (unhide HUk) (by simp))) ?_
                    simp only [Act.put, List.setIfInBounds_toArray, List.set_cons_succ, List.set_cons_zero]
                    repeat (go_big_quiet_step (fail))
                    refine wpQuiet_nil ?_
                    intro w6 hw6
                    have HKr0 := hide hw6
                    clear hw6 hnp HR1 HR2
                    go_wp2_with fail
                    go_loopw [30] (fun t30 wq => ∃ i : Nat, t30 = .int .i64 (i : Int) ∧ i ≤ k ∧ Hid (Kept [] W6 wq)) (fun t _ => k - (intOf t).toNat)
                    case atStart => exact ⟨0, rfl, Nat.zero_le _, HKr0⟩
                    case round =>
                      obtain ⟨i, rfl, hi, HKr⟩ := hrel
                      have HK8 := hide ((unhide HK6).trans (unhide HKr) (by simp))
                      by_cases hik : i < k
                      · have hlt : (i : Int) < (k : Int) := by omega
                        obtain ⟨b1, o1, y1, h1, p0, p1, hy1⟩ := ((unhide HR8).old (unhide HKr)).at i (by rw [unhide HTK]; exact hik)
                        obtain ⟨b2, o2, y2, h2, q0, q1, hy2⟩ := ((unhide HB6).old (unhide HKr)).at i (by omega)
                        subst h1
                        subst h2
                        have hel : (D.take k)[i]'(by rw [unhide HTK]; exact hik) = D[i]'(by omega) := by simp
                        rw [hel] at p0 hy1
                        clear hel
                        generalize D[i] = t at p0 hy1 q0 hy2
                        obtain ⟨e1, n1, c1, _, _, hv1, _⟩ := id hy1
                        subst hv1
                        obtain ⟨e2, n2, c2, _, _, hv2, _⟩ := id hy2
                        subst hv2
                        have HG1 := hide (range2 p0 p1)
                        have HG2 := hide (range2 q0 q1)
                        have HY := hide (fun w' (kk : Kept [] wr w') => (tsameBatch_any t.1 _ _ t.2 w' (hy1.old kk) (hy2.old kk)).mono (fun e w2 (h2 : _ ∧ _) => (⟨h2.1, kk.trans h2.2 (by simp)⟩ : _ ∧ Kept [] wr w2)))
                        have HSr := hide ((unhide HKr).cell (unhide HQ0).2.2.2.2.1 (by simp))
                        clear p0 p1 q0 q1 hy1 hy2
                        have hiD : (i : Int) < (D.length : Int) := by omega
                        go_upto_region 39 with fail
                        have hnp : ∀ p : Prop, (∀ w', Kept [] wr w' → p) = p := fun p => propext ⟨fun h => h wr (Kept.refl [] wr), fun h _ _ => h⟩
                        refine wp_region_keep (by kernel_rfl) (by kernel_rfl) ?_
                        iterate 1 (go_big_quiet_step (fail))
                        refine wpQuiet_val rfl (.slice (some ⟨b1, o1, none⟩) k cS) (fun w' hw' => run_loadS 38 _ rfl ⟨w5.heap.size, 4, none⟩ rfl w' _ _ Tryz.underlying38 (hw'.cell (unhide HSr) (by simp))) ?_
                        simp only [Act.put, List.setIfInBounds_toArray, List.set_cons_succ, List.set_cons_zero]
                        iterate 2 (go_big_quiet_step (fail))
                        refine wpQuiet_mid rfl 37 _ rfl b1 (o1 + i * 2) rfl [.int .u64 (t.1 : Int), .slice e1 n1 c1] _ (fun w' hw' => rangeE_kept (unhide HG1) hw' (by simp)) Tryz.underlying37 rfl Tryz.size_batch9 ?_
                        simp only [Act.put, List.setIfInBounds_toArray, List.set_cons_succ, List.set_cons_zero]
                        iterate 3 (go_big_quiet_step (fail))
                        refine wpQuiet_mid rfl 37 _ rfl b2 (o2 + i * 2) rfl [.int .u64 (t.1 : Int), .slice e2 n2 c2] _ (fun w' hw' => rangeE_kept (unhide HG2) hw' (by simp)) Tryz.underlying37 rfl Tryz.size_batch9 ?_
                        simp only [Act.put, List.setIfInBounds_toArray, List.set_cons_succ, List.set_cons_zero]
                        go_big_quiet_want
                        go_big_quiet_op
                        apply Exists.intro
                        refine ⟨fun w' hw' => ?_, ?_⟩
                        · exact unhide HY w' hw'
                        go_big_quiet_on
                        repeat (go_big_quiet_step (fail))
                        refine wpQuiet_nil ?_
                        intro w7 hw7
                        have HK7 := hide ((unhide HKr).trans hw7 (by simp))
                        clear hw7 hnp
                        go_wp2
                        go_roundw
                        case rel => exact ⟨i + 1, by simp, by omega, HK7⟩
                        case measure => simp [intOf]; omega
                      · have hlt : ¬ (i : Int) < (k : Int) := by omega
                        go_wp2_with fail
                        rcases Nat.lt_trichotomy a b with hab | hab | hab
                        · have hlt2 : (a : Int) < b := by omega
                          have hne : ((a : Int) == b) = false := by rw [beq_eq_false_iff_ne]; omega
                          have hbl : Op.bytesLess (strB (nmL a)).toList (strB (nmL b)).toList = true := less_of_lt (nmL_byte a) (nmL_byte b) (nmL_lt hab hb)
                          clear hab
                          refine Calls.mono (name_any a _ ha ((unhide HV).old (unhide HK8))) ?_
                          rintro e w8 ⟨rfl, k8⟩
                          have HK9 := hide ((unhide HK8).trans k8 (by simp))
                          clear k8
                          go_wp2_with fail
                          refine Calls.mono (number_yes a _ ha ((unhide HV).old (unhide HK9))) ?_
                          rintro e w9 ⟨rfl, k9⟩
                          have HKa := hide ((unhide HK9).trans k9 (by simp))
                          clear k9
                          go_wp2_with fail
                          refine Calls.mono (name_any a _ ha ((unhide HV).old (unhide HKa))) ?_
                          rintro e wa ⟨rfl, ka⟩
                          have HKb := hide ((unhide HKa).trans ka (by simp))
                          clear ka
                          go_wp2_with fail
                          refine Calls.mono (name_any b _ hb ((unhide HV).old (unhide HKb))) ?_
                          rintro e wb ⟨rfl, kb⟩
                          have HKc := hide ((unhide HKb).trans kb (by simp))
                          clear kb
                          generalize strB (nmL a) = XA at hbl ⊢
                          generalize strB (nmL b) = XB at hbl ⊢
                          go_wp2
                          go_ret
                          exact ⟨rfl, (unhide HKc).below (Nat.le_refl _) (by simp)⟩
                        · subst hab
                          refine Calls.mono (name_any a _ ha ((unhide HV).old (unhide HK8))) ?_
                          rintro e w8 ⟨rfl, k8⟩
                          have HK9 := hide ((unhide HK8).trans k8 (by simp))
                          clear k8
                          go_wp2_with fail
                          refine Calls.mono (number_yes a _ ha ((unhide HV).old (unhide HK9))) ?_
                          rintro e w9 ⟨rfl, k9⟩
                          have HKa := hide ((unhide HK9).trans k9 (by simp))
                          clear k9
                          go_wp2
                          go_ret
                          exact ⟨rfl, (unhide HKa).below (Nat.le_refl _) (by simp)⟩
                        · have hlt2 : ¬ (a : Int) < b := by omega
                          have hltd : decide (a < b) = false := by rw [decide_eq_false_iff_not]; omega
                          have hltn : ¬ a < b := by omega
                          have hne : ((a : Int) == b) = false := by rw [beq_eq_false_iff_ne]; omega
                          have hbl : Op.bytesLess (strB (nmL a)).toList (strB (nmL b)).toList = false := less_asym _ _ (less_of_lt (nmL_byte b) (nmL_byte a) (nmL_lt hab ha))
                          clear hab
                          refine Calls.mono (name_any a _ ha ((unhide HV).old (unhide HK8))) ?_
                          rintro e w8 ⟨rfl, k8⟩
                          have HK9 := hide ((unhide HK8).trans k8 (by simp))
                          clear k8
                          go_wp2_with fail
                          refine Calls.mono (number_yes a _ ha ((unhide HV).old (unhide HK9))) ?_
                          rintro e w9 ⟨rfl, k9⟩
                          have HKa := hide ((unhide HK9).trans k9 (by simp))
                          clear k9
                          go_wp2_with fail
                          refine Calls.mono (name_any a _ ha ((unhide HV).old (unhide HKa))) ?_
                          rintro e wa ⟨rfl, ka⟩
                          have HKb := hide ((unhide HKa).trans ka (by simp))
                          clear ka
                          go_wp2_with fail
                          refine Calls.mono (name_any b _ hb ((unhide HV).old (unhide HKb))) ?_
                          rintro e wb ⟨rfl, kb⟩
                          have HKc := hide ((unhide HKb).trans kb (by simp))
                          clear kb
                          generalize strB (nmL a) = XA at hbl ⊢
                          generalize strB (nmL b) = XB at hbl ⊢
                          go_wp2
                          go_ret
                          exact ⟨rfl, (unhide HKc).below (Nat.le_refl _) (by simp)⟩

                · have hks : ¬ (k : Int) + 1 < (X.length : Int) := by have := unhide HXL; omega
                  have hksd : decide ((k : Int) + 1 < (X.length : Int)) = false := by rw [decide_eq_false_iff_not]; exact hks
                  have hksn : decide (k + 1 < X.length) = false := by rw [decide_eq_false_iff_not]; omega
                  have hksm : ¬ k + 1 < X.length := by omega
                  have hkw : IntKind.i64.wrap ((k : Int) + 1) = (k : Int) + 1 := by have := unhide HDL; simp [IntKind.wrap, IntKind.signed, IntKind.bits]; omega
                  have HTK := hide (by rw [List.length_take]; omega : (D.take k).length = k)
                  obtain ⟨t1, t2, t3, t4⟩ := unhide HST2 k hk (unhide HC) (Or.inl (by omega))
                  have HS8 := hide (unhide HS6)
                  rw [t1, t3, t4, unhide HTK] at HS8
                  simp only [Int.toNat_natCast] at HS8
                  have HR8 := hide (unhide HR6)
                  rw [t3, unhide HTK] at HR8
                  have hE0 : ((ET : Int) != 0) = false := by rw [t2]; rfl
                  clear t1 t2 t3 t4
                  obtain ⟨U, hU⟩ : ∃ U, 48 + (runS (D.take k)).length = U := ⟨_, rfl⟩
                  have hXk : k < X.length := by rw [unhide HXL]; omega
                  have HUk := hide (by have h9 := unhide HXK k hk; rw [List.getElem?_eq_getElem hXk, hU] at h9; have h8 := unhide HJ6 k hXk; rw [Option.some.inj h9] at h8; exact h8 : W6.cell? ⟨bt, k, none⟩ = some (.int .i64 (U : Int)))
                  rw [hU] at HS8
                  clear hU
                  have hkX : (k : Int) < (X.length : Int) := by omega
                  go_upto_region 34 with fail
                  have hnp : ∀ p : Prop, (∀ w', Kept [] W6 w' → p) = p := fun p => propext ⟨fun h => h W6 (Kept.refl [] W6), fun h _ _ => h⟩
                  have HQ0 := hide (scells (unhide HS8))
                  have HR1 := hide (range4 ⟨(unhide HQ0).1, (unhide HQ0).2.1, (unhide HQ0).2.2.1, (unhide HQ0).2.2.2.1⟩)
                  have HR2 := hide (range4 (hcells (unhide HH6)))
                  refine wp_region_keep (by kernel_rfl) (by kernel_rfl) ?_
                  iterate 4 (go_big_quiet_step (fail))
                  refine wpQuiet_mid rfl 33 _ rfl w5.heap.size 0 rfl [.int .u64 (a : Int), .int .u64 (b : Int), .int .u64 (c : Int), .int .i64 (z : Int)] _ (fun w' hw' => rangeE_kept (unhide HR1) hw' (by simp)) Tryz.underlying33 rfl Tryz.size_head ?_
                  simp only [Act.put, List.setIfInBounds_toArray, List.set_cons_succ, List.set_cons_zero]
                  refine wpQuiet_mid rfl 33 _ rfl w.heap.size 0 rfl [.int .u64 (a : Int), .int .u64 (b : Int), .int .u64 (c : Int), .int .i64 (z : Int)] _ (fun w' hw' => rangeE_kept (unhide HR2) hw' (by simp)) Tryz.underlying33 rfl Tryz.size_head ?_
                  simp only [Act.put, List.setIfInBounds_toArray, List.set_cons_succ, List.set_cons_zero]
                  refine wpQuiet_val rfl (.bool false) (fun w' _ => by go_simp) ?_
                  simp only [Act.put, List.setIfInBounds_toArray, List.set_cons_succ, List.set_cons_zero]
                  iterate 3 (go_big_quiet_step (fail))
                  refine wpQuiet_val rfl (.slice aS k cS) (fun w' hw' => run_loadS 38 _ rfl ⟨w5.heap.size, 4, none⟩ rfl w' _ _ Tryz.underlying38 (hw'.cell (unhide HQ0).2.2.2.2.1 (by simp))) ?_
                  simp only [Act.put, List.setIfInBounds_toArray, List.set_cons_succ, List.set_cons_zero]
                  iterate 6 (go_big_quiet_step (fail))
                  refine wpQuiet_val rfl (.int .i64 (U : Int)) (fun w' hw' => run_load1 3 _ rfl ⟨w5.heap.size, 5, none⟩ rfl w' _ .i64 (by kernel_rfl) (hw'.cell (unhide HQ0).2.2.2.2.2 (by simp))) ?_
                  simp only [Act.put, List.setIfInBounds_toArray, List.set_cons_succ, List.set_cons_zero]
                  iterate 3 (go_big_quiet_step (fail))
                  refine wpQuiet_val rfl (.int .i64 (U : Int)) (fun w' hw' => run_load1 3 _ rfl ⟨bt, k, none⟩ (by simp [go_sem]) w' _ .i64 (by kernel_rfl) (hw'.cell (unhide HUk) (by simp))) ?_
                  simp only [Act.put, List.setIfInBounds_toArray, List.set_cons_succ, List.set_cons_zero]
                  repeat (go_big_quiet_step (fail))
                  refine wpQuiet_nil ?_
                  intro w6 hw6
                  have HKr0 := hide hw6
                  clear hw6 hnp HR1 HR2
                  go_wp2_with fail
                  go_loopw [30] (fun t30 wq => ∃ i : Nat, t30 = .int .i64 (i : Int) ∧ i ≤ k ∧ Hid (Kept [] W6 wq)) (fun t _ => k - (intOf t).toNat)
                  case atStart => exact ⟨0, rfl, Nat.zero_le _, HKr0⟩
                  case round =>
                    obtain ⟨i, rfl, hi, HKr⟩ := hrel
                    have HK8 := hide ((unhide HK6).trans (unhide HKr) (by simp))
                    by_cases hik : i < k
                    · have hlt : (i : Int) < (k : Int) := by omega
                      obtain ⟨b1, o1, y1, h1, p0, p1, hy1⟩ := ((unhide HR8).old (unhide HKr)).at i (by rw [unhide HTK]; exact hik)
                      obtain ⟨b2, o2, y2, h2, q0, q1, hy2⟩ := ((unhide HB6).old (unhide HKr)).at i (by omega)
                      subst h1
                      subst h2
                      have hel : (D.take k)[i]'(by rw [unhide HTK]; exact hik) = D[i]'(by omega) := by simp
                      rw [hel] at p0 hy1
                      clear hel
                      generalize D[i] = t at p0 hy1 q0 hy2
                      obtain ⟨e1, n1, c1, _, _, hv1, _⟩ := id hy1
                      subst hv1
                      obtain ⟨e2, n2, c2, _, _, hv2, _⟩ := id hy2
                      subst hv2
                      have HG1 := hide (range2 p0 p1)
                      have HG2 := hide (range2 q0 q1)
                      have HY := hide (fun w' (kk : Kept [] wr w') => (tsameBatch_any t.1 _ _ t.2 w' (hy1.old kk) (hy2.old kk)).mono (fun e w2 (h2 : _ ∧ _) => (⟨h2.1, kk.trans h2.2 (by simp)⟩ : _ ∧ Kept [] wr w2)))
                      have HSr := hide ((unhide HKr).cell (unhide HQ0).2.2.2.2.1 (by simp))
                      clear p0 p1 q0 q1 hy1 hy2
                      have hiD : (i : Int) < (D.length : Int) := by omega
                      go_upto_region 39 with fail
                      have hnp : ∀ p : Prop, (∀ w', Kept [] wr w' → p) = p := fun p => propext ⟨fun h => h wr (Kept.refl [] wr), fun h _ _ => h⟩
                      refine wp_region_keep (by kernel_rfl) (by kernel_rfl) ?_
                      iterate 1 (go_big_quiet_step (fail))
                      refine wpQuiet_val rfl (.slice (some ⟨b1, o1, none⟩) k cS) (fun w' hw' => run_loadS 38 _ rfl ⟨w5.heap.size, 4, none⟩ rfl w' _ _ Tryz.underlying38 (hw'.cell (unhide HSr) (by simp))) ?_
                      simp only [Act.put, List.setIfInBounds_toArray, List.set_cons_succ, List.set_cons_zero]
                      iterate 2 (go_big_quiet_step (fail))
                      refine wpQuiet_mid rfl 37 _ rfl b1 (o1 + i * 2) rfl [.int .u64 (t.1 : Int), .slice e1 n1 c1] _ (fun w' hw' => rangeE_kept (unhide HG1) hw' (by simp)) Tryz.underlying37 rfl Tryz.size_batch9 ?_
                      simp only [Act.put, List.setIfInBounds_toArray, List.set_cons_succ, List.set_cons_zero]
                      iterate 3 (go_big_quiet_step (fail))
                      refine wpQuiet_mid rfl 37 _ rfl b2 (o2 + i * 2) rfl [.int .u64 (t.1 : Int), .slice e2 n2 c2] _ (fun w' hw' => rangeE_kept (unhide HG2) hw' (by simp)) Tryz.underlying37 rfl Tryz.size_batch9 ?_
                      simp only [Act.put, List.setIfInBounds_toArray, List.set_cons_succ, List.set_cons_zero]
                      go_big_quiet_want
                      go_big_quiet_op
                      apply Exists.intro
                      refine ⟨fun w' hw' => ?_, ?_⟩
                      · exact unhide HY w' hw'
                      go_big_quiet_on
                      repeat (go_big_quiet_step (fail))
                      refine wpQuiet_nil ?_
                      intro w7 hw7
                      have HK7 := hide ((unhide HKr).trans hw7 (by simp))
                      clear hw7 hnp
                      go_wp2
                      go_roundw
                      case rel => exact ⟨i + 1, by simp, by omega, HK7⟩
                      case measure => simp [intOf]; omega
                    · have hlt : ¬ (i : Int) < (k : Int) := by omega
                      go_wp2_with fail
                      rcases Nat.lt_trichotomy a b with hab | hab | hab
                      · have hlt2 : (a : Int) < b := by omega
                        have hne : ((a : Int) == b) = false := by rw [beq_eq_false_iff_ne]; omega
                        have hbl : Op.bytesLess (strB (nmL a)).toList (strB (nmL b)).toList = true := less_of_lt (nmL_byte a) (nmL_byte b) (nmL_lt hab hb)
                        clear hab
                        refine Calls.mono (name_any a _ ha ((unhide HV).old (unhide HK8))) ?_
                        rintro e w8 ⟨rfl, k8⟩
                        have HK9 := hide ((unhide HK8).trans k8 (by simp))
                        clear k8
                        go_wp2_with fail
                        refine Calls.mono (number_yes a _ ha ((unhide HV).old (unhide HK9))) ?_
                        rintro e w9 ⟨rfl, k9⟩
                        have HKa := hide ((unhide HK9).trans k9 (by simp))
                        clear k9
                        go_wp2_with fail
                        refine Calls.mono (name_any a _ ha ((unhide HV).old (unhide HKa))) ?_
                        rintro e wa ⟨rfl, ka⟩
                        have HKb := hide ((unhide HKa).trans ka (by simp))
                        clear ka
                        go_wp2_with fail
                        refine Calls.mono (name_any b _ hb ((unhide HV).old (unhide HKb))) ?_
                        rintro e wb ⟨rfl, kb⟩
                        have HKc := hide ((unhide HKb).trans kb (by simp))
                        clear kb
                        generalize strB (nmL a) = XA at hbl ⊢
                        generalize strB (nmL b) = XB at hbl ⊢
                        go_wp2
                        go_ret
                        exact ⟨rfl, (unhide HKc).below (Nat.le_refl _) (by simp)⟩
                      · subst hab
                        refine Calls.mono (name_any a _ ha ((unhide HV).old (unhide HK8))) ?_
                        rintro e w8 ⟨rfl, k8⟩
                        have HK9 := hide ((unhide HK8).trans k8 (by simp))
                        clear k8
                        go_wp2_with fail
                        refine Calls.mono (number_yes a _ ha ((unhide HV).old (unhide HK9))) ?_
                        rintro e w9 ⟨rfl, k9⟩
                        have HKa := hide ((unhide HK9).trans k9 (by simp))
                        clear k9
                        go_wp2
                        go_ret
                        exact ⟨rfl, (unhide HKa).below (Nat.le_refl _) (by simp)⟩
                      · have hlt2 : ¬ (a : Int) < b := by omega
                        have hltd : decide (a < b) = false := by rw [decide_eq_false_iff_not]; omega
                        have hltn : ¬ a < b := by omega
                        have hne : ((a : Int) == b) = false := by rw [beq_eq_false_iff_ne]; omega
                        have hbl : Op.bytesLess (strB (nmL a)).toList (strB (nmL b)).toList = false := less_asym _ _ (less_of_lt (nmL_byte b) (nmL_byte a) (nmL_lt hab ha))
                        clear hab
                        refine Calls.mono (name_any a _ ha ((unhide HV).old (unhide HK8))) ?_
                        rintro e w8 ⟨rfl, k8⟩
                        have HK9 := hide ((unhide HK8).trans k8 (by simp))
                        clear k8
                        go_wp2_with fail
                        refine Calls.mono (number_yes a _ ha ((unhide HV).old (unhide HK9))) ?_
                        rintro e w9 ⟨rfl, k9⟩
                        have HKa := hide ((unhide HK9).trans k9 (by simp))
                        clear k9
                        go_wp2_with fail
                        refine Calls.mono (name_any a _ ha ((unhide HV).old (unhide HKa))) ?_
                        rintro e wa ⟨rfl, ka⟩
                        have HKb := hide ((unhide HKa).trans ka (by simp))
                        clear ka
                        go_wp2_with fail
                        refine Calls.mono (name_any b _ hb ((unhide HV).old (unhide HKb))) ?_
                        rintro e wb ⟨rfl, kb⟩
                        have HKc := hide ((unhide HKb).trans kb (by simp))
                        clear kb
                        generalize strB (nmL a) = XA at hbl ⊢
                        generalize strB (nmL b) = XB at hbl ⊢
                        go_wp2
                        go_ret
                        exact ⟨rfl, (unhide HKc).below (Nat.le_refl _) (by simp)⟩

      · have h4i : ¬ (at_ : Int) % 4 = 0 := by omega
        go_upto_region 23 with fail
        obtain ⟨av, hav⟩ : ∃ av, av = u17 := ⟨_, rfl⟩
        subst hav
        obtain ⟨tv, htv⟩ : ∃ tv, tv = u18 := ⟨_, rfl⟩
        subst htv
        obtain ⟨V, hVV⟩ : ∃ V, V = wr := ⟨_, rfl⟩
        subst hVV
        obtain ⟨aw, cw, rfl, hcw1, hcw2⟩ := (unhide HRB).shape
        obtain ⟨bt, ct, rfl, hct, hcj⟩ := id (unhide HRJ)
        have HCJ := hide hcj
        clear hcj
        obtain ⟨_, _, _, ep, _, hcp, ⟨hcm, _⟩, _⟩ := id (unhide HRP)
        cases ep
        have hcc : (R : Int) ≤ (cp : Int) := by have := unhide HR; omega
        have HR9 := hide (by have h9 := Rd.cutN (p := BS) (unhide HRP) 0 R (by omega) (by have := unhide HR; omega); simpa using h9 : Rd V (.slice (some ⟨gp, 0, none⟩) R cp) (BS.take R))
        have HTL := hide (by rw [List.length_take]; have := unhide HR; omega : (BS.take R).length = R)
        go_wp2_with fail
        refine Calls.mono (ttwin_any _ (BS.take R) V (unhide HR9) (by rw [unhide HTL]; have := unhide HPL; have := unhide HR; omega)) ?_
        rintro e w3 ⟨a3, c3, rfl, o3, k3⟩
        rw [unhide HTL] at o3 ⊢
        have HO3 := hide o3
        have HK3 := hide k3
        clear o3 k3
        have hgw : IntKind.i64.wrap (ng : Int) = ng := by simp [IntKind.wrap, IntKind.signed, IntKind.bits]; omega
        go_wp2_with fail
        go_loopw [25, 26] (fun t25 t26 wq => ∃ (j L : Nat) (aq : Option Addr) (cq : Nat), t26 = .int .i64 (j : Int) ∧ j ≤ ng ∧ t25 = .slice aq L cq ∧ Hid (L = R + j) ∧ Hid (wq.ownsRow V.heap.size 5 1 (.slice aq L cq) (BS.take R ++ List.replicate j 0).length ((BS.take R ++ List.replicate j 0).map Go.Proofs.YtckkalmhekfnhabGreatDoor.u8)) ∧ Hid (Kept [] V wq)) (fun _ t _ => ng - (intOf t).toNat)
        case atStart => exact ⟨0, R, a3, c3, rfl, Nat.zero_le _, rfl, hide rfl, hide (by simp only [List.replicate_zero, List.append_nil, unhide HTL]; exact unhide HO3), HK3⟩
        case round =>
          obtain ⟨j, L, aq, cq, rfl, hj, rfl, HLq, HOq, HKq⟩ := hrel
          obtain ⟨Z, hZZ⟩ : ∃ Z, Z = wr := ⟨_, rfl⟩
          subst hZZ
          have HTj := hide (by rw [List.length_append, unhide HTL, List.length_replicate] : (BS.take R ++ List.replicate j 0).length = R + j)
          by_cases hjn : j < ng
          · have hji : (j : Int) < (ng : Int) := by omega
            have KA := hide ((Kept.refl [] Z).alloc (.cells #[.int .u8 0] 5))
            have HN4 := hide (rd_row [0] (heap_alloc_new Z (.cells #[.int .u8 0] 5)) rfl (by decide) 1 rfl (by omega))
            have HO4 := hide ((unhide KA).owns (unhide HOq) (by simp))
            have HK4 := hide ((unhide HKq).trans (unhide KA) (by simp))
            obtain ⟨Tj, hTj⟩ : ∃ Tj, BS.take R ++ List.replicate j 0 = Tj := ⟨_, rfl⟩
            rw [hTj] at HO4 HTj
            have HTE := hide hTj
            clear hTj
            go_upto_region 26 with (at_builtin; refine wpList_appendAll rfl (.tmp 115) (.tmp 116) rfl rfl _ V.heap.size (.slice aq L cq) Tj [0] (some ⟨Z.heap.size, 0, none⟩) 1 1 (unhide HO4) (unhide HN4) (by rw [unhide HTj]; have := unhide HPL; have := unhide HR; simp; omega) (unhide HK4).size rfl rfl ?_; intro a5 c5 w5 HO5 HG5 HA5)
            have HK5 := hide ((unhide HK4).grown (unhide HG5) (fun k hk => Or.inr ((unhide HO4).lt k hk).1))
            have HO6 := hide (by have h9 := unhide HO5; rw [← unhide HTE, List.append_assoc, ← List.replicate_succ', unhide HTE] at h9; exact h9 : w5.ownsRow V.heap.size 5 1 (.slice a5 (Tj.length + 1) c5) (BS.take R ++ List.replicate (j + 1) 0).length ((BS.take R ++ List.replicate (j + 1) 0).map Go.Proofs.YtckkalmhekfnhabGreatDoor.u8))
            clear HO5 HG5 HA5 HO4 HN4 KA
            go_wp2
            go_roundw
            case rel => exact ⟨j + 1, Tj.length + 1, a5, c5, by simp, by omega, rfl, hide (by rw [unhide HTj]; omega), HO6, HK5⟩
            case measure => simp [intOf]; omega
          · have hji : ¬ (j : Int) < (ng : Int) := by omega
            obtain rfl : j = ng := by omega
            have HTB := hide (fun x hx => by
              rcases List.mem_append.1 hx with hx | hx
              · exact (unhide HBS).2.2 x (List.mem_of_mem_take hx)
              · have := (List.mem_replicate.1 hx).2; omega : ∀ x ∈ BS.take R ++ List.replicate j 0, x < 256)
            have HSH2 := hide (fun h1 => unhide HSH R j h1)
            have HST2 := hide (fun k h1 h2 h3 => unhide HST R j k h1 h2 h3)
            obtain ⟨T, hT⟩ : ∃ T, BS.take R ++ List.replicate j 0 = T := ⟨_, rfl⟩
            rw [hT] at HOq HTj HTB
            simp only [hT] at HSH2 HST2
            clear hT HSH HST
            have HRT := hide (rd_owns (by have h9 := unhide HOq; exact h9) (unhide HTB) (by rw [unhide HTj]; have := unhide HPL; have := unhide HR; omega))
            have HRD := hide (read_any _ T Z (unhide HRT) (by rw [unhide HTj]; have := unhide HPL; have := unhide HR; omega))
            obtain ⟨hT, hhT⟩ : ∃ h, hdC T = h := ⟨_, rfl⟩
            obtain ⟨UT, hUT⟩ : ∃ h, sgU T = h := ⟨_, rfl⟩
            obtain ⟨ET, hET⟩ : ∃ h, sgE T = h := ⟨_, rfl⟩
            obtain ⟨BT, hBT⟩ : ∃ h, sgB T = h := ⟨_, rfl⟩
            rw [hhT, hUT, hET, hBT] at HRD
            simp only [hhT, hUT, hET, hBT] at HSH2 HST2
            clear hhT hUT hET hBT HRT HOq HTB
            go_wp2_with fail
            refine Calls.mono (unhide HRD) ?_
            rintro e w5 ⟨bw, rfl, r5, k5, _⟩
            obtain ⟨aS, cS, rfl, _, _⟩ := r5.shape
            have KA := (Kept.refl [] w5).alloc (.cells #[.int .u64 (hT.a : Int), .int .u64 (hT.b : Int), .int .u64 (hT.c : Int), .int .i64 (hT.d : Int), .slice aS BT.length cS, .int .i64 (UT : Int)] 40)
            have HS6 := hide (heap_alloc_new w5 (.cells #[.int .u64 (hT.a : Int), .int .u64 (hT.b : Int), .int .u64 (hT.c : Int), .int .i64 (hT.d : Int), .slice aS BT.length cS, .int .i64 (UT : Int)] 40))
            have HR6 := hide (r5.old KA)
            have KV := ((unhide HKq).trans k5 (by simp)).trans KA (by simp)
            have HB6 := hide ((unhide HRB).old KV)
            have HJ6 := hide (fun (q : Nat) (hq : q < X.length) => KV.cell (unhide HCJ q hq) (by simp))
            have HH6 := hide (KV.heap (unhide HH) (by simp))
            have HK6 := hide ((unhide HK).trans KV (by simp))
            clear k5 r5 KA KV HRD HKq
            by_cases hc48 : R < 48
            · obtain ⟨t1, t2, t3, t4⟩ := unhide HSH2 hc48
              have hcl : (R : Int) < 48 := by omega
              have hE3 : ((ET : Int) == 3) = true := by rw [t2]; rfl
              clear t1 t2 t3 t4
              go_wp2
              go_ret
              exact ⟨rfl, (unhide HK6).below (Nat.le_refl _) (by simp)⟩
            · have hcl : ¬ (R : Int) < 48 := by omega
              go_wp2_with fail
              obtain ⟨W6, hW6⟩ : ∃ W, w5.alloc (.cells #[.int .u64 (hT.a : Int), .int .u64 (hT.b : Int), .int .u64 (hT.c : Int), .int .i64 (hT.d : Int), .slice aS BT.length cS, .int .i64 (UT : Int)] 40) = W := ⟨_, rfl⟩
              rw [hW6] at HS6 HR6 HB6 HJ6 HH6 HK6 ⊢
              clear hW6
              go_loopw [29] (fun t29 wq => ∃ k : Nat, t29 = .int .i64 (k : Int) ∧ k ≤ D.length ∧ Hid (48 + (runS (D.take k)).length ≤ R) ∧ wq = W6) (fun t _ => D.length - (intOf t).toNat)
              case atStart => exact ⟨0, rfl, Nat.zero_le _, hide (by simp [runS]; omega), rfl⟩
              case round =>
                obtain ⟨k, rfl, hk, HC, hwq⟩ := hrel
                subst hwq
                obtain ⟨W6, hW66⟩ : ∃ W6, W6 = wr := ⟨_, rfl⟩
                subst hW66
                by_cases hkD : k < D.length
                · have hk1X : k + 1 < X.length := by rw [unhide HXL]; omega
                  obtain ⟨Vv, hV⟩ : ∃ Vv, 48 + (runS (D.take (k + 1))).length = Vv := ⟨_, rfl⟩
                  have hXV : X[k + 1] = Vv := by have h9 := unhide HXK (k + 1) (by omega); rw [hV, List.getElem?_eq_getElem hk1X] at h9; exact Option.some.inj h9
                  have j1 := unhide HJ6 (k + 1) hk1X
                  rw [hXV] at j1
                  have HVV := hide hV
                  clear hXV hV
                  have hks : (k : Int) + 1 < (X.length : Int) := by omega
                  by_cases hvc : Vv ≤ R
                  · have hvi : (Vv : Int) ≤ (R : Int) := by omega
                    go_wp2
                    go_roundw
                    case rel => exact ⟨k + 1, by simp, by omega, hide (by rw [unhide HVV]; exact hvc), trivial⟩
                    case measure => simp [intOf]; omega
                  · have hvi : ¬ (Vv : Int) ≤ (R : Int) := by omega
                    have HTK := hide (by rw [List.length_take]; omega : (D.take k).length = k)
                    obtain ⟨t1, t2, t3, t4⟩ := unhide HST2 k hk (unhide HC) (Or.inr (by rw [unhide HVV]; omega))
                    have HS8 := hide (unhide HS6)
                    rw [t1, t3, t4, unhide HTK] at HS8
                    simp only [Int.toNat_natCast] at HS8
                    have HR8 := hide (unhide HR6)
                    rw [t3, unhide HTK] at HR8
                    have hE0 : ((ET : Int) != 0) = false := by rw [t2]; rfl
                    clear t1 t2 t3 t4
                    obtain ⟨U, hU⟩ : ∃ U, 48 + (runS (D.take k)).length = U := ⟨_, rfl⟩
                    have hXk : k < X.length := by rw [unhide HXL]; omega
                    have HUk := hide (by have h9 := unhide HXK k hk; rw [List.getElem?_eq_getElem hXk, hU] at h9; have h8 := unhide HJ6 k hXk; rw [Option.some.inj h9] at h8; exact h8 : W6.cell? ⟨bt, k, none⟩ = some (.int .i64 (U : Int)))
                    rw [hU] at HS8
                    clear hU
                    have hkX : (k : Int) < (X.length : Int) := by omega
                    go_upto_region 34 with fail
                    have hnp : ∀ p : Prop, (∀ w', Kept [] W6 w' → p) = p := fun p => propext ⟨fun h => h W6 (Kept.refl [] W6), fun h _ _ => h⟩
                    have HQ0 := hide (scells (unhide HS8))
                    have HR1 := hide (range4 ⟨(unhide HQ0).1, (unhide HQ0).2.1, (unhide HQ0).2.2.1, (unhide HQ0).2.2.2.1⟩)
                    have HR2 := hide (range4 (hcells (unhide HH6)))
                    refine wp_region_keep (by kernel_rfl) (by kernel_rfl) ?_
                    iterate 4 (go_big_quiet_step (fail))
                    refine wpQuiet_mid rfl 33 _ rfl w5.heap.size 0 rfl [.int .u64 (a : Int), .int .u64 (b : Int), .int .u64 (c : Int), .int .i64 (z : Int)] _ (fun w' hw' => rangeE_kept (unhide HR1) hw' (by simp)) Tryz.underlying33 rfl Tryz.size_head ?_
                    simp only [Act.put, List.setIfInBounds_toArray, List.set_cons_succ, List.set_cons_zero]
                    refine wpQuiet_mid rfl 33 _ rfl w.heap.size 0 rfl [.int .u64 (a : Int), .int .u64 (b : Int), .int .u64 (c : Int), .int .i64 (z : Int)] _ (fun w' hw' => rangeE_kept (unhide HR2) hw' (by simp)) Tryz.underlying33 rfl Tryz.size_head ?_
                    simp only [Act.put, List.setIfInBounds_toArray, List.set_cons_succ, List.set_cons_zero]
                    refine wpQuiet_val rfl (.bool false) (fun w' _ => by go_simp) ?_
                    simp only [Act.put, List.setIfInBounds_toArray, List.set_cons_succ, List.set_cons_zero]
                    iterate 3 (go_big_quiet_step (fail))
                    refine wpQuiet_val rfl (.slice aS k cS) (fun w' hw' => run_loadS 38 _ rfl ⟨w5.heap.size, 4, none⟩ rfl w' _ _ Tryz.underlying38 (hw'.cell (unhide HQ0).2.2.2.2.1 (by simp))) ?_
                    simp only [Act.put, List.setIfInBounds_toArray, List.set_cons_succ, List.set_cons_zero]
                    iterate 6 (go_big_quiet_step (fail))
                    refine wpQuiet_val rfl (.int .i64 (U : Int)) (fun w' hw' => run_load1 3 _ rfl ⟨w5.heap.size, 5, none⟩ rfl w' _ .i64 (by kernel_rfl) (hw'.cell (unhide HQ0).2.2.2.2.2 (by simp))) ?_
                    simp only [Act.put, List.setIfInBounds_toArray, List.set_cons_succ, List.set_cons_zero]
                    iterate 3 (go_big_quiet_step (fail))
                    refine wpQuiet_val rfl (.int .i64 (U : Int)) (fun w' hw' => run_load1 3 _ rfl ⟨bt, k, none⟩ (by simp [go_sem]) w' _ .i64 (by kernel_rfl) (hw'.cell (unhide HUk) (by simp))) ?_
                    simp only [Act.put, List.setIfInBounds_toArray, List.set_cons_succ, List.set_cons_zero]
                    repeat (go_big_quiet_step (fail))
                    refine wpQuiet_nil ?_
                    intro w6 hw6
                    have HKr0 := hide hw6
                    clear hw6 hnp HR1 HR2
                    go_wp2_with fail
                    go_loopw [30] (fun t30 wq => ∃ i : Nat, t30 = .int .i64 (i : Int) ∧ i ≤ k ∧ Hid (Kept [] W6 wq)) (fun t _ => k - (intOf t).toNat)
                    case atStart => exact ⟨0, rfl, Nat.zero_le _, HKr0⟩
                    case round =>
                      obtain ⟨i, rfl, hi, HKr⟩ := hrel
                      have HK8 := hide ((unhide HK6).trans (unhide HKr) (by simp))
                      by_cases hik : i < k
                      · have hlt : (i : Int) < (k : Int) := by omega
                        obtain ⟨b1, o1, y1, h1, p0, p1, hy1⟩ := ((unhide HR8).old (unhide HKr)).at i (by rw [unhide HTK]; exact hik)
                        obtain ⟨b2, o2, y2, h2, q0, q1, hy2⟩ := ((unhide HB6).old (unhide HKr)).at i (by omega)
                        subst h1
                        subst h2
                        have hel : (D.take k)[i]'(by rw [unhide HTK]; exact hik) = D[i]'(by omega) := by simp
                        rw [hel] at p0 hy1
                        clear hel
                        generalize D[i] = t at p0 hy1 q0 hy2
                        obtain ⟨e1, n1, c1, _, _, hv1, _⟩ := id hy1
                        subst hv1
                        obtain ⟨e2, n2, c2, _, _, hv2, _⟩ := id hy2
                        subst hv2
                        have HG1 := hide (range2 p0 p1)
                        have HG2 := hide (range2 q0 q1)
                        have HY := hide (fun w' (kk : Kept [] wr w') => (tsameBatch_any t.1 _ _ t.2 w' (hy1.old kk) (hy2.old kk)).mono (fun e w2 (h2 : _ ∧ _) => (⟨h2.1, kk.trans h2.2 (by simp)⟩ : _ ∧ Kept [] wr w2)))
                        have HSr := hide ((unhide HKr).cell (unhide HQ0).2.2.2.2.1 (by simp))
                        clear p0 p1 q0 q1 hy1 hy2
                        have hiD : (i : Int) < (D.length : Int) := by omega
                        go_upto_region 39 with fail
                        have hnp : ∀ p : Prop, (∀ w', Kept [] wr w' → p) = p := fun p => propext ⟨fun h => h wr (Kept.refl [] wr), fun h _ _ => h⟩
                        refine wp_region_keep (by kernel_rfl) (by kernel_rfl) ?_
                        iterate 1 (go_big_quiet_step (fail))
                        refine wpQuiet_val rfl (.slice (some ⟨b1, o1, none⟩) k cS) (fun w' hw' => run_loadS 38 _ rfl ⟨w5.heap.size, 4, none⟩ rfl w' _ _ Tryz.underlying38 (hw'.cell (unhide HSr) (by simp))) ?_
                        simp only [Act.put, List.setIfInBounds_toArray, List.set_cons_succ, List.set_cons_zero]
                        iterate 2 (go_big_quiet_step (fail))
                        refine wpQuiet_mid rfl 37 _ rfl b1 (o1 + i * 2) rfl [.int .u64 (t.1 : Int), .slice e1 n1 c1] _ (fun w' hw' => rangeE_kept (unhide HG1) hw' (by simp)) Tryz.underlying37 rfl Tryz.size_batch9 ?_
                        simp only [Act.put, List.setIfInBounds_toArray, List.set_cons_succ, List.set_cons_zero]
                        iterate 3 (go_big_quiet_step (fail))
                        refine wpQuiet_mid rfl 37 _ rfl b2 (o2 + i * 2) rfl [.int .u64 (t.1 : Int), .slice e2 n2 c2] _ (fun w' hw' => rangeE_kept (unhide HG2) hw' (by simp)) Tryz.underlying37 rfl Tryz.size_batch9 ?_
                        simp only [Act.put, List.setIfInBounds_toArray, List.set_cons_succ, List.set_cons_zero]
                        go_big_quiet_want
                        go_big_quiet_op
                        apply Exists.intro
                        refine ⟨fun w' hw' => ?_, ?_⟩
                        · exact unhide HY w' hw'
                        go_big_quiet_on
                        repeat (go_big_quiet_step (fail))
                        refine wpQuiet_nil ?_
                        intro w7 hw7
                        have HK7 := hide ((unhide HKr).trans hw7 (by simp))
                        clear hw7 hnp
                        go_wp2
                        go_roundw
                        case rel => exact ⟨i + 1, by simp, by omega, HK7⟩
                        case measure => simp [intOf]; omega
                      · have hlt : ¬ (i : Int) < (k : Int) := by omega
                        go_wp2_with fail
                        rcases Nat.lt_trichotomy a b with hab | hab | hab
                        · have hlt2 : (a : Int) < b := by omega
                          have hne : ((a : Int) == b) = false := by rw [beq_eq_false_iff_ne]; omega
                          have hbl : Op.bytesLess (strB (nmL a)).toList (strB (nmL b)).toList = true := less_of_lt (nmL_byte a) (nmL_byte b) (nmL_lt hab hb)
                          clear hab
                          refine Calls.mono (name_any a _ ha ((unhide HV).old (unhide HK8))) ?_
                          rintro e w8 ⟨rfl, k8⟩
                          have HK9 := hide ((unhide HK8).trans k8 (by simp))
                          clear k8
                          go_wp2_with fail
                          refine Calls.mono (number_yes a _ ha ((unhide HV).old (unhide HK9))) ?_
                          rintro e w9 ⟨rfl, k9⟩
                          have HKa := hide ((unhide HK9).trans k9 (by simp))
                          clear k9
                          go_wp2_with fail
                          refine Calls.mono (name_any a _ ha ((unhide HV).old (unhide HKa))) ?_
                          rintro e wa ⟨rfl, ka⟩
                          have HKb := hide ((unhide HKa).trans ka (by simp))
                          clear ka
                          go_wp2_with fail
                          refine Calls.mono (name_any b _ hb ((unhide HV).old (unhide HKb))) ?_
                          rintro e wb ⟨rfl, kb⟩
                          have HKc := hide ((unhide HKb).trans kb (by simp))
                          clear kb
                          generalize strB (nmL a) = XA at hbl ⊢
                          generalize strB (nmL b) = XB at hbl ⊢
                          go_wp2
                          go_ret
                          exact ⟨rfl, (unhide HKc).below (Nat.le_refl _) (by simp)⟩
                        · subst hab
                          refine Calls.mono (name_any a _ ha ((unhide HV).old (unhide HK8))) ?_
                          rintro e w8 ⟨rfl, k8⟩
                          have HK9 := hide ((unhide HK8).trans k8 (by simp))
                          clear k8
                          go_wp2_with fail
                          refine Calls.mono (number_yes a _ ha ((unhide HV).old (unhide HK9))) ?_
                          rintro e w9 ⟨rfl, k9⟩
                          have HKa := hide ((unhide HK9).trans k9 (by simp))
                          clear k9
                          go_wp2
                          go_ret
                          exact ⟨rfl, (unhide HKa).below (Nat.le_refl _) (by simp)⟩
                        · have hlt2 : ¬ (a : Int) < b := by omega
                          have hltd : decide (a < b) = false := by rw [decide_eq_false_iff_not]; omega
                          have hltn : ¬ a < b := by omega
                          have hne : ((a : Int) == b) = false := by rw [beq_eq_false_iff_ne]; omega
                          have hbl : Op.bytesLess (strB (nmL a)).toList (strB (nmL b)).toList = false := less_asym _ _ (less_of_lt (nmL_byte b) (nmL_byte a) (nmL_lt hab ha))
                          clear hab
                          refine Calls.mono (name_any a _ ha ((unhide HV).old (unhide HK8))) ?_
                          rintro e w8 ⟨rfl, k8⟩
                          have HK9 := hide ((unhide HK8).trans k8 (by simp))
                          clear k8
                          go_wp2_with fail
                          refine Calls.mono (number_yes a _ ha ((unhide HV).old (unhide HK9))) ?_
                          rintro e w9 ⟨rfl, k9⟩
                          have HKa := hide ((unhide HK9).trans k9 (by simp))
                          clear k9
                          go_wp2_with fail
                          refine Calls.mono (name_any a _ ha ((unhide HV).old (unhide HKa))) ?_
                          rintro e wa ⟨rfl, ka⟩
                          have HKb := hide ((unhide HKa).trans ka (by simp))
                          clear ka
                          go_wp2_with fail
                          refine Calls.mono (name_any b _ hb ((unhide HV).old (unhide HKb))) ?_
                          rintro e wb ⟨rfl, kb⟩
                          have HKc := hide ((unhide HKb).trans kb (by simp))
                          clear kb
                          generalize strB (nmL a) = XA at hbl ⊢
                          generalize strB (nmL b) = XB at hbl ⊢
                          go_wp2
                          go_ret
                          exact ⟨rfl, (unhide HKc).below (Nat.le_refl _) (by simp)⟩

                · have hks : ¬ (k : Int) + 1 < (X.length : Int) := by have := unhide HXL; omega
                  have hksd : decide ((k : Int) + 1 < (X.length : Int)) = false := by rw [decide_eq_false_iff_not]; exact hks
                  have hksn : decide (k + 1 < X.length) = false := by rw [decide_eq_false_iff_not]; omega
                  have hksm : ¬ k + 1 < X.length := by omega
                  have hkw : IntKind.i64.wrap ((k : Int) + 1) = (k : Int) + 1 := by have := unhide HDL; simp [IntKind.wrap, IntKind.signed, IntKind.bits]; omega
                  have HTK := hide (by rw [List.length_take]; omega : (D.take k).length = k)
                  obtain ⟨t1, t2, t3, t4⟩ := unhide HST2 k hk (unhide HC) (Or.inl (by omega))
                  have HS8 := hide (unhide HS6)
                  rw [t1, t3, t4, unhide HTK] at HS8
                  simp only [Int.toNat_natCast] at HS8
                  have HR8 := hide (unhide HR6)
                  rw [t3, unhide HTK] at HR8
                  have hE0 : ((ET : Int) != 0) = false := by rw [t2]; rfl
                  clear t1 t2 t3 t4
                  obtain ⟨U, hU⟩ : ∃ U, 48 + (runS (D.take k)).length = U := ⟨_, rfl⟩
                  have hXk : k < X.length := by rw [unhide HXL]; omega
                  have HUk := hide (by have h9 := unhide HXK k hk; rw [List.getElem?_eq_getElem hXk, hU] at h9; have h8 := unhide HJ6 k hXk; rw [Option.some.inj h9] at h8; exact h8 : W6.cell? ⟨bt, k, none⟩ = some (.int .i64 (U : Int)))
                  rw [hU] at HS8
                  clear hU
                  have hkX : (k : Int) < (X.length : Int) := by omega
                  go_upto_region 34 with fail
                  have hnp : ∀ p : Prop, (∀ w', Kept [] W6 w' → p) = p := fun p => propext ⟨fun h => h W6 (Kept.refl [] W6), fun h _ _ => h⟩
                  have HQ0 := hide (scells (unhide HS8))
                  have HR1 := hide (range4 ⟨(unhide HQ0).1, (unhide HQ0).2.1, (unhide HQ0).2.2.1, (unhide HQ0).2.2.2.1⟩)
                  have HR2 := hide (range4 (hcells (unhide HH6)))
                  refine wp_region_keep (by kernel_rfl) (by kernel_rfl) ?_
                  iterate 4 (go_big_quiet_step (fail))
                  refine wpQuiet_mid rfl 33 _ rfl w5.heap.size 0 rfl [.int .u64 (a : Int), .int .u64 (b : Int), .int .u64 (c : Int), .int .i64 (z : Int)] _ (fun w' hw' => rangeE_kept (unhide HR1) hw' (by simp)) Tryz.underlying33 rfl Tryz.size_head ?_
                  simp only [Act.put, List.setIfInBounds_toArray, List.set_cons_succ, List.set_cons_zero]
                  refine wpQuiet_mid rfl 33 _ rfl w.heap.size 0 rfl [.int .u64 (a : Int), .int .u64 (b : Int), .int .u64 (c : Int), .int .i64 (z : Int)] _ (fun w' hw' => rangeE_kept (unhide HR2) hw' (by simp)) Tryz.underlying33 rfl Tryz.size_head ?_
                  simp only [Act.put, List.setIfInBounds_toArray, List.set_cons_succ, List.set_cons_zero]
                  refine wpQuiet_val rfl (.bool false) (fun w' _ => by go_simp) ?_
                  simp only [Act.put, List.setIfInBounds_toArray, List.set_cons_succ, List.set_cons_zero]
                  iterate 3 (go_big_quiet_step (fail))
                  refine wpQuiet_val rfl (.slice aS k cS) (fun w' hw' => run_loadS 38 _ rfl ⟨w5.heap.size, 4, none⟩ rfl w' _ _ Tryz.underlying38 (hw'.cell (unhide HQ0).2.2.2.2.1 (by simp))) ?_
                  simp only [Act.put, List.setIfInBounds_toArray, List.set_cons_succ, List.set_cons_zero]
                  iterate 6 (go_big_quiet_step (fail))
                  refine wpQuiet_val rfl (.int .i64 (U : Int)) (fun w' hw' => run_load1 3 _ rfl ⟨w5.heap.size, 5, none⟩ rfl w' _ .i64 (by kernel_rfl) (hw'.cell (unhide HQ0).2.2.2.2.2 (by simp))) ?_
                  simp only [Act.put, List.setIfInBounds_toArray, List.set_cons_succ, List.set_cons_zero]
                  iterate 3 (go_big_quiet_step (fail))
                  refine wpQuiet_val rfl (.int .i64 (U : Int)) (fun w' hw' => run_load1 3 _ rfl ⟨bt, k, none⟩ (by simp [go_sem]) w' _ .i64 (by kernel_rfl) (hw'.cell (unhide HUk) (by simp))) ?_
                  simp only [Act.put, List.setIfInBounds_toArray, List.set_cons_succ, List.set_cons_zero]
                  repeat (go_big_quiet_step (fail))
                  refine wpQuiet_nil ?_
                  intro w6 hw6
                  have HKr0 := hide hw6
                  clear hw6 hnp HR1 HR2
                  go_wp2_with fail
                  go_loopw [30] (fun t30 wq => ∃ i : Nat, t30 = .int .i64 (i : Int) ∧ i ≤ k ∧ Hid (Kept [] W6 wq)) (fun t _ => k - (intOf t).toNat)
                  case atStart => exact ⟨0, rfl, Nat.zero_le _, HKr0⟩
                  case round =>
                    obtain ⟨i, rfl, hi, HKr⟩ := hrel
                    have HK8 := hide ((unhide HK6).trans (unhide HKr) (by simp))
                    by_cases hik : i < k
                    · have hlt : (i : Int) < (k : Int) := by omega
                      obtain ⟨b1, o1, y1, h1, p0, p1, hy1⟩ := ((unhide HR8).old (unhide HKr)).at i (by rw [unhide HTK]; exact hik)
                      obtain ⟨b2, o2, y2, h2, q0, q1, hy2⟩ := ((unhide HB6).old (unhide HKr)).at i (by omega)
                      subst h1
                      subst h2
                      have hel : (D.take k)[i]'(by rw [unhide HTK]; exact hik) = D[i]'(by omega) := by simp
                      rw [hel] at p0 hy1
                      clear hel
                      generalize D[i] = t at p0 hy1 q0 hy2
                      obtain ⟨e1, n1, c1, _, _, hv1, _⟩ := id hy1
                      subst hv1
                      obtain ⟨e2, n2, c2, _, _, hv2, _⟩ := id hy2
                      subst hv2
                      have HG1 := hide (range2 p0 p1)
                      have HG2 := hide (range2 q0 q1)
                      have HY := hide (fun w' (kk : Kept [] wr w') => (tsameBatch_any t.1 _ _ t.2 w' (hy1.old kk) (hy2.old kk)).mono (fun e w2 (h2 : _ ∧ _) => (⟨h2.1, kk.trans h2.2 (by simp)⟩ : _ ∧ Kept [] wr w2)))
                      have HSr := hide ((unhide HKr).cell (unhide HQ0).2.2.2.2.1 (by simp))
                      clear p0 p1 q0 q1 hy1 hy2
                      have hiD : (i : Int) < (D.length : Int) := by omega
                      go_upto_region 39 with fail
                      have hnp : ∀ p : Prop, (∀ w', Kept [] wr w' → p) = p := fun p => propext ⟨fun h => h wr (Kept.refl [] wr), fun h _ _ => h⟩
                      refine wp_region_keep (by kernel_rfl) (by kernel_rfl) ?_
                      iterate 1 (go_big_quiet_step (fail))
                      refine wpQuiet_val rfl (.slice (some ⟨b1, o1, none⟩) k cS) (fun w' hw' => run_loadS 38 _ rfl ⟨w5.heap.size, 4, none⟩ rfl w' _ _ Tryz.underlying38 (hw'.cell (unhide HSr) (by simp))) ?_
                      simp only [Act.put, List.setIfInBounds_toArray, List.set_cons_succ, List.set_cons_zero]
                      iterate 2 (go_big_quiet_step (fail))
                      refine wpQuiet_mid rfl 37 _ rfl b1 (o1 + i * 2) rfl [.int .u64 (t.1 : Int), .slice e1 n1 c1] _ (fun w' hw' => rangeE_kept (unhide HG1) hw' (by simp)) Tryz.underlying37 rfl Tryz.size_batch9 ?_
                      simp only [Act.put, List.setIfInBounds_toArray, List.set_cons_succ, List.set_cons_zero]
                      iterate 3 (go_big_quiet_step (fail))
                      refine wpQuiet_mid rfl 37 _ rfl b2 (o2 + i * 2) rfl [.int .u64 (t.1 : Int), .slice e2 n2 c2] _ (fun w' hw' => rangeE_kept (unhide HG2) hw' (by simp)) Tryz.underlying37 rfl Tryz.size_batch9 ?_
                      simp only [Act.put, List.setIfInBounds_toArray, List.set_cons_succ, List.set_cons_zero]
                      go_big_quiet_want
                      go_big_quiet_op
                      apply Exists.intro
                      refine ⟨fun w' hw' => ?_, ?_⟩
                      · exact unhide HY w' hw'
                      go_big_quiet_on
                      repeat (go_big_quiet_step (fail))
                      refine wpQuiet_nil ?_
                      intro w7 hw7
                      have HK7 := hide ((unhide HKr).trans hw7 (by simp))
                      clear hw7 hnp
                      go_wp2
                      go_roundw
                      case rel => exact ⟨i + 1, by simp, by omega, HK7⟩
                      case measure => simp [intOf]; omega
                    · have hlt : ¬ (i : Int) < (k : Int) := by omega
                      go_wp2_with fail
                      rcases Nat.lt_trichotomy a b with hab | hab | hab
                      · have hlt2 : (a : Int) < b := by omega
                        have hne : ((a : Int) == b) = false := by rw [beq_eq_false_iff_ne]; omega
                        have hbl : Op.bytesLess (strB (nmL a)).toList (strB (nmL b)).toList = true := less_of_lt (nmL_byte a) (nmL_byte b) (nmL_lt hab hb)
                        clear hab
                        refine Calls.mono (name_any a _ ha ((unhide HV).old (unhide HK8))) ?_
                        rintro e w8 ⟨rfl, k8⟩
                        have HK9 := hide ((unhide HK8).trans k8 (by simp))
                        clear k8
                        go_wp2_with fail
                        refine Calls.mono (number_yes a _ ha ((unhide HV).old (unhide HK9))) ?_
                        rintro e w9 ⟨rfl, k9⟩
                        have HKa := hide ((unhide HK9).trans k9 (by simp))
                        clear k9
                        go_wp2_with fail
                        refine Calls.mono (name_any a _ ha ((unhide HV).old (unhide HKa))) ?_
                        rintro e wa ⟨rfl, ka⟩
                        have HKb := hide ((unhide HKa).trans ka (by simp))
                        clear ka
                        go_wp2_with fail
                        refine Calls.mono (name_any b _ hb ((unhide HV).old (unhide HKb))) ?_
                        rintro e wb ⟨rfl, kb⟩
                        have HKc := hide ((unhide HKb).trans kb (by simp))
                        clear kb
                        generalize strB (nmL a) = XA at hbl ⊢
                        generalize strB (nmL b) = XB at hbl ⊢
                        go_wp2
                        go_ret
                        exact ⟨rfl, (unhide HKc).below (Nat.le_refl _) (by simp)⟩
                      · subst hab
                        refine Calls.mono (name_any a _ ha ((unhide HV).old (unhide HK8))) ?_
                        rintro e w8 ⟨rfl, k8⟩
                        have HK9 := hide ((unhide HK8).trans k8 (by simp))
                        clear k8
                        go_wp2_with fail
                        refine Calls.mono (number_yes a _ ha ((unhide HV).old (unhide HK9))) ?_
                        rintro e w9 ⟨rfl, k9⟩
                        have HKa := hide ((unhide HK9).trans k9 (by simp))
                        clear k9
                        go_wp2
                        go_ret
                        exact ⟨rfl, (unhide HKa).below (Nat.le_refl _) (by simp)⟩
                      · have hlt2 : ¬ (a : Int) < b := by omega
                        have hltd : decide (a < b) = false := by rw [decide_eq_false_iff_not]; omega
                        have hltn : ¬ a < b := by omega
                        have hne : ((a : Int) == b) = false := by rw [beq_eq_false_iff_ne]; omega
                        have hbl : Op.bytesLess (strB (nmL a)).toList (strB (nmL b)).toList = false := less_asym _ _ (less_of_lt (nmL_byte b) (nmL_byte a) (nmL_lt hab ha))
                        clear hab
                        refine Calls.mono (name_any a _ ha ((unhide HV).old (unhide HK8))) ?_
                        rintro e w8 ⟨rfl, k8⟩
                        have HK9 := hide ((unhide HK8).trans k8 (by simp))
                        clear k8
                        go_wp2_with fail
                        refine Calls.mono (number_yes a _ ha ((unhide HV).old (unhide HK9))) ?_
                        rintro e w9 ⟨rfl, k9⟩
                        have HKa := hide ((unhide HK9).trans k9 (by simp))
                        clear k9
                        go_wp2_with fail
                        refine Calls.mono (name_any a _ ha ((unhide HV).old (unhide HKa))) ?_
                        rintro e wa ⟨rfl, ka⟩
                        have HKb := hide ((unhide HKa).trans ka (by simp))
                        clear ka
                        go_wp2_with fail
                        refine Calls.mono (name_any b _ hb ((unhide HV).old (unhide HKb))) ?_
                        rintro e wb ⟨rfl, kb⟩
                        have HKc := hide ((unhide HKb).trans kb (by simp))
                        clear kb
                        generalize strB (nmL a) = XA at hbl ⊢
                        generalize strB (nmL b) = XB at hbl ⊢
                        go_wp2
                        go_ret
                        exact ⟨rfl, (unhide HKc).below (Nat.le_refl _) (by simp)⟩

end Go.Proofs.YtckkalmhekfnhabGreatDoor
namespace Go.Proofs.YtckkalmhekfnhabGreatDoor
open Go.ChangeShapes Go.WideShapes Go.ChangeAt Go.RowKit Go.Deep
set_option linter.unusedVariables false
set_option linter.unusedSimpArgs false

theorem own : ownKnob Tryz.prog.godebug = none := by kernel_rfl
theorem laidOut : laidOutB Tryz.prog = true := by kernel_rfl
theorem byte_of_wf {x : Int} (h : (Lit.int .u8 x).wf = true) : 0 ≤ x ∧ x < 256 := by
  simp [Lit.wf, IntKind.min, IntKind.max, IntKind.signed, IntKind.bits] at h
  exact ⟨by omega, by omega⟩
theorem int_of_wf {x : Int} (h : (Lit.int .i64 x).wf = true) : -9223372036854775808 ≤ x ∧ x ≤ 9223372036854775807 := by
  simp [Lit.wf, IntKind.min, IntKind.max, IntKind.signed, IntKind.bits] at h
  exact ⟨by omega, by omega⟩

theorem bulk_one {H : Type} (d : DataW H) : 1 ≤ Rows.uptoBulk d := by
  cases d with
  | lit l => cases l <;> simp [Rows.uptoBulk]
  | nil => simp [Rows.uptoBulk]
  | ptr d => simp [Rows.uptoBulk]
  | slice elems spare => simp [Rows.uptoBulk]
  | agg parts => simp [Rows.uptoBulk]
  | iface t d => simp [Rows.uptoBulk]
  | map entries => simp [Rows.uptoBulk]
  | held h => simp [Rows.uptoBulk]
theorem bulk_len {H : Type} (l : List (DataW H)) : l.length ≤ Rows.uptoBulkAll l := by
  induction l with
  | nil => simp [Rows.uptoBulkAll]
  | cons x r ih => have := bulk_one x; simp only [Rows.uptoBulkAll, List.length_cons]; omega
theorem Tryz.bytes5 : Tryz.prog.bytesOf 5 = 1 := by kernel_rfl

section
variable {H : Type} {enc : TypeId × Value → H} {W : World}

/-- Bytes that came in, as the walks want them, of whatever length. -/
theorem open_bytes {fuel : Nat} {cs : List Value} {x : DataW H × List MemPlace} (h : DataW.trod enc Tryz.prog W 0 (fun _ => true) true fuel 29 cs = some x) :
    ∃ v bs, cs = [v] ∧ (bs.length ≤ 140737488355328 → Rd W v bs) ∧ ((bs = [] ∧ x.1 = .nil) ∨ ∃ elems spare, x.1 = .slice elems spare ∧ elems.length = bs.length) := by
  rcases open_ints Tryz.underlying29 Tryz.underlying5 (by kernel_rfl) h with ⟨rfl, rfl⟩ | ⟨a, len, cap, zs, rfl, _, hl, hm, hz, rfl, hcell, hwz⟩
  · exact ⟨_, [], rfl, fun _ => Rd.nil W, .inl ⟨rfl, rfl⟩⟩
  · have h2 : (lits (H := H) .u8 (zs.take len)).length = len := by simp only [lits, List.length_map, List.length_take]; simp at hz; omega
    have hbl : ((zs.take len).map Int.toNat).length = len := by simp at hz; simp; omega
    refine ⟨_, (zs.take len).map Int.toNat, rfl, fun hB => ⟨_, _, _, rfl, hbl, hl, ⟨by unfold maxLen at hm; omega, by omega⟩, by simp, ?_, ?_⟩, .inr ⟨_, _, rfl, by rw [h2, hbl]⟩⟩
    · intro y hy
      obtain ⟨z, hz1, rfl⟩ := List.mem_map.1 hy
      have := byte_of_wf (hwz z (List.mem_of_mem_take hz1)); omega
    · intro hp
      simp at hz
      have hc0 := hcell 0 (by omega)
      obtain ⟨b, off, spot⟩ := a
      have hspot : spot = none := by simpa [Addr.add] using World.cell?_spot hc0
      subst hspot
      refine ⟨b, off, rfl, fun i hi => ?_⟩
      have hc := hcell i (by omega)
      have hzi : i < zs.length := by omega
      rw [Addr.add_mid] at hc
      rw [hc]
      have hw := byte_of_wf (hwz (zs[i]) (List.getElem_mem hzi))
      simp only [List.getD_eq_getElem?_getD, List.getElem?_eq_getElem hzi, Option.getD_some, List.getElem?_map, List.getElem?_take, hi, if_true, Option.map_some]
      simp [u8]; omega
/-- Their length, by the reach. -/
theorem reach_bytes {ts : List TypeId} {ds : List (DataW H)} (h : (DataW.weightsEach Tryz.prog ts ds).all (· ≤ reachBytes) = true) {j : Nat} (ht : ts[j]? = some 29) {d : DataW H} (hd : ds[j]? = some d) {bs : List Nat}
    (hx : (bs = [] ∧ d = .nil) ∨ ∃ elems spare, d = .slice elems spare ∧ elems.length = bs.length) : bs.length ≤ 140737488351232 := by
  rcases hx with ⟨rfl, _⟩ | ⟨elems, spare, rfl, he⟩
  · simp
  · have := sized_slice h ht hd Tryz.underlying29
    rw [Tryz.bytes5, Nat.mul_one] at this
    unfold reachBytes at this
    omega
/-- Their length, by the bulk. -/
theorem bulk_bytes {d : DataW H} {bs : List Nat} (hx : (bs = [] ∧ d = .nil) ∨ ∃ elems spare, d = .slice elems spare ∧ elems.length = bs.length) : bs.length + 1 ≤ Rows.uptoBulk d := by
  rcases hx with ⟨rfl, rfl⟩ | ⟨elems, spare, rfl, he⟩
  · simp [Rows.uptoBulk]
  · have := bulk_len elems
    simp only [Rows.uptoBulk]; omega
end
end Go.Proofs.YtckkalmhekfnhabGreatDoor
namespace Go.Proofs.YtckkalmhekfnhabGreatDoor
open Go.ChangeShapes Go.WideShapes Go.ChangeAt Go.RowKit Go.Deep
set_option linter.unusedVariables false
set_option linter.unusedSimpArgs false
section
variable {H : Type} {enc : TypeId × Value → H} {W : World}

theorem n_bulk_part {d : DataW H} {l : List (DataW H)} (h : d ∈ l) : Rows.uptoBulk d ≤ Rows.uptoBulkAll l := by
  induction l with
  | nil => simp at h
  | cons a l ih =>
    simp only [Rows.uptoBulkAll]
    rcases List.mem_cons.1 h with rfl | h
    · omega
    · have := ih h; omega
theorem n_bulk_len (D : Nat → DataW H) (l : List Nat) (h : ∀ i ∈ l, 1 ≤ Rows.uptoBulk (D i)) : l.length ≤ Rows.uptoBulkAll (l.map D) := by
  induction l with
  | nil => simp
  | cons a l ih =>
    have h1 := h a (by simp)
    have h2 := ih (fun i hi => h i (by simp [hi]))
    simp only [List.map_cons, Rows.uptoBulkAll, List.length_cons]
    omega
theorem n_split (cs : List Value) (a n : Nat) : cs.drop a = (cs.drop a).take n ++ cs.drop (a + n) := by
  rw [← List.drop_drop, List.take_append_drop]
/-- An entry that came in. -/
theorem open_entry {fuel : Nat} {cs : List Value} {x : DataW H × List MemPlace} (h : DataW.trod enc Tryz.prog W 0 (fun _ => true) true fuel 44 cs = some x) (hB : Rows.uptoBulk x.1 ≤ 1048576) :
    ∃ (e : En) (kv vv : Value), cs = (enC e kv vv).toList ∧ OkE W e kv vv ∧ e.key.length + e.val.length + 2 ≤ Rows.uptoBulk x.1 := by
  obtain ⟨xs, n, _, rfl, hl, hlen, hf⟩ := DataW.trod_struct Tryz.underlying44 h
  rw [show Tryz.prog.cellsOf 44 = 3 from by kernel_rfl] at hl
  match xs, hlen with
  | [y0, y1, y2], _ =>
    have ci : Tryz.prog.cellsOf 5 = 1 := by kernel_rfl
    have cb : Tryz.prog.cellsOf 29 = 1 := by kernel_rfl
    have f0 : DataW.trod enc Tryz.prog W 0 (fun _ => true) true n 5 ((cs.drop 0).take 1) = some y0 := by rw [← ci]; exact hf 0 _ rfl
    have f1 : DataW.trod enc Tryz.prog W 0 (fun _ => true) true n 29 ((cs.drop 1).take 1) = some y1 := by have this : DataW.trod enc Tryz.prog W 0 (fun _ => true) true n 29 ((cs.drop 1).take (Tryz.prog.cellsOf 29)) = some y1 := hf 1 _ rfl; rw [cb] at this; exact this
    have f2 : DataW.trod enc Tryz.prog W 0 (fun _ => true) true n 29 ((cs.drop 2).take 1) = some y2 := by have this : DataW.trod enc Tryz.prog W 0 (fun _ => true) true n 29 ((cs.drop 2).take (Tryz.prog.cellsOf 29)) = some y2 := hf 2 _ rfl; rw [cb] at this; exact this
    simp only [List.map_cons, List.map_nil, Rows.uptoBulk, Rows.uptoBulkAll] at hB ⊢
    obtain ⟨k, e0, _, w0⟩ := DataW.trod_int Tryz.underlying5 f0
    obtain ⟨kv, key, e1, hr1, hb1⟩ := open_bytes f1
    obtain ⟨vv, val, e2, hr2, hb2⟩ := open_bytes f2
    have g1 := bulk_bytes hb1
    have g2 := bulk_bytes hb2
    have hk := byte_of_wf w0
    refine ⟨⟨k.toNat, key, val⟩, kv, vv, ?_, ⟨by show k.toNat < 256; omega, hr1 (by omega), hr2 (by omega)⟩, by show key.length + val.length + 2 ≤ _; omega⟩
    have hd : cs.drop 3 = [] := List.drop_eq_nil_of_le (by omega)
    have this := n_split cs 0 1
    rw [e0, n_split cs 1 1, e1, n_split cs 2 1, e2, hd, List.drop_zero] at this
    rw [this]
    simp [enC, Int.toNat_of_nonneg hk.1]
instance : Inhabited En := ⟨⟨0, [], []⟩⟩
/-- Entries that came in. -/
theorem open_entries {fuel : Nat} {cs : List Value} {x : DataW H × List MemPlace} (h : DataW.trod enc Tryz.prog W 0 (fun _ => true) true fuel 35 cs = some x) (hB : Rows.uptoBulk x.1 ≤ 1048576) :
    ∃ v es, cs = [v] ∧ RdN W v es ∧ es.length ≤ 1048576 := by
  rcases open_slice Tryz.underlying35 h with ⟨rfl, rfl⟩ | ⟨a, len, cap, m, n, D, Pl, rfl, _, hl, hm, hmm, rfl, hx⟩
  · exact ⟨_, [], rfl, RdN.nil W, by simp⟩
  · have hC : Tryz.prog.cellsOf 44 = 3 := by kernel_rfl
    rw [hC] at hx
    simp only [if_true] at hmm
    simp only [Rows.uptoBulk] at hB
    obtain ⟨f, hf⟩ := choose_lt (α := En × Value × Value) (n := len) (p := fun i o => ((∀ j v, (enC o.1 o.2.1 o.2.2).toList[j]? = some v → W.cell? ((a.add (i * 3)).add j) = some v) ∧ OkE W o.1 o.2.1 o.2.2) ∧ 1 ≤ Rows.uptoBulk (D i)) (by
      intro i hi
      obtain ⟨cs', h1, h2⟩ := hx i (by omega)
      have hDi : Rows.uptoBulk (D i) ≤ Rows.uptoBulkAll ((List.range len).map D) := n_bulk_part (List.mem_map.2 ⟨i, List.mem_range.2 hi, rfl⟩)
      obtain ⟨o, kv, vv, rfl, ho, hbb⟩ := open_entry h2 (by simp only; omega)
      obtain ⟨_, hlen, hc⟩ := World.cells?_some h1
      refine ⟨(o, kv, vv), ⟨fun j v hv => ?_, ho⟩, by simp only at hbb; omega⟩
      have hj := (List.getElem?_eq_some_iff.1 hv).1
      have := hc j hj
      rw [this, ← hv, List.getElem?_eq_getElem hj])
    refine ⟨_, (List.range len).map fun i => (f i).1, rfl, ⟨some a, len, cap, fun i => (f i).2.1, fun i => (f i).2.2, rfl, by simp, hl, by unfold maxLen at hm; omega, ?_, ?_⟩, ?_⟩
    · intro i hi
      have hi' : i < len := by simpa using hi
      have := (hf i hi').1.2
      simpa using this
    · intro hp
      obtain ⟨b, off, spot⟩ := a
      have h0 := (hf 0 hp).1
      have hc0 := h0.1 0 _ rfl
      have hspot : spot = none := by simpa [Addr.add] using World.cell?_spot hc0
      subst hspot
      refine ⟨b, off, rfl, fun i hi j v hv => ?_⟩
      have hi' : i < len := by simpa using hi
      have e9 : ((List.range len).map fun i => (f i).1)[i] = (f i).1 := by simp
      rw [e9] at hv
      have := (hf i hi').1.1 j v hv
      rw [Addr.add_mid, Addr.add_mid] at this
      exact this
    · have := n_bulk_len D (List.range len) (fun i hi => (hf i (List.mem_range.1 hi)).2)
      simp only [List.length_map, List.length_range] at this ⊢
      omega
/-- A batch that came in. -/
theorem open_batch {fuel : Nat} {cs : List Value} {x : DataW H × List MemPlace} (h : DataW.trod enc Tryz.prog W 0 (fun _ => true) true fuel 37 cs = some x) (hB : Rows.uptoBulk x.1 ≤ 1048576) :
    ∃ (f : Nat) (v : Value) (es : List En), cs = [.int .u64 (f : Int), v] ∧ f < 18446744073709551616 ∧ RdN W v es ∧ es.length ≤ 1048576 := by
  obtain ⟨xs, n, _, rfl, hl, hlen, hf⟩ := DataW.trod_struct Tryz.underlying37 h
  rw [show Tryz.prog.cellsOf 37 = 2 from by kernel_rfl] at hl
  match xs, hlen with
  | [y0, y1], _ =>
    have ci : Tryz.prog.cellsOf 24 = 1 := by kernel_rfl
    have cb : Tryz.prog.cellsOf 35 = 1 := by kernel_rfl
    have f0 : DataW.trod enc Tryz.prog W 0 (fun _ => true) true n 24 ((cs.drop 0).take 1) = some y0 := by rw [← ci]; exact hf 0 _ rfl
    have f1 : DataW.trod enc Tryz.prog W 0 (fun _ => true) true n 35 ((cs.drop 1).take 1) = some y1 := by have this : DataW.trod enc Tryz.prog W 0 (fun _ => true) true n 35 ((cs.drop 1).take (Tryz.prog.cellsOf 35)) = some y1 := hf 1 _ rfl; rw [cb] at this; exact this
    simp only [List.map_cons, List.map_nil, Rows.uptoBulk, Rows.uptoBulkAll] at hB
    obtain ⟨k, e0, _, w0⟩ := DataW.trod_int Tryz.underlying24 f0
    obtain ⟨v, es, e1, hr1, hb1⟩ := open_entries f1 (by omega)
    have hk : 0 ≤ k ∧ k < 18446744073709551616 := by
      simp [Lit.wf, IntKind.min, IntKind.max, IntKind.signed, IntKind.bits] at w0
      omega
    refine ⟨k.toNat, v, es, ?_, by omega, hr1, hb1⟩
    have hd : cs.drop 2 = [] := List.drop_eq_nil_of_le (by omega)
    have this := n_split cs 0 1
    rw [e0, n_split cs 1 1, e1, hd, List.drop_zero] at this
    rw [this]
    simp [Int.toNat_of_nonneg hk.1]
end
end Go.Proofs.YtckkalmhekfnhabGreatDoor
namespace Go.Proofs.YtckkalmhekfnhabGreatDoor
open Go.ChangeShapes Go.WideShapes Go.ChangeAt Go.RowKit Go.Deep
set_option linter.unusedVariables false
set_option linter.unusedSimpArgs false
section
variable {H : Type} {enc : TypeId × Value → H} {W : World}
theorem u64_of_wf {k : Int} (w0 : (Lit.int .u64 k).wf = true) : 0 ≤ k ∧ k < 18446744073709551616 := by
  simp [Lit.wf, IntKind.min, IntKind.max, IntKind.signed, IntKind.bits] at w0
  omega
/-- A head that came in. -/
theorem open_head {fuel : Nat} {cs : List Value} {x : DataW H × List MemPlace} (h : DataW.trod enc Tryz.prog W 0 (fun _ => true) true fuel 33 cs = some x) :
    ∃ (a b c : Nat) (z : Int), cs = [.int .u64 (a : Int), .int .u64 (b : Int), .int .u64 (c : Int), .int .i64 z] ∧ a < 18446744073709551616 ∧ b < 18446744073709551616 ∧ c < 18446744073709551616 ∧ -9223372036854775808 ≤ z ∧ z ≤ 9223372036854775807 := by
  obtain ⟨xs, n, _, rfl, hl, hlen, hf⟩ := DataW.trod_struct Tryz.underlying33 h
  rw [show Tryz.prog.cellsOf 33 = 4 from by kernel_rfl] at hl
  match xs, hlen with
  | [y0, y1, y2, y3], _ =>
    have ci : Tryz.prog.cellsOf 24 = 1 := by kernel_rfl
    have cb : Tryz.prog.cellsOf 3 = 1 := by kernel_rfl
    have f0 : DataW.trod enc Tryz.prog W 0 (fun _ => true) true n 24 ((cs.drop 0).take 1) = some y0 := by rw [← ci]; exact hf 0 _ rfl
    have f1 : DataW.trod enc Tryz.prog W 0 (fun _ => true) true n 24 ((cs.drop 1).take 1) = some y1 := by have this : DataW.trod enc Tryz.prog W 0 (fun _ => true) true n 24 ((cs.drop 1).take (Tryz.prog.cellsOf 24)) = some y1 := hf 1 _ rfl; rw [ci] at this; exact this
    have f2 : DataW.trod enc Tryz.prog W 0 (fun _ => true) true n 24 ((cs.drop 2).take 1) = some y2 := by have this : DataW.trod enc Tryz.prog W 0 (fun _ => true) true n 24 ((cs.drop 2).take (Tryz.prog.cellsOf 24)) = some y2 := hf 2 _ rfl; rw [ci] at this; exact this
    have f3 : DataW.trod enc Tryz.prog W 0 (fun _ => true) true n 3 ((cs.drop 3).take 1) = some y3 := by have this : DataW.trod enc Tryz.prog W 0 (fun _ => true) true n 3 ((cs.drop 3).take (Tryz.prog.cellsOf 3)) = some y3 := hf 3 _ rfl; rw [cb] at this; exact this
    obtain ⟨k0, e0, _, w0⟩ := DataW.trod_int Tryz.underlying24 f0
    obtain ⟨k1, e1, _, w1⟩ := DataW.trod_int Tryz.underlying24 f1
    obtain ⟨k2, e2, _, w2⟩ := DataW.trod_int Tryz.underlying24 f2
    obtain ⟨k3, e3, _, w3⟩ := DataW.trod_int Tryz.underlying3 f3
    have h0 := u64_of_wf w0
    have h1 := u64_of_wf w1
    have h2 := u64_of_wf w2
    have h3 := int_of_wf w3
    refine ⟨k0.toNat, k1.toNat, k2.toNat, k3, ?_, by omega, by omega, by omega, h3.1, h3.2⟩
    have hd : cs.drop 4 = [] := List.drop_eq_nil_of_le (by omega)
    have this := n_split cs 0 1
    rw [e0, n_split cs 1 1, e1, n_split cs 2 1, e2, n_split cs 3 1, e3, hd, List.drop_zero] at this
    rw [this]
    simp [Int.toNat_of_nonneg h0.1, Int.toNat_of_nonneg h1.1, Int.toNat_of_nonneg h2.1]
end
end Go.Proofs.YtckkalmhekfnhabGreatDoor
namespace Go.Proofs.YtckkalmhekfnhabGreatDoor
open Go.ChangeShapes Go.WideShapes Go.ChangeAt Go.RowKit Go.Deep
set_option linter.unusedVariables false
set_option linter.unusedSimpArgs false
section
variable {H : Type} {enc : TypeId × Value → H} {W : World}
instance : Inhabited Value := ⟨.slice none 0 0⟩
/-- Batches that came in. -/
theorem open_batches {fuel : Nat} {cs : List Value} {x : DataW H × List MemPlace} (h : DataW.trod enc Tryz.prog W 0 (fun _ => true) true fuel 38 cs = some x) (hB : Rows.uptoBulk x.1 ≤ 1048576) :
    ∃ v bs, cs = [v] ∧ RdB W v bs ∧ bs.length ≤ 1048576 ∧ ∀ t ∈ bs, t.2.length ≤ 1048576 := by
  rcases open_slice Tryz.underlying38 h with ⟨rfl, rfl⟩ | ⟨a, len, cap, m, n, D, Pl, rfl, _, hl, hm, hmm, rfl, hx⟩
  · exact ⟨_, [], rfl, RdB.nil W, by simp, by simp⟩
  · have hC : Tryz.prog.cellsOf 37 = 2 := by kernel_rfl
    rw [hC] at hx
    simp only [if_true] at hmm
    simp only [Rows.uptoBulk] at hB
    obtain ⟨f, hf⟩ := choose_lt (α := Nat × Value × List En) (n := len) (p := fun i o => ((∀ j v, ([.int .u64 (o.1 : Int), o.2.1] : List Value)[j]? = some v → W.cell? ((a.add (i * 2)).add j) = some v) ∧ RdN W o.2.1 o.2.2 ∧ o.2.2.length ≤ 1048576) ∧ 1 ≤ Rows.uptoBulk (D i)) (by
      intro i hi
      obtain ⟨cs', h1, h2⟩ := hx i (by omega)
      have hDi : Rows.uptoBulk (D i) ≤ Rows.uptoBulkAll ((List.range len).map D) := n_bulk_part (List.mem_map.2 ⟨i, List.mem_range.2 hi, rfl⟩)
      obtain ⟨k, v, es, rfl, hk, hr, hle⟩ := open_batch h2 (by simp only; omega)
      obtain ⟨_, hlen, hc⟩ := World.cells?_some h1
      refine ⟨(k, v, es), ⟨fun j v hv => ?_, hr, hle⟩, bulk_one _⟩
      have hj := (List.getElem?_eq_some_iff.1 hv).1
      have := hc j hj
      rw [this, ← hv, List.getElem?_eq_getElem hj])
    have hbl := n_bulk_len D (List.range len) (fun i hi => (hf i (List.mem_range.1 hi)).2)
    rw [List.length_range] at hbl
    refine ⟨_, (List.range len).map fun i => ((f i).1, (f i).2.2), rfl, ⟨some a, cap, (List.range len).map f, by simp, by simp, by simpa using hl, by unfold maxLen at hm; omega, ?_, ?_⟩, by simp; omega, ?_⟩
    · intro t ht
      obtain ⟨i, hi, rfl⟩ := List.mem_map.1 ht
      exact (hf i (List.mem_range.1 hi)).1.2.1
    · intro hp
      obtain ⟨b, off, spot⟩ := a
      have hp' : 0 < len := by simpa using hp
      have h0 := (hf 0 hp').1
      have hc0 := h0.1 0 _ rfl
      have hspot : spot = none := by simpa [Addr.add] using World.cell?_spot hc0
      subst hspot
      refine ⟨b, off, rfl, fun i hi => ?_⟩
      have hi' : i < len := by simpa using hi
      have e9 : ((List.range len).map f)[i] = f i := by simp
      rw [e9]
      have c0 := (hf i hi').1.1 0 _ rfl
      have c1 := (hf i hi').1.1 1 _ rfl
      rw [Addr.add_mid, Addr.add_mid] at c0 c1
      exact ⟨c0, c1⟩
    · intro t ht
      obtain ⟨i, hi, rfl⟩ := List.mem_map.1 ht
      exact (hf i (List.mem_range.1 hi)).1.2.2
end
end Go.Proofs.YtckkalmhekfnhabGreatDoor
namespace Go.Proofs.YtckkalmhekfnhabGreatDoor
open Go.ChangeShapes Go.WideShapes Go.ChangeAt Go.RowKit Go.Deep
set_option linter.unusedVariables false
set_option linter.unusedSimpArgs false
section
variable {H : Type} {enc : TypeId × Value → H} {W : World}
/-- A part that came in. -/
theorem open_part {fuel : Nat} {cs : List Value} {x : DataW H × List MemPlace} (h : DataW.trod enc Tryz.prog W 0 (fun _ => true) true fuel 68 cs = some x) (hB : Rows.uptoBulk x.1 ≤ 1048576) :
    ∃ (c : Nat) (e : En) (kv vv : Value), cs = [.int .u8 (c : Int), .int .u8 (e.k : Int), kv, vv] ∧ c < 256 ∧ OkE W e kv vv := by
  obtain ⟨xs, n, _, rfl, hl, hlen, hf⟩ := DataW.trod_struct Tryz.underlying68 h
  rw [show Tryz.prog.cellsOf 68 = 4 from by kernel_rfl] at hl
  match xs, hlen with
  | [y0, y1], _ =>
    have ci : Tryz.prog.cellsOf 5 = 1 := by kernel_rfl
    have cb : Tryz.prog.cellsOf 44 = 3 := by kernel_rfl
    have f0 : DataW.trod enc Tryz.prog W 0 (fun _ => true) true n 5 ((cs.drop 0).take 1) = some y0 := by rw [← ci]; exact hf 0 _ rfl
    have f1 : DataW.trod enc Tryz.prog W 0 (fun _ => true) true n 44 ((cs.drop 1).take 3) = some y1 := by have this : DataW.trod enc Tryz.prog W 0 (fun _ => true) true n 44 ((cs.drop 1).take (Tryz.prog.cellsOf 44)) = some y1 := hf 1 _ rfl; rw [cb] at this; exact this
    simp only [List.map_cons, List.map_nil, Rows.uptoBulk, Rows.uptoBulkAll] at hB
    obtain ⟨k, e0, _, w0⟩ := DataW.trod_int Tryz.underlying5 f0
    obtain ⟨e, kv, vv, e1, ok, _⟩ := open_entry f1 (by omega)
    have hk := byte_of_wf w0
    refine ⟨k.toNat, e, kv, vv, ?_, by omega, ok⟩
    have hd : cs.drop 4 = [] := List.drop_eq_nil_of_le (by omega)
    have this := n_split cs 0 1
    rw [e0, n_split cs 1 3, e1, hd, List.drop_zero] at this
    rw [this]
    simp [enC, Int.toNat_of_nonneg hk.1]
/-- Parts that came in. -/
theorem open_parts {fuel : Nat} {cs : List Value} {x : DataW H × List MemPlace} (h : DataW.trod enc Tryz.prog W 0 (fun _ => true) true fuel 62 cs = some x) (hB : Rows.uptoBulk x.1 ≤ 1048576) :
    ∃ v ps, cs = [v] ∧ RdT W v ps ∧ ps.length ≤ 1048576 := by
  rcases open_slice Tryz.underlying62 h with ⟨rfl, rfl⟩ | ⟨a, len, cap, m, n, D, Pl, rfl, _, hl, hm, hmm, rfl, hx⟩
  · exact ⟨_, [], rfl, ⟨none, 0, [], rfl, rfl, Nat.le_refl _, by omega, by simp, fun h => by simp at h⟩, by simp⟩
  · have hC : Tryz.prog.cellsOf 68 = 4 := by kernel_rfl
    rw [hC] at hx
    simp only [if_true] at hmm
    simp only [Rows.uptoBulk] at hB
    obtain ⟨f, hf⟩ := choose_lt (α := Nat × En × Value × Value) (n := len) (p := fun i o => ((∀ j v, ([.int .u8 (o.1 : Int), .int .u8 (o.2.1.k : Int), o.2.2.1, o.2.2.2] : List Value)[j]? = some v → W.cell? ((a.add (i * 4)).add j) = some v) ∧ o.1 < 256 ∧ OkE W o.2.1 o.2.2.1 o.2.2.2) ∧ 1 ≤ Rows.uptoBulk (D i)) (by
      intro i hi
      obtain ⟨cs', h1, h2⟩ := hx i (by omega)
      have hDi : Rows.uptoBulk (D i) ≤ Rows.uptoBulkAll ((List.range len).map D) := n_bulk_part (List.mem_map.2 ⟨i, List.mem_range.2 hi, rfl⟩)
      obtain ⟨c, e, kv, vv, rfl, hc, ok⟩ := open_part h2 (by simp only; omega)
      obtain ⟨_, hlen, hcc⟩ := World.cells?_some h1
      refine ⟨(c, e, kv, vv), ⟨fun j v hv => ?_, hc, ok⟩, bulk_one _⟩
      have hj := (List.getElem?_eq_some_iff.1 hv).1
      have := hcc j hj
      rw [this, ← hv, List.getElem?_eq_getElem hj])
    have hbl := n_bulk_len D (List.range len) (fun i hi => (hf i (List.mem_range.1 hi)).2)
    rw [List.length_range] at hbl
    refine ⟨_, (List.range len).map fun i => ((f i).1, (f i).2.1), rfl, ⟨some a, cap, (List.range len).map f, by simp, by simp, by simpa using hl, by unfold maxLen at hm; omega, ?_, ?_⟩, by simp; omega⟩
    · intro t ht
      obtain ⟨i, hi, rfl⟩ := List.mem_map.1 ht
      exact (hf i (List.mem_range.1 hi)).1.2
    · intro hp
      obtain ⟨b, off, spot⟩ := a
      have hp' : 0 < len := by simpa using hp
      have h0 := (hf 0 hp').1
      have hc0 := h0.1 0 _ rfl
      have hspot : spot = none := by simpa [Addr.add] using World.cell?_spot hc0
      subst hspot
      refine ⟨b, off, rfl, fun i hi => ?_⟩
      have hi' : i < len := by simpa using hi
      have e9 : ((List.range len).map f)[i] = f i := by simp
      rw [e9]
      intro j u hj
      have c0 := (hf i hi').1.1 j u hj
      rw [Addr.add_mid, Addr.add_mid] at c0
      exact c0
end
end Go.Proofs.YtckkalmhekfnhabGreatDoor
