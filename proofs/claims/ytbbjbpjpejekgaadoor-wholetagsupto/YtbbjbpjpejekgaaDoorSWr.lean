import Derived.Test.YtbbjbpjpejekgaaDoorSSt
namespace Go.Proofs.YtbbjbpjpejekgaaDoor
open Go.RowKit
set_option linter.unusedVariables false
set_option linter.unusedSimpArgs false

theorem eight {l : List Nat} (h : l.length = 8) : ∃ a b c d e f g i, l = [a, b, c, d, e, f, g, i] := by
  match l, h with
  | [a, b, c, d, e, f, g, i], _ => exact ⟨a, b, c, d, e, f, g, i, rfl⟩
theorem sixtyfour {l : List Nat} (h : l.length = 64) : ∃ z0 z1 z2 z3 z4 z5 z6 z7 z8 z9 z10 z11 z12 z13 z14 z15 z16 z17 z18 z19 z20 z21 z22 z23 z24 z25 z26 z27 z28 z29 z30 z31 z32 z33 z34 z35 z36 z37 z38 z39 z40 z41 z42 z43 z44 z45 z46 z47 z48 z49 z50 z51 z52 z53 z54 z55 z56 z57 z58 z59 z60 z61 z62 z63, l = [z0, z1, z2, z3, z4, z5, z6, z7, z8, z9, z10, z11, z12, z13, z14, z15, z16, z17, z18, z19, z20, z21, z22, z23, z24, z25, z26, z27, z28, z29, z30, z31, z32, z33, z34, z35, z36, z37, z38, z39, z40, z41, z42, z43, z44, z45, z46, z47, z48, z49, z50, z51, z52, z53, z54, z55, z56, z57, z58, z59, z60, z61, z62, z63] := by
  obtain ⟨z0, z1, z2, z3, z4, z5, z6, z7, e0⟩ := eight (l := (l.drop 0).take 8) (by simp; omega)
  obtain ⟨z8, z9, z10, z11, z12, z13, z14, z15, e1⟩ := eight (l := (l.drop 8).take 8) (by simp; omega)
  obtain ⟨z16, z17, z18, z19, z20, z21, z22, z23, e2⟩ := eight (l := (l.drop 16).take 8) (by simp; omega)
  obtain ⟨z24, z25, z26, z27, z28, z29, z30, z31, e3⟩ := eight (l := (l.drop 24).take 8) (by simp; omega)
  obtain ⟨z32, z33, z34, z35, z36, z37, z38, z39, e4⟩ := eight (l := (l.drop 32).take 8) (by simp; omega)
  obtain ⟨z40, z41, z42, z43, z44, z45, z46, z47, e5⟩ := eight (l := (l.drop 40).take 8) (by simp; omega)
  obtain ⟨z48, z49, z50, z51, z52, z53, z54, z55, e6⟩ := eight (l := (l.drop 48).take 8) (by simp; omega)
  obtain ⟨z56, z57, z58, z59, z60, z61, z62, z63, e7⟩ := eight (l := (l.drop 56).take 8) (by simp; omega)
  refine ⟨z0, z1, z2, z3, z4, z5, z6, z7, z8, z9, z10, z11, z12, z13, z14, z15, z16, z17, z18, z19, z20, z21, z22, z23, z24, z25, z26, z27, z28, z29, z30, z31, z32, z33, z34, z35, z36, z37, z38, z39, z40, z41, z42, z43, z44, z45, z46, z47, z48, z49, z50, z51, z52, z53, z54, z55, z56, z57, z58, z59, z60, z61, z62, z63, ?_⟩
  have e : l = (l.drop 0).take 8 ++ ((l.drop 8).take 8 ++ ((l.drop 16).take 8 ++ ((l.drop 24).take 8 ++ ((l.drop 32).take 8 ++ ((l.drop 40).take 8 ++ ((l.drop 48).take 8 ++ (l.drop 56).take 8)))))) := by
    have s : ∀ a, (l.drop a) = (l.drop a).take 8 ++ l.drop (a + 8) := fun a => by rw [← List.drop_drop, List.take_append_drop]
    have h64 : l.drop 64 = [] := List.drop_eq_nil_of_le (by omega)
    have := s 56
    rw [show 56 + 8 = 64 from rfl, h64, List.append_nil] at this
    rw [← this, ← s 48, ← s 40, ← s 32, ← s 24, ← s 16, ← s 8, ← s 0, List.drop_zero]
  rw [e, e0, e1, e2, e3, e4, e5, e6, e7]; rfl
/-- Loads and stores of whole arrays, under names: not opened cell by cell. -/
noncomputable def LdB (p : Value) : Sem Value := Instr.loadAt 115 p
theorem ldB (p : Value) : Instr.loadAt 115 p = LdB p := rfl
noncomputable def LdW (p : Value) : Sem Value := Instr.loadAt 114 p
theorem ldW (p : Value) : Instr.loadAt 114 p = LdW p := rfl
noncomputable def StW (p v : Value) : Sem Unit := Instr.storeAt 114 p v
theorem stW (p v : Value) : Instr.storeAt 114 p v = StW p v := rfl
attribute [local go_sem ↓] ldB ldW stW
theorem rng_set {w : World} {g i : Nat} {v : Value} {cs : List Value} (h : w.rangeAt g 8 cs) (hi : i < 8) : (w.setCell ⟨g, i, none⟩ v).rangeAt g 8 cs :=
  World.rangeAt_setCells_apart h g i [v] (Or.inr (Or.inr (by simp; omega)))
theorem Rd.tail {w : World} {b o c : Nat} {q : List Nat} (h : Rd w (.slice (some ⟨b, o, none⟩) q.length c) q) (n : Nat) (hn : n ≤ q.length) :
    Rd w (.slice (if c = n then some ⟨b, o, none⟩ else some ⟨b, o + n, none⟩) (q.drop n).length (c - n)) (q.drop n) := by
  obtain ⟨ao, len, cap, he, h1, h2, ⟨h3, h3'⟩, h4, h5, h6⟩ := h
  cases he
  refine ⟨_, _, _, rfl, rfl, by simp; omega, ⟨by omega, by simp; omega⟩, by split <;> simp, fun x hx => h5 x (List.mem_of_mem_drop hx), fun hp => ?_⟩
  simp at hp
  obtain ⟨b', o', he, hc⟩ := h6 (by omega)
  cases he
  refine ⟨b, o + n, by rw [if_neg (by omega)], fun i hi => ?_⟩
  simp at hi
  rw [show o + n + i = o + (n + i) by omega, hc (n + i) (by omega)]
  simp [List.getD_eq_getElem?_getD, List.getElem?_drop]
theorem Rd.kept1 {L : List Nat} {w w' : World} {v : Value} {bs : List Nat} (h : Rd w v bs) (k : Kept L w w') (hn : 0 < bs.length → ∀ x ∈ blk v, x ∉ L) : Rd w' v bs := by
  obtain ⟨ao, len, cap, rfl, rfl, h2, h3, h4, h5, h6⟩ := h
  refine ⟨ao, _, cap, rfl, rfl, h2, h3, h4, h5, fun hp => ?_⟩
  obtain ⟨b, off, rfl, hc⟩ := h6 hp
  exact ⟨b, off, rfl, fun i hi => k.cell (hc i hi) (hn hp b (by simp [blk]))⟩
/-- The State at g has taken in the text t. -/
def St (w : World) (g : Nat) (t : List Nat) : Prop := ∃ ws bl, StAt w g ws bl t.length ∧ (t ≠ [] → ws = chain h0 t) ∧ bl.take (t.length % 64) = rest t
theorem St.kept {L : List Nat} {w w' : World} {g : Nat} {t : List Nat} (h : St w g t) (k : Kept L w w') (hg : g ∉ L) : St w' g t := by
  obtain ⟨ws, bl, h1, h2⟩ := h; exact ⟨ws, bl, h1.kept k hg, h2⟩
def sliceLen : Value → Nat
  | .slice _ n _ => n
  | _ => 0

set_option maxRecDepth 100000 in
set_option maxHeartbeats 1000000 in
theorem write_any (g : Nat) (t : List Nat) (v : Value) (p : List Nat) (w : World) (hst : St w g t) (hp : Rd w v p) (hg : 0 < p.length → g ∉ blk v) (hg2 : 1 < g) (hl : t.length + p.length < 9223372036854775807) (hT : Tabs w) :
    Calls Tryd.prog 56 #[.pointer (some ⟨g, 0, none⟩), v] w fun e w' => e = .returned (.tuple #[]) ∧ St w' g (t ++ p) ∧ Kept [g] w w' := by
  obtain ⟨ws, bl, hs, hw, hb⟩ := hst
  have HT := hide hT
  have HP := hide hp
  have HS := hide hs
  have cn := hs.count
  obtain ⟨ao, len, cap, rfl, rfl, h2, ⟨h3, h3'⟩, h4, h5, h6⟩ := hp
  have H5 := hide h5
  have H6 := hide h6
  have HB := hide hb
  have HW := hide hw
  have hsz8 : (Tryd.prog.info? 114).map (·.size) = some (h0.map wv).length := Tryd.size_a8
  have HSZ := hide hsz8
  clear hT hs hb hw h4 h5 h6 hsz8
  by_cases h0' : t.length = 0
  · have ht : t = [] := List.eq_nil_of_length_eq_zero h0'
    subst ht
    go_enter Tryd.func56, Tryd.ntmps56
    go_wp2_with (first
      | (refine wpList_load_mid rfl 114 (.global 0) rfl 0 0 rfl (h0.map wv) _ (unhide HT).first Tryd.underlying114 rfl (unhide HSZ) ?_)
      | (refine wpList_store_mid rfl 114 _ _ rfl g 0 (row h0) rfl rfl ((unhide HS).there 0 8 (by omega)) Tryd.size_a8 (row_one _) ?_))
    have KK0 := hide ((unhide HS).setWords h0_wds).2
    have SS0 := hide ((unhide HS).setWords h0_wds).1
    have CC0 := hide (chain_short (by decide) : chain h0 [] = h0).symm
    simp only [Act.put]
    go_loopw [1] (fun t1 wr => ∃ (u : Option Addr) (c : Nat) (t' q ws' bl' : List Nat), t1 = .slice u q.length c ∧ Hid (Rd wr (.slice u q.length c) q) ∧ Hid (0 < q.length → g ∉ blk (.slice u q.length c)) ∧ Hid (([] : List Nat) ++ p = t' ++ q) ∧ Hid (StAt wr g ws' bl' t'.length) ∧ Hid (ws' = chain h0 t') ∧ Hid (bl'.take (t'.length % 64) = rest t') ∧ Hid (Kept [g] w wr)) (fun t _ => sliceLen t)
    case atStart => exact ⟨ao, cap, ([] : List Nat), p, h0, bl, rfl, hide ((unhide HP).kept1 (L := [g]) (unhide KK0) (by intro h0 x hx; simp; rintro rfl; exact hg h0 hx)), hide hg, hide rfl, SS0, CC0, HB, KK0⟩
    case round =>
      obtain ⟨u, c, t', q, ws', bl', rfl, HQ, HGB, HE, HS', HC, HBR, HK⟩ := hrel
      by_cases hq0 : 0 < q.length
      · have hq0' : (0 : Int) < q.length := by omega
        have hlen := congrArg List.length (unhide HE)
        simp only [List.length_append] at hlen
        obtain ⟨u', len', c', hev, _, hqc, ⟨hc3, hc4⟩, hu0, hqb, hu⟩ := id (unhide HQ)
        cases hev
        obtain ⟨b, o, rfl, hcell⟩ := hu hq0
        obtain ⟨a, ha⟩ : ∃ a, t'.length % 64 = a := ⟨_, rfl⟩
        have ha64 : a < 64 := by omega
        have cn' := (unhide HS').count
        have hat : (t'.length : Int) % 64 = (a : Int) := by omega
        obtain ⟨n, hn, hn1, hnq⟩ : ∃ n, n = Nat.min q.length (64 - a) ∧ n ≤ 64 - a ∧ n ≤ q.length := ⟨_, rfl, Nat.min_le_right _ _, Nat.min_le_left _ _⟩
        have hn0 : 0 < n := by rw [hn]; simp only [Nat.min_def]; split <;> omega
        have hql : (q.take n).length = n := by simp; omega
        have hcs : ((q.take n).map u8).length = n := by simp; omega
        obtain ⟨W1, hcopy, hW1⟩ : ∃ W1, (Builtin.copy_ #[24, 24] 3 #[.slice (some ⟨g, 8 + a, none⟩) (64 - a) (64 - a), .slice (some ⟨b, o, none⟩) q.length c]).run Tryd.prog wr = .ok (goInt n) W1 ∧ W1 = wr.setRow g ((stc ws' bl' t'.length).take (8 + a) ++ (q.take n).map u8 ++ (stc ws' bl' t'.length).drop (8 + a + (q.take n).length)).toArray := by
          have h1 := run_copy_row (P := Tryd.prog) wr 24 24 3 5 g (8 + a) (64 - a) (64 - a) ⟨b, o, none⟩ q.length c (stc ws' bl' t'.length).toArray 117 ((q.take n).map u8) Tryd.underlying24 Tryd.size5 (unhide HS').1 (by rw [hcs, hn])
            (fun j v hv => by
              have hj := (List.getElem?_eq_some_iff.1 hv).1
              rw [hcs] at hj
              rw [Addr.add_mid, hcell j (by omega), ← hv, List.getElem?_map, List.getElem?_take, if_pos hj, List.getD_eq_getElem?_getD, List.getElem?_eq_getElem (show j < q.length by omega)]; rfl)
            (by rw [hcs, List.size_toArray, stc_len _ (unhide HS').2.1.1 (unhide HS').2.2.1]; omega) (u8_oneCell _)
          rw [hcs] at h1
          rw [hql]
          exact ⟨_, by simpa using h1, rfl⟩
        have hqb' : ∀ x ∈ q.take n, x < 256 := fun x hx => hqb x (List.mem_of_mem_take hx)
        have HS1 := hide (by rw [hW1]; exact (unhide HS').setBlock (a := a) (q := q.take n) (by omega) hqb' : StAt W1 g ws' (bl'.take a ++ q.take n ++ bl'.drop (a + (q.take n).length)) t'.length)
        have HK1 := hide (by rw [hW1]; exact (Kept.refl [g] wr).setRow (by simp) _ : Kept [g] wr W1)
        rw [hql] at HS1
        have hcase : (n = q.length ∧ n ≤ 64 - a) ∨ (n = 64 - a ∧ n ≤ q.length) := by rw [hn]; simp only [Nat.min_def]; split <;> omega
        clear hW1 hcs hn
        have HRT := hide (fun W (k : Kept [g] wr W) => ((unhide HQ).kept1 k (by intro h0 x hx; simp; rintro rfl; exact unhide HGB h0 hx)).tail n hnq : ∀ W, Kept [g] wr W → Rd W (.slice (if c = n then some ⟨b, o, none⟩ else some ⟨b, o + n, none⟩) (q.drop n).length (c - n)) (q.drop n))
        have HGB2 := hide (by intro _; have := unhide HGB hq0; split <;> simpa [blk] using this : 0 < (q.drop n).length → g ∉ blk (.slice (if c = n then some ⟨b, o, none⟩ else some ⟨b, o + n, none⟩) (q.drop n).length (c - n)))
        have HE2 := hide (by rw [unhide HE, List.append_assoc, List.take_append_drop] : ([] : List Nat) ++ p = (t' ++ q.take n) ++ q.drop n)
        have htl : (t' ++ q.take n).length = t'.length + n := by rw [List.length_append, hql]
        have Htl := hide htl
        have Hql := hide hql
        clear htl hql hqb hqb' hcell hu hu0
        have HBR2 := hide (by rw [ha] at HBR; exact unhide HBR : bl'.take a = rest t')
        have hrl : (rest t').length = a := by rw [rest_len, ha]
        have cn1 := (unhide HS1).count
        have fn1 := (unhide HS1).frozen 72
        have hna : (a : Int) ≤ 64 := by omega
        have hnc : (n : Int) ≤ (q.length : Int) := by omega
        have hqcI : (q.length : Int) ≤ (c : Int) := by omega
        by_cases hfull : a + n = 64
        · have hfull' : (a : Int) + n = 64 := by omega
          have hfb : ((a : Int) + n == 64) = true := by rw [beq_iff_eq]; omega
          have hl64 : (rest t').length + (q.take n).length = 64 := by rw [hrl, unhide Hql]; omega
          have hbn : bl'.take a ++ q.take n ++ bl'.drop (a + n) = rest t' ++ q.take n := by rw [hfull, List.drop_eq_nil_of_le (by rw [(unhide HS').2.2.1]; omega), List.append_nil, unhide HBR2]
          rw [hbn] at HS1
          have HCN := hide (by rw [chain_push h0 t' _ hl64, unhide HC] : comp ws' (rest t' ++ q.take n) = chain h0 (t' ++ q.take n))
          have HBN := hide (by rw [rest_full t' (q.take n) hl64, unhide Htl, show (t'.length + n) % 64 = 0 by omega]; rfl : (rest t' ++ q.take n).take ((t' ++ q.take n).length % 64) = rest (t' ++ q.take n))
          have hrb := (unhide HS1).2.2
          have HT1 := hide (((unhide HT).kept (unhide HK) (by simp; omega) (by simp; omega)).kept (unhide HK1) (by simp; omega) (by simp; omega))
          have HZ1 := hide (by rw [List.length_map, (unhide HS1).2.1.1]; exact Tryd.size_a8 : (Tryd.prog.info? 114).map (·.size) = some (ws'.map wv).length)
          have HZ2 := hide (by rw [List.length_map, (unhide HS1).2.2.1]; exact Tryd.size_a64b : (Tryd.prog.info? 115).map (·.size) = some ((rest t' ++ q.take n).map Go.Proofs.YtbbjbpjpejekgaaDoor.u8).length)
          clear hcase hbn
          obtain ⟨BL, hBL⟩ : ∃ BL, rest t' ++ q.take n = BL := ⟨_, rfl⟩
          rw [hBL] at HS1 HCN HBN hrb HZ2
          have HRB := hide hrb
          clear hrb hBL
          go_wp2
          have HCA := hide (compress_any ws' BL W1.drew (unhide HS1).2.1 (unhide HRB).1 (unhide HRB).2 (((unhide HT1).kept ((Kept.refl [] W1).drew) (by simp) (by simp)).1))
          have HS1d := hide ((unhide HS1).kept ((Kept.refl [] W1).drew) (by simp))
          have HCW := hide (comp_wds ws' BL)
          have lB : (LdB (.pointer (some ⟨g, 8, none⟩))).run Tryd.prog W1.drew = .ok (.agg (brow BL)) W1.drew := run_loadAt_mid (P := Tryd.prog) W1.drew g 8 115 (BL.map Go.Proofs.YtbbjbpjpejekgaaDoor.u8) _ (unhide HS1d).block Tryd.underlying115 rfl (unhide HZ2)
          have lW : (LdW (.pointer (some ⟨g, 0, none⟩))).run Tryd.prog W1.drew = .ok (.agg (row ws')) W1.drew := run_loadAt_mid (P := Tryd.prog) W1.drew g 0 114 (ws'.map wv) _ (unhide HS1d).words Tryd.underlying114 rfl (unhide HZ1)
          generalize comp ws' BL = cw at HCA HCN HCW
          go_region_with (go_at_call 81; refine (unhide HCA).mono ?_; rintro e9 w9 ⟨rfl, k9⟩; have HS9 := hide ((unhide HS1d).kept k9 (by simp)); have HK9 := hide k9; have sW : (StW (.pointer (some ⟨g, 0, none⟩)) (.agg (row cw))).run Tryd.prog w9 = .ok () (w9.setCells g 0 (row cw).toList) := run_storeAt_mid (P := Tryd.prog) w9 g 0 114 (row cw) ((unhide HS9).there 0 _ (by rw [row_size, (unhide HCW).1]; omega)) (by rw [row_size, (unhide HCW).1]; exact Tryd.size_a8) (row_one _); clear k9)
          all_goals
            have HSW := (unhide HS9).setWords (unhide HCW)
            have HSX := hide HSW.1
            have HKX := hide HSW.2
            obtain ⟨W2, hW2⟩ : ∃ W2, w9.setCells g 0 (row cw).toList = W2 := ⟨_, rfl⟩
            rw [hW2] at HSX HKX ⊢
            clear HSW hW2 sW lB lW
            have cn2 := (unhide HSX).count
            have fn2 := (unhide HSX).frozen 72
            have HSN := hide (by rw [unhide Htl]; exact (unhide HSX).setCount (t'.length + n) : StAt (W2.setCell ⟨g, 72, none⟩ (.int .u64 ((t'.length + n : Nat) : Int))) g cw BL (t' ++ q.take n).length)
            have HKN := hide ((((unhide HK1).trans ((Kept.refl [] W1).drew) (by simp)).trans (unhide HK9) (by simp)).trans (unhide HKX) (by simp) |>.setCell (p := ⟨g, 72, none⟩) (by simp) (.int .u64 ((t'.length + n : Nat) : Int)))
            have hcast : ((t'.length + n : Nat) : Int) = (t'.length : Int) + n := by omega
            rw [hcast] at HSN HKN
            clear hcast cn1 fn1
            go_wp2
            go_roundw
            case rel => exact ⟨_, _, t' ++ q.take n, q.drop n, cw, BL, by simp, unhide HRT _ (unhide HKN), HGB2, HE2, HSN, HCN, HBN, hide ((unhide HK).trans (unhide HKN) (by simp))⟩
            case measure => simp [sliceLen]; omega
        · have hfull' : ((a : Int) + n == 64) = false := by rw [beq_eq_false_iff_ne]; omega
          have hlt64 : (rest t').length + (q.take n).length < 64 := by rw [hrl, unhide Hql]; omega
          have HBN := hide (by
            rw [rest_keep t' (q.take n) hlt64, ← unhide HBR2, unhide Htl, show (t'.length + n) % 64 = a + n by omega]
            rw [List.append_assoc, List.take_append, List.take_of_length_le (by rw [List.length_take]; omega), List.length_take, (unhide HS').2.2.1, Nat.min_eq_left (by omega), show a + n - a = n by omega, List.take_append_of_le_length (by rw [unhide Hql]; omega), List.take_take, Nat.min_self] : (bl'.take a ++ q.take n ++ bl'.drop (a + n)).take ((t' ++ q.take n).length % 64) = rest (t' ++ q.take n))
          have HCN := hide (by rw [chain_keep h0 t' _ hlt64]; exact unhide HC : ws' = chain h0 (t' ++ q.take n))
          have HSN := hide (by rw [unhide Htl]; exact (unhide HS1).setCount (t'.length + n) : StAt (W1.setCell ⟨g, 72, none⟩ (.int .u64 ((t'.length + n : Nat) : Int))) g ws' (bl'.take a ++ q.take n ++ bl'.drop (a + n)) (t' ++ q.take n).length)
          have HKN := hide ((unhide HK1).setCell (p := ⟨g, 72, none⟩) (by simp) (.int .u64 ((t'.length + n : Nat) : Int)))
          have hcast : ((t'.length + n : Nat) : Int) = (t'.length : Int) + n := by omega
          rw [hcast] at HSN HKN
          clear hcast hcase
          go_wp2
          go_roundw
          case rel => exact ⟨_, _, t' ++ q.take n, q.drop n, ws', _, by simp, unhide HRT _ (unhide HKN), HGB2, HE2, HSN, HCN, HBN, hide ((unhide HK).trans (unhide HKN) (by simp))⟩
          case measure => simp [sliceLen]; omega
      · have hq0' : ¬ (0 : Int) < q.length := by omega
        have hqn : q = [] := List.eq_nil_of_length_eq_zero (by omega)
        subst hqn
        have HE3 := hide (by have := unhide HE; rw [List.append_nil] at this; exact this)
        clear HE
        go_wp2
        go_end0
        have hE := unhide HE3
        have hF : St wr g t' := ⟨ws', bl', unhide HS', fun _ => unhide HC, unhide HBR⟩
        rw [← hE] at hF
        exact ⟨rfl, by simpa using hF, unhide HK⟩
  · have h0'' : ((t.length : Int) == 0) = false := by rw [beq_eq_false_iff_ne]; omega
    have ht : t ≠ [] := fun e => h0' (by rw [e]; rfl)
    have KK0 := hide (Kept.refl [g] w)
    have SS0 := HS
    have CC0 := hide (unhide HW ht)
    clear h0'
    go_enter Tryd.func56, Tryd.ntmps56
    go_wp2
    go_loopw [1] (fun t1 wr => ∃ (u : Option Addr) (c : Nat) (t' q ws' bl' : List Nat), t1 = .slice u q.length c ∧ Hid (Rd wr (.slice u q.length c) q) ∧ Hid (0 < q.length → g ∉ blk (.slice u q.length c)) ∧ Hid (t ++ p = t' ++ q) ∧ Hid (StAt wr g ws' bl' t'.length) ∧ Hid (ws' = chain h0 t') ∧ Hid (bl'.take (t'.length % 64) = rest t') ∧ Hid (Kept [g] w wr)) (fun t _ => sliceLen t)
    case atStart => exact ⟨ao, cap, t, p, ws, bl, rfl, hide ((unhide HP).kept1 (L := [g]) (unhide KK0) (by intro h0 x hx; simp; rintro rfl; exact hg h0 hx)), hide hg, hide rfl, SS0, CC0, HB, KK0⟩
    case round =>
      obtain ⟨u, c, t', q, ws', bl', rfl, HQ, HGB, HE, HS', HC, HBR, HK⟩ := hrel
      by_cases hq0 : 0 < q.length
      · have hq0' : (0 : Int) < q.length := by omega
        have hlen := congrArg List.length (unhide HE)
        simp only [List.length_append] at hlen
        obtain ⟨u', len', c', hev, _, hqc, ⟨hc3, hc4⟩, hu0, hqb, hu⟩ := id (unhide HQ)
        cases hev
        obtain ⟨b, o, rfl, hcell⟩ := hu hq0
        obtain ⟨a, ha⟩ : ∃ a, t'.length % 64 = a := ⟨_, rfl⟩
        have ha64 : a < 64 := by omega
        have cn' := (unhide HS').count
        have hat : (t'.length : Int) % 64 = (a : Int) := by omega
        obtain ⟨n, hn, hn1, hnq⟩ : ∃ n, n = Nat.min q.length (64 - a) ∧ n ≤ 64 - a ∧ n ≤ q.length := ⟨_, rfl, Nat.min_le_right _ _, Nat.min_le_left _ _⟩
        have hn0 : 0 < n := by rw [hn]; simp only [Nat.min_def]; split <;> omega
        have hql : (q.take n).length = n := by simp; omega
        have hcs : ((q.take n).map u8).length = n := by simp; omega
        obtain ⟨W1, hcopy, hW1⟩ : ∃ W1, (Builtin.copy_ #[24, 24] 3 #[.slice (some ⟨g, 8 + a, none⟩) (64 - a) (64 - a), .slice (some ⟨b, o, none⟩) q.length c]).run Tryd.prog wr = .ok (goInt n) W1 ∧ W1 = wr.setRow g ((stc ws' bl' t'.length).take (8 + a) ++ (q.take n).map u8 ++ (stc ws' bl' t'.length).drop (8 + a + (q.take n).length)).toArray := by
          have h1 := run_copy_row (P := Tryd.prog) wr 24 24 3 5 g (8 + a) (64 - a) (64 - a) ⟨b, o, none⟩ q.length c (stc ws' bl' t'.length).toArray 117 ((q.take n).map u8) Tryd.underlying24 Tryd.size5 (unhide HS').1 (by rw [hcs, hn])
            (fun j v hv => by
              have hj := (List.getElem?_eq_some_iff.1 hv).1
              rw [hcs] at hj
              rw [Addr.add_mid, hcell j (by omega), ← hv, List.getElem?_map, List.getElem?_take, if_pos hj, List.getD_eq_getElem?_getD, List.getElem?_eq_getElem (show j < q.length by omega)]; rfl)
            (by rw [hcs, List.size_toArray, stc_len _ (unhide HS').2.1.1 (unhide HS').2.2.1]; omega) (u8_oneCell _)
          rw [hcs] at h1
          rw [hql]
          exact ⟨_, by simpa using h1, rfl⟩
        have hqb' : ∀ x ∈ q.take n, x < 256 := fun x hx => hqb x (List.mem_of_mem_take hx)
        have HS1 := hide (by rw [hW1]; exact (unhide HS').setBlock (a := a) (q := q.take n) (by omega) hqb' : StAt W1 g ws' (bl'.take a ++ q.take n ++ bl'.drop (a + (q.take n).length)) t'.length)
        have HK1 := hide (by rw [hW1]; exact (Kept.refl [g] wr).setRow (by simp) _ : Kept [g] wr W1)
        rw [hql] at HS1
        have hcase : (n = q.length ∧ n ≤ 64 - a) ∨ (n = 64 - a ∧ n ≤ q.length) := by rw [hn]; simp only [Nat.min_def]; split <;> omega
        clear hW1 hcs hn
        have HRT := hide (fun W (k : Kept [g] wr W) => ((unhide HQ).kept1 k (by intro h0 x hx; simp; rintro rfl; exact unhide HGB h0 hx)).tail n hnq : ∀ W, Kept [g] wr W → Rd W (.slice (if c = n then some ⟨b, o, none⟩ else some ⟨b, o + n, none⟩) (q.drop n).length (c - n)) (q.drop n))
        have HGB2 := hide (by intro _; have := unhide HGB hq0; split <;> simpa [blk] using this : 0 < (q.drop n).length → g ∉ blk (.slice (if c = n then some ⟨b, o, none⟩ else some ⟨b, o + n, none⟩) (q.drop n).length (c - n)))
        have HE2 := hide (by rw [unhide HE, List.append_assoc, List.take_append_drop] : t ++ p = (t' ++ q.take n) ++ q.drop n)
        have htl : (t' ++ q.take n).length = t'.length + n := by rw [List.length_append, hql]
        have Htl := hide htl
        have Hql := hide hql
        clear htl hql hqb hqb' hcell hu hu0
        have HBR2 := hide (by rw [ha] at HBR; exact unhide HBR : bl'.take a = rest t')
        have hrl : (rest t').length = a := by rw [rest_len, ha]
        have cn1 := (unhide HS1).count
        have fn1 := (unhide HS1).frozen 72
        have hna : (a : Int) ≤ 64 := by omega
        have hnc : (n : Int) ≤ (q.length : Int) := by omega
        have hqcI : (q.length : Int) ≤ (c : Int) := by omega
        by_cases hfull : a + n = 64
        · have hfull' : (a : Int) + n = 64 := by omega
          have hfb : ((a : Int) + n == 64) = true := by rw [beq_iff_eq]; omega
          have hl64 : (rest t').length + (q.take n).length = 64 := by rw [hrl, unhide Hql]; omega
          have hbn : bl'.take a ++ q.take n ++ bl'.drop (a + n) = rest t' ++ q.take n := by rw [hfull, List.drop_eq_nil_of_le (by rw [(unhide HS').2.2.1]; omega), List.append_nil, unhide HBR2]
          rw [hbn] at HS1
          have HCN := hide (by rw [chain_push h0 t' _ hl64, unhide HC] : comp ws' (rest t' ++ q.take n) = chain h0 (t' ++ q.take n))
          have HBN := hide (by rw [rest_full t' (q.take n) hl64, unhide Htl, show (t'.length + n) % 64 = 0 by omega]; rfl : (rest t' ++ q.take n).take ((t' ++ q.take n).length % 64) = rest (t' ++ q.take n))
          have hrb := (unhide HS1).2.2
          have HT1 := hide (((unhide HT).kept (unhide HK) (by simp; omega) (by simp; omega)).kept (unhide HK1) (by simp; omega) (by simp; omega))
          have HZ1 := hide (by rw [List.length_map, (unhide HS1).2.1.1]; exact Tryd.size_a8 : (Tryd.prog.info? 114).map (·.size) = some (ws'.map wv).length)
          have HZ2 := hide (by rw [List.length_map, (unhide HS1).2.2.1]; exact Tryd.size_a64b : (Tryd.prog.info? 115).map (·.size) = some ((rest t' ++ q.take n).map Go.Proofs.YtbbjbpjpejekgaaDoor.u8).length)
          clear hcase hbn
          obtain ⟨BL, hBL⟩ : ∃ BL, rest t' ++ q.take n = BL := ⟨_, rfl⟩
          rw [hBL] at HS1 HCN HBN hrb HZ2
          have HRB := hide hrb
          clear hrb hBL
          go_wp2
          have HCA := hide (compress_any ws' BL W1.drew (unhide HS1).2.1 (unhide HRB).1 (unhide HRB).2 (((unhide HT1).kept ((Kept.refl [] W1).drew) (by simp) (by simp)).1))
          have HS1d := hide ((unhide HS1).kept ((Kept.refl [] W1).drew) (by simp))
          have HCW := hide (comp_wds ws' BL)
          have lB : (LdB (.pointer (some ⟨g, 8, none⟩))).run Tryd.prog W1.drew = .ok (.agg (brow BL)) W1.drew := run_loadAt_mid (P := Tryd.prog) W1.drew g 8 115 (BL.map Go.Proofs.YtbbjbpjpejekgaaDoor.u8) _ (unhide HS1d).block Tryd.underlying115 rfl (unhide HZ2)
          have lW : (LdW (.pointer (some ⟨g, 0, none⟩))).run Tryd.prog W1.drew = .ok (.agg (row ws')) W1.drew := run_loadAt_mid (P := Tryd.prog) W1.drew g 0 114 (ws'.map wv) _ (unhide HS1d).words Tryd.underlying114 rfl (unhide HZ1)
          generalize comp ws' BL = cw at HCA HCN HCW
          go_region_with (go_at_call 81; refine (unhide HCA).mono ?_; rintro e9 w9 ⟨rfl, k9⟩; have HS9 := hide ((unhide HS1d).kept k9 (by simp)); have HK9 := hide k9; have sW : (StW (.pointer (some ⟨g, 0, none⟩)) (.agg (row cw))).run Tryd.prog w9 = .ok () (w9.setCells g 0 (row cw).toList) := run_storeAt_mid (P := Tryd.prog) w9 g 0 114 (row cw) ((unhide HS9).there 0 _ (by rw [row_size, (unhide HCW).1]; omega)) (by rw [row_size, (unhide HCW).1]; exact Tryd.size_a8) (row_one _); clear k9)
          all_goals
            have HSW := (unhide HS9).setWords (unhide HCW)
            have HSX := hide HSW.1
            have HKX := hide HSW.2
            obtain ⟨W2, hW2⟩ : ∃ W2, w9.setCells g 0 (row cw).toList = W2 := ⟨_, rfl⟩
            rw [hW2] at HSX HKX ⊢
            clear HSW hW2 sW lB lW
            have cn2 := (unhide HSX).count
            have fn2 := (unhide HSX).frozen 72
            have HSN := hide (by rw [unhide Htl]; exact (unhide HSX).setCount (t'.length + n) : StAt (W2.setCell ⟨g, 72, none⟩ (.int .u64 ((t'.length + n : Nat) : Int))) g cw BL (t' ++ q.take n).length)
            have HKN := hide ((((unhide HK1).trans ((Kept.refl [] W1).drew) (by simp)).trans (unhide HK9) (by simp)).trans (unhide HKX) (by simp) |>.setCell (p := ⟨g, 72, none⟩) (by simp) (.int .u64 ((t'.length + n : Nat) : Int)))
            have hcast : ((t'.length + n : Nat) : Int) = (t'.length : Int) + n := by omega
            rw [hcast] at HSN HKN
            clear hcast cn1 fn1
            go_wp2
            go_roundw
            case rel => exact ⟨_, _, t' ++ q.take n, q.drop n, cw, BL, by simp, unhide HRT _ (unhide HKN), HGB2, HE2, HSN, HCN, HBN, hide ((unhide HK).trans (unhide HKN) (by simp))⟩
            case measure => simp [sliceLen]; omega
        · have hfull' : ((a : Int) + n == 64) = false := by rw [beq_eq_false_iff_ne]; omega
          have hlt64 : (rest t').length + (q.take n).length < 64 := by rw [hrl, unhide Hql]; omega
          have HBN := hide (by
            rw [rest_keep t' (q.take n) hlt64, ← unhide HBR2, unhide Htl, show (t'.length + n) % 64 = a + n by omega]
            rw [List.append_assoc, List.take_append, List.take_of_length_le (by rw [List.length_take]; omega), List.length_take, (unhide HS').2.2.1, Nat.min_eq_left (by omega), show a + n - a = n by omega, List.take_append_of_le_length (by rw [unhide Hql]; omega), List.take_take, Nat.min_self] : (bl'.take a ++ q.take n ++ bl'.drop (a + n)).take ((t' ++ q.take n).length % 64) = rest (t' ++ q.take n))
          have HCN := hide (by rw [chain_keep h0 t' _ hlt64]; exact unhide HC : ws' = chain h0 (t' ++ q.take n))
          have HSN := hide (by rw [unhide Htl]; exact (unhide HS1).setCount (t'.length + n) : StAt (W1.setCell ⟨g, 72, none⟩ (.int .u64 ((t'.length + n : Nat) : Int))) g ws' (bl'.take a ++ q.take n ++ bl'.drop (a + n)) (t' ++ q.take n).length)
          have HKN := hide ((unhide HK1).setCell (p := ⟨g, 72, none⟩) (by simp) (.int .u64 ((t'.length + n : Nat) : Int)))
          have hcast : ((t'.length + n : Nat) : Int) = (t'.length : Int) + n := by omega
          rw [hcast] at HSN HKN
          clear hcast hcase
          go_wp2
          go_roundw
          case rel => exact ⟨_, _, t' ++ q.take n, q.drop n, ws', _, by simp, unhide HRT _ (unhide HKN), HGB2, HE2, HSN, HCN, HBN, hide ((unhide HK).trans (unhide HKN) (by simp))⟩
          case measure => simp [sliceLen]; omega
      · have hq0' : ¬ (0 : Int) < q.length := by omega
        have hqn : q = [] := List.eq_nil_of_length_eq_zero (by omega)
        subst hqn
        have HE3 := hide (by have := unhide HE; rw [List.append_nil] at this; exact this)
        clear HE
        go_wp2
        go_end0
        have hE := unhide HE3
        have hF : St wr g t' := ⟨ws', bl', unhide HS', fun _ => unhide HC, unhide HBR⟩
        rw [← hE] at hF
        exact ⟨rfl, by simpa using hF, unhide HK⟩
end Go.Proofs.YtbbjbpjpejekgaaDoor
