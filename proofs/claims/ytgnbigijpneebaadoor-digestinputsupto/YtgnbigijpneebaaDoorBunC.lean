import Derived.Test.YtgnbigijpneebaaDoorBunB
import Derived.Deep.WholeRow
namespace Go.Proofs.YtgnbigijpneebaaDoor
open Go.RowKit
set_option linter.unusedVariables false
set_option linter.unusedSimpArgs false

theorem eight {l : List Nat} (h : l.length = 8) : ∃ a b c d e f g i, l = [a, b, c, d, e, f, g, i] := by
  match l, h with
  | [a, b, c, d, e, f, g, i], _ => exact ⟨a, b, c, d, e, f, g, i, rfl⟩
theorem sixtyfour {l : List Nat} (h : l.length = 64) : ∃ z0 z1 z2 z3 z4 z5 z6 z7 z8 z9 z10 z11 z12 z13 z14 z15 z16 z17 z18 z19 z20 z21 z22 z23 z24 z25 z26 z27 z28 z29 z30 z31 z32 z33 z34 z35 z36 z37 z38 z39 z40 z41 z42 z43 z44 z45 z46 z47 z48 z49 z50 z51 z52 z53 z54 z55 z56 z57 z58 z59 z60 z61 z62 z63, l = [z0, z1, z2, z3, z4, z5, z6, z7, z8, z9, z10, z11, z12, z13, z14, z15, z16, z17, z18, z19, z20, z21, z22, z23, z24, z25, z26, z27, z28, z29, z30, z31, z32, z33, z34, z35, z36, z37, z38, z39, z40, z41, z42, z43, z44, z45, z46, z47, z48, z49, z50, z51, z52, z53, z54, z55, z56, z57, z58, z59, z60, z61, z62, z63] := by
  obtain ⟨z0, z1, z2, z3, z4, z5, z6, z7, e0⟩ := eight (l := (l.drop 0).take 8) (by simp; omega)
  obtain ⟨z8, z9, z10, z11, z12, z13, z14, z15, e1⟩ := eight (l := (l.drop 8).take 8) (by simp; omega)
  obtain ⟨z16, z17, z18, z19, z20, z21, z22, z23, e2⟩ := eight (l := (l.drop 16).take 8) (by simp; omega)
  obtain ⟨z24, z25, z26, z27, z28, z29, z30, z31, e3⟩ := eight (l := (l.drop 24).take 8) (by simp; omega)
  obtain ⟨z32, z33, z34, z35, z36, z37, z38, z39, e4⟩ := eight (l := (l.drop 32).take 8) (by simp; omega)
  obtain ⟨z40, z41, z42, z43, z44, z45, z46, z47, e5⟩ := eight (l := (l.drop 40).take 8) (by simp; omega)
  obtain ⟨z48, z49, z50, z51, z52, z53, z54, z55, e6⟩ := eight (l := (l.drop 48).take 8) (by simp; omega)
  obtain ⟨z56, z57, z58, z59, z60, z61, z62, z63, e7⟩ := eight (l := (l.drop 56).take 8) (by simp; omega)
  refine ⟨z0, z1, z2, z3, z4, z5, z6, z7, z8, z9, z10, z11, z12, z13, z14, z15, z16, z17, z18, z19, z20, z21, z22, z23, z24, z25, z26, z27, z28, z29, z30, z31, z32, z33, z34, z35, z36, z37, z38, z39, z40, z41, z42, z43, z44, z45, z46, z47, z48, z49, z50, z51, z52, z53, z54, z55, z56, z57, z58, z59, z60, z61, z62, z63, ?_⟩
  have e : l = (l.drop 0).take 8 ++ ((l.drop 8).take 8 ++ ((l.drop 16).take 8 ++ ((l.drop 24).take 8 ++ ((l.drop 32).take 8 ++ ((l.drop 40).take 8 ++ ((l.drop 48).take 8 ++ (l.drop 56).take 8)))))) := by
    have s : ∀ a, (l.drop a) = (l.drop a).take 8 ++ l.drop (a + 8) := fun a => by rw [← List.drop_drop, List.take_append_drop]
    have h64 : l.drop 64 = [] := List.drop_eq_nil_of_le (by omega)
    have := s 56
    rw [show 56 + 8 = 64 from rfl, h64, List.append_nil] at this
    rw [← this, ← s 48, ← s 40, ← s 32, ← s 24, ← s 16, ← s 8, ← s 0, List.drop_zero]
  rw [e, e0, e1, e2, e3, e4, e5, e6, e7]; rfl
/-- Loads and stores of whole arrays, under names: not opened cell by cell. -/
noncomputable def LdB (p : Value) : Sem Value := Instr.loadAt 118 p
theorem ldB (p : Value) : Instr.loadAt 118 p = LdB p := rfl
noncomputable def LdW (p : Value) : Sem Value := Instr.loadAt 117 p
theorem ldW (p : Value) : Instr.loadAt 117 p = LdW p := rfl
noncomputable def StW (p v : Value) : Sem Unit := Instr.storeAt 117 p v
theorem stW (p v : Value) : Instr.storeAt 117 p v = StW p v := rfl
attribute [local go_sem ↓] ldB ldW stW
theorem rng_set {w : World} {g i : Nat} {v : Value} {cs : List Value} (h : w.rangeAt g 8 cs) (hi : i < 8) : (w.setCell ⟨g, i, none⟩ v).rangeAt g 8 cs :=
  World.rangeAt_setCells_apart h g i [v] (Or.inr (Or.inr (by simp; omega)))
theorem Rd.tail {w : World} {b o c : Nat} {q : List Nat} (h : Rd w (.slice (some ⟨b, o, none⟩) q.length c) q) (n : Nat) (hn : n ≤ q.length) :
    Rd w (.slice (if c = n then some ⟨b, o, none⟩ else some ⟨b, o + n, none⟩) (q.drop n).length (c - n)) (q.drop n) := by
  obtain ⟨ao, len, cap, he, h1, h2, ⟨h3, h3'⟩, h4, h5, h6⟩ := h
  cases he
  refine ⟨_, _, _, rfl, rfl, by simp; omega, ⟨by omega, by simp; omega⟩, by split <;> simp, fun x hx => h5 x (List.mem_of_mem_drop hx), fun hp => ?_⟩
  simp at hp
  obtain ⟨b', o', he, hc⟩ := h6 (by omega)
  cases he
  refine ⟨b, o + n, by rw [if_neg (by omega)], fun i hi => ?_⟩
  simp at hi
  rw [show o + n + i = o + (n + i) by omega, hc (n + i) (by omega)]
  simp [List.getD_eq_getElem?_getD, List.getElem?_drop]
theorem Rd.kept1 {L : List Nat} {w w' : World} {v : Value} {bs : List Nat} (h : Rd w v bs) (k : Kept L w w') (hn : 0 < bs.length → ∀ x ∈ blk v, x ∉ L) : Rd w' v bs := by
  obtain ⟨ao, len, cap, rfl, rfl, h2, h3, h4, h5, h6⟩ := h
  refine ⟨ao, _, cap, rfl, rfl, h2, h3, h4, h5, fun hp => ?_⟩
  obtain ⟨b, off, rfl, hc⟩ := h6 hp
  exact ⟨b, off, rfl, fun i hi => k.cell (hc i hi) (hn hp b (by simp [blk]))⟩
/-- The State at g has taken in the text t. -/
def St (w : World) (g : Nat) (t : List Nat) : Prop := ∃ ws bl, StAt w g ws bl t.length ∧ (t ≠ [] → ws = chain h0 t) ∧ bl.take (t.length % 64) = rest t
theorem St.kept {L : List Nat} {w w' : World} {g : Nat} {t : List Nat} (h : St w g t) (k : Kept L w w') (hg : g ∉ L) : St w' g t := by
  obtain ⟨ws, bl, h1, h2⟩ := h; exact ⟨ws, bl, h1.kept k hg, h2⟩
def sliceLen : Value → Nat
  | .slice _ n _ => n
  | _ => 0

set_option maxRecDepth 100000 in
set_option maxHeartbeats 1000000 in
theorem write_any (g : Nat) (t : List Nat) (v : Value) (p : List Nat) (w : World) (hst : St w g t) (hp : Rd w v p) (hg : 0 < p.length → g ∉ blk v) (hg2 : 2 ≤ g) (hl : t.length + p.length < 9223372036854775807) (hT : Tabs w) :
    Calls Tryd.prog 62 #[.pointer (some ⟨g, 0, none⟩), v] w fun e w' => e = .returned (.tuple #[]) ∧ St w' g (t ++ p) ∧ Kept [g] w w' := by
  obtain ⟨ws, bl, hs, hw, hb⟩ := hst
  have HT := hide hT
  have HP := hide hp
  have HS := hide hs
  have cn := hs.count
  obtain ⟨ao, len, cap, rfl, rfl, h2, ⟨h3, h3'⟩, h4, h5, h6⟩ := hp
  have H5 := hide h5
  have H6 := hide h6
  have HB := hide hb
  have HW := hide hw
  have hsz8 : (Tryd.prog.info? 117).map (·.size) = some (h0.map wv).length := Tryd.size_a8
  have HSZ := hide hsz8
  clear hT hs hb hw h4 h5 h6 hsz8
  by_cases h0' : t.length = 0
  · have ht : t = [] := List.eq_nil_of_length_eq_zero h0'
    subst ht
    go_enter Tryd.func62, Tryd.ntmps62
    go_wp2_with (first
      | (refine wpList_load_mid rfl 117 (.global 0) rfl 0 0 rfl (h0.map wv) _ (unhide HT).first Tryd.underlying117 rfl (unhide HSZ) ?_)
      | (refine wpList_store_mid rfl 117 _ _ rfl g 0 (row h0) rfl rfl ((unhide HS).there 0 8 (by omega)) Tryd.size_a8 (row_one _) ?_))
    have KK0 := hide ((unhide HS).setWords h0_wds).2
    have SS0 := hide ((unhide HS).setWords h0_wds).1
    have CC0 := hide (chain_short (by decide) : chain h0 [] = h0).symm
    simp only [Act.put]
    go_loopw [1] (fun t1 wr => ∃ (u : Option Addr) (c : Nat) (t' q ws' bl' : List Nat), t1 = .slice u q.length c ∧ Hid (Rd wr (.slice u q.length c) q) ∧ Hid (0 < q.length → g ∉ blk (.slice u q.length c)) ∧ Hid (([] : List Nat) ++ p = t' ++ q) ∧ Hid (StAt wr g ws' bl' t'.length) ∧ Hid (ws' = chain h0 t') ∧ Hid (bl'.take (t'.length % 64) = rest t') ∧ Hid (Kept [g] w wr)) (fun t _ => sliceLen t)
    case atStart => exact ⟨ao, cap, ([] : List Nat), p, h0, bl, rfl, hide ((unhide HP).kept1 (L := [g]) (unhide KK0) (by intro h0 x hx; simp; rintro rfl; exact hg h0 hx)), hide hg, hide rfl, SS0, CC0, HB, KK0⟩
    case round =>
      obtain ⟨u, c, t', q, ws', bl', rfl, HQ, HGB, HE, HS', HC, HBR, HK⟩ := hrel
      by_cases hq0 : 0 < q.length
      · have hq0' : (0 : Int) < q.length := by omega
        have hlen := congrArg List.length (unhide HE)
        simp only [List.length_append] at hlen
        obtain ⟨u', len', c', hev, _, hqc, ⟨hc3, hc4⟩, hu0, hqb, hu⟩ := id (unhide HQ)
        cases hev
        obtain ⟨b, o, rfl, hcell⟩ := hu hq0
        obtain ⟨a, ha⟩ : ∃ a, t'.length % 64 = a := ⟨_, rfl⟩
        have ha64 : a < 64 := by omega
        have cn' := (unhide HS').count
        have hat : (t'.length : Int) % 64 = (a : Int) := by omega
        obtain ⟨n, hn, hn1, hnq⟩ : ∃ n, n = Nat.min q.length (64 - a) ∧ n ≤ 64 - a ∧ n ≤ q.length := ⟨_, rfl, Nat.min_le_right _ _, Nat.min_le_left _ _⟩
        have hn0 : 0 < n := by rw [hn]; simp only [Nat.min_def]; split <;> omega
        have hql : (q.take n).length = n := by simp; omega
        have hcs : ((q.take n).map u8).length = n := by simp; omega
        obtain ⟨W1, hcopy, hW1⟩ : ∃ W1, (Builtin.copy_ #[24, 24] 3 #[.slice (some ⟨g, 8 + a, none⟩) (64 - a) (64 - a), .slice (some ⟨b, o, none⟩) q.length c]).run Tryd.prog wr = .ok (goInt n) W1 ∧ W1 = wr.setRow g ((stc ws' bl' t'.length).take (8 + a) ++ (q.take n).map u8 ++ (stc ws' bl' t'.length).drop (8 + a + (q.take n).length)).toArray := by
          have h1 := run_copy_row (P := Tryd.prog) wr 24 24 3 5 g (8 + a) (64 - a) (64 - a) ⟨b, o, none⟩ q.length c (stc ws' bl' t'.length).toArray 120 ((q.take n).map u8) Tryd.underlying24 Tryd.size5 (unhide HS').1 (by rw [hcs, hn])
            (fun j v hv => by
              have hj := (List.getElem?_eq_some_iff.1 hv).1
              rw [hcs] at hj
              rw [Addr.add_mid, hcell j (by omega), ← hv, List.getElem?_map, List.getElem?_take, if_pos hj, List.getD_eq_getElem?_getD, List.getElem?_eq_getElem (show j < q.length by omega)]; rfl)
            (by rw [hcs, List.size_toArray, stc_len _ (unhide HS').2.1.1 (unhide HS').2.2.1]; omega) (u8_oneCell _)
          rw [hcs] at h1
          rw [hql]
          exact ⟨_, by simpa using h1, rfl⟩
        have hqb' : ∀ x ∈ q.take n, x < 256 := fun x hx => hqb x (List.mem_of_mem_take hx)
        have HS1 := hide (by rw [hW1]; exact (unhide HS').setBlock (a := a) (q := q.take n) (by omega) hqb' : StAt W1 g ws' (bl'.take a ++ q.take n ++ bl'.drop (a + (q.take n).length)) t'.length)
        have HK1 := hide (by rw [hW1]; exact (Kept.refl [g] wr).setRow (by simp) _ : Kept [g] wr W1)
        rw [hql] at HS1
        have hcase : (n = q.length ∧ n ≤ 64 - a) ∨ (n = 64 - a ∧ n ≤ q.length) := by rw [hn]; simp only [Nat.min_def]; split <;> omega
        clear hW1 hcs hn
        have HRT := hide (fun W (k : Kept [g] wr W) => ((unhide HQ).kept1 k (by intro h0 x hx; simp; rintro rfl; exact unhide HGB h0 hx)).tail n hnq : ∀ W, Kept [g] wr W → Rd W (.slice (if c = n then some ⟨b, o, none⟩ else some ⟨b, o + n, none⟩) (q.drop n).length (c - n)) (q.drop n))
        have HGB2 := hide (by intro _; have := unhide HGB hq0; split <;> simpa [blk] using this : 0 < (q.drop n).length → g ∉ blk (.slice (if c = n then some ⟨b, o, none⟩ else some ⟨b, o + n, none⟩) (q.drop n).length (c - n)))
        have HE2 := hide (by rw [unhide HE, List.append_assoc, List.take_append_drop] : ([] : List Nat) ++ p = (t' ++ q.take n) ++ q.drop n)
        have htl : (t' ++ q.take n).length = t'.length + n := by rw [List.length_append, hql]
        have Htl := hide htl
        have Hql := hide hql
        clear htl hql hqb hqb' hcell hu hu0
        have HBR2 := hide (by rw [ha] at HBR; exact unhide HBR : bl'.take a = rest t')
        have hrl : (rest t').length = a := by rw [rest_len, ha]
        have cn1 := (unhide HS1).count
        have fn1 := (unhide HS1).frozen 72
        have hna : (a : Int) ≤ 64 := by omega
        have hnc : (n : Int) ≤ (q.length : Int) := by omega
        have hqcI : (q.length : Int) ≤ (c : Int) := by omega
        by_cases hfull : a + n = 64
        · have hfull' : (a : Int) + n = 64 := by omega
          have hfb : ((a : Int) + n == 64) = true := by rw [beq_iff_eq]; omega
          have hl64 : (rest t').length + (q.take n).length = 64 := by rw [hrl, unhide Hql]; omega
          have hbn : bl'.take a ++ q.take n ++ bl'.drop (a + n) = rest t' ++ q.take n := by rw [hfull, List.drop_eq_nil_of_le (by rw [(unhide HS').2.2.1]; omega), List.append_nil, unhide HBR2]
          rw [hbn] at HS1
          have HCN := hide (by rw [chain_push h0 t' _ hl64, unhide HC] : comp ws' (rest t' ++ q.take n) = chain h0 (t' ++ q.take n))
          have HBN := hide (by rw [rest_full t' (q.take n) hl64, unhide Htl, show (t'.length + n) % 64 = 0 by omega]; rfl : (rest t' ++ q.take n).take ((t' ++ q.take n).length % 64) = rest (t' ++ q.take n))
          have hrb := (unhide HS1).2.2
          have HT1 := hide (((unhide HT).kept (unhide HK) (by simp; omega) (by simp; omega)).kept (unhide HK1) (by simp; omega) (by simp; omega))
          have HZ1 := hide (by rw [List.length_map, (unhide HS1).2.1.1]; exact Tryd.size_a8 : (Tryd.prog.info? 117).map (·.size) = some (ws'.map wv).length)
          have HZ2 := hide (by rw [List.length_map, (unhide HS1).2.2.1]; exact Tryd.size_a64b : (Tryd.prog.info? 118).map (·.size) = some ((rest t' ++ q.take n).map Go.Proofs.YtgnbigijpneebaaDoor.u8).length)
          clear hcase hbn
          obtain ⟨BL, hBL⟩ : ∃ BL, rest t' ++ q.take n = BL := ⟨_, rfl⟩
          rw [hBL] at HS1 HCN HBN hrb HZ2
          have HRB := hide hrb
          clear hrb hBL
          go_wp2
          have HCA := hide (compress_any ws' BL W1.drew (unhide HS1).2.1 (unhide HRB).1 (unhide HRB).2 (((unhide HT1).kept ((Kept.refl [] W1).drew) (by simp) (by simp)).1))
          have HS1d := hide ((unhide HS1).kept ((Kept.refl [] W1).drew) (by simp))
          have HCW := hide (comp_wds ws' BL)
          have lB : (LdB (.pointer (some ⟨g, 8, none⟩))).run Tryd.prog W1.drew = .ok (.agg (brow BL)) W1.drew := run_loadAt_mid (P := Tryd.prog) W1.drew g 8 118 (BL.map Go.Proofs.YtgnbigijpneebaaDoor.u8) _ (unhide HS1d).block Tryd.underlying118 rfl (unhide HZ2)
          have lW : (LdW (.pointer (some ⟨g, 0, none⟩))).run Tryd.prog W1.drew = .ok (.agg (row ws')) W1.drew := run_loadAt_mid (P := Tryd.prog) W1.drew g 0 117 (ws'.map wv) _ (unhide HS1d).words Tryd.underlying117 rfl (unhide HZ1)
          generalize comp ws' BL = cw at HCA HCN HCW
          go_region_with (go_at_call 89; refine (unhide HCA).mono ?_; rintro e9 w9 ⟨rfl, k9⟩; have HS9 := hide ((unhide HS1d).kept k9 (by simp)); have HK9 := hide k9; have sW : (StW (.pointer (some ⟨g, 0, none⟩)) (.agg (row cw))).run Tryd.prog w9 = .ok () (w9.setCells g 0 (row cw).toList) := run_storeAt_mid (P := Tryd.prog) w9 g 0 117 (row cw) ((unhide HS9).there 0 _ (by rw [row_size, (unhide HCW).1]; omega)) (by rw [row_size, (unhide HCW).1]; exact Tryd.size_a8) (row_one _); clear k9)
          all_goals
            have HSW := (unhide HS9).setWords (unhide HCW)
            have HSX := hide HSW.1
            have HKX := hide HSW.2
            obtain ⟨W2, hW2⟩ : ∃ W2, w9.setCells g 0 (row cw).toList = W2 := ⟨_, rfl⟩
            rw [hW2] at HSX HKX ⊢
            clear HSW hW2 sW lB lW
            have cn2 := (unhide HSX).count
            have fn2 := (unhide HSX).frozen 72
            have HSN := hide (by rw [unhide Htl]; exact (unhide HSX).setCount (t'.length + n) : StAt (W2.setCell ⟨g, 72, none⟩ (.int .u64 ((t'.length + n : Nat) : Int))) g cw BL (t' ++ q.take n).length)
            have HKN := hide ((((unhide HK1).trans ((Kept.refl [] W1).drew) (by simp)).trans (unhide HK9) (by simp)).trans (unhide HKX) (by simp) |>.setCell (p := ⟨g, 72, none⟩) (by simp) (.int .u64 ((t'.length + n : Nat) : Int)))
            have hcast : ((t'.length + n : Nat) : Int) = (t'.length : Int) + n := by omega
            rw [hcast] at HSN HKN
            clear hcast cn1 fn1
            go_wp2
            go_roundw
            case rel => exact ⟨_, _, t' ++ q.take n, q.drop n, cw, BL, by simp, unhide HRT _ (unhide HKN), HGB2, HE2, HSN, HCN, HBN, hide ((unhide HK).trans (unhide HKN) (by simp))⟩
            case measure => simp [sliceLen]; omega
        · have hfull' : ((a : Int) + n == 64) = false := by rw [beq_eq_false_iff_ne]; omega
          have hlt64 : (rest t').length + (q.take n).length < 64 := by rw [hrl, unhide Hql]; omega
          have HBN := hide (by
            rw [rest_keep t' (q.take n) hlt64, ← unhide HBR2, unhide Htl, show (t'.length + n) % 64 = a + n by omega]
            rw [List.append_assoc, List.take_append, List.take_of_length_le (by rw [List.length_take]; omega), List.length_take, (unhide HS').2.2.1, Nat.min_eq_left (by omega), show a + n - a = n by omega, List.take_append_of_le_length (by rw [unhide Hql]; omega), List.take_take, Nat.min_self] : (bl'.take a ++ q.take n ++ bl'.drop (a + n)).take ((t' ++ q.take n).length % 64) = rest (t' ++ q.take n))
          have HCN := hide (by rw [chain_keep h0 t' _ hlt64]; exact unhide HC : ws' = chain h0 (t' ++ q.take n))
          have HSN := hide (by rw [unhide Htl]; exact (unhide HS1).setCount (t'.length + n) : StAt (W1.setCell ⟨g, 72, none⟩ (.int .u64 ((t'.length + n : Nat) : Int))) g ws' (bl'.take a ++ q.take n ++ bl'.drop (a + n)) (t' ++ q.take n).length)
          have HKN := hide ((unhide HK1).setCell (p := ⟨g, 72, none⟩) (by simp) (.int .u64 ((t'.length + n : Nat) : Int)))
          have hcast : ((t'.length + n : Nat) : Int) = (t'.length : Int) + n := by omega
          rw [hcast] at HSN HKN
          clear hcast hcase
          go_wp2
          go_roundw
          case rel => exact ⟨_, _, t' ++ q.take n, q.drop n, ws', _, by simp, unhide HRT _ (unhide HKN), HGB2, HE2, HSN, HCN, HBN, hide ((unhide HK).trans (unhide HKN) (by simp))⟩
          case measure => simp [sliceLen]; omega
      · have hq0' : ¬ (0 : Int) < q.length := by omega
        have hqn : q = [] := List.eq_nil_of_length_eq_zero (by omega)
        subst hqn
        have HE3 := hide (by have := unhide HE; rw [List.append_nil] at this; exact this)
        clear HE
        go_wp2
        go_end0
        have hE := unhide HE3
        have hF : St wr g t' := ⟨ws', bl', unhide HS', fun _ => unhide HC, unhide HBR⟩
        rw [← hE] at hF
        exact ⟨rfl, by simpa using hF, unhide HK⟩
  · have h0'' : ((t.length : Int) == 0) = false := by rw [beq_eq_false_iff_ne]; omega
    have ht : t ≠ [] := fun e => h0' (by rw [e]; rfl)
    have KK0 := hide (Kept.refl [g] w)
    have SS0 := HS
    have CC0 := hide (unhide HW ht)
    clear h0'
    go_enter Tryd.func62, Tryd.ntmps62
    go_wp2
    go_loopw [1] (fun t1 wr => ∃ (u : Option Addr) (c : Nat) (t' q ws' bl' : List Nat), t1 = .slice u q.length c ∧ Hid (Rd wr (.slice u q.length c) q) ∧ Hid (0 < q.length → g ∉ blk (.slice u q.length c)) ∧ Hid (t ++ p = t' ++ q) ∧ Hid (StAt wr g ws' bl' t'.length) ∧ Hid (ws' = chain h0 t') ∧ Hid (bl'.take (t'.length % 64) = rest t') ∧ Hid (Kept [g] w wr)) (fun t _ => sliceLen t)
    case atStart => exact ⟨ao, cap, t, p, ws, bl, rfl, hide ((unhide HP).kept1 (L := [g]) (unhide KK0) (by intro h0 x hx; simp; rintro rfl; exact hg h0 hx)), hide hg, hide rfl, SS0, CC0, HB, KK0⟩
    case round =>
      obtain ⟨u, c, t', q, ws', bl', rfl, HQ, HGB, HE, HS', HC, HBR, HK⟩ := hrel
      by_cases hq0 : 0 < q.length
      · have hq0' : (0 : Int) < q.length := by omega
        have hlen := congrArg List.length (unhide HE)
        simp only [List.length_append] at hlen
        obtain ⟨u', len', c', hev, _, hqc, ⟨hc3, hc4⟩, hu0, hqb, hu⟩ := id (unhide HQ)
        cases hev
        obtain ⟨b, o, rfl, hcell⟩ := hu hq0
        obtain ⟨a, ha⟩ : ∃ a, t'.length % 64 = a := ⟨_, rfl⟩
        have ha64 : a < 64 := by omega
        have cn' := (unhide HS').count
        have hat : (t'.length : Int) % 64 = (a : Int) := by omega
        obtain ⟨n, hn, hn1, hnq⟩ : ∃ n, n = Nat.min q.length (64 - a) ∧ n ≤ 64 - a ∧ n ≤ q.length := ⟨_, rfl, Nat.min_le_right _ _, Nat.min_le_left _ _⟩
        have hn0 : 0 < n := by rw [hn]; simp only [Nat.min_def]; split <;> omega
        have hql : (q.take n).length = n := by simp; omega
        have hcs : ((q.take n).map u8).length = n := by simp; omega
        obtain ⟨W1, hcopy, hW1⟩ : ∃ W1, (Builtin.copy_ #[24, 24] 3 #[.slice (some ⟨g, 8 + a, none⟩) (64 - a) (64 - a), .slice (some ⟨b, o, none⟩) q.length c]).run Tryd.prog wr = .ok (goInt n) W1 ∧ W1 = wr.setRow g ((stc ws' bl' t'.length).take (8 + a) ++ (q.take n).map u8 ++ (stc ws' bl' t'.length).drop (8 + a + (q.take n).length)).toArray := by
          have h1 := run_copy_row (P := Tryd.prog) wr 24 24 3 5 g (8 + a) (64 - a) (64 - a) ⟨b, o, none⟩ q.length c (stc ws' bl' t'.length).toArray 120 ((q.take n).map u8) Tryd.underlying24 Tryd.size5 (unhide HS').1 (by rw [hcs, hn])
            (fun j v hv => by
              have hj := (List.getElem?_eq_some_iff.1 hv).1
              rw [hcs] at hj
              rw [Addr.add_mid, hcell j (by omega), ← hv, List.getElem?_map, List.getElem?_take, if_pos hj, List.getD_eq_getElem?_getD, List.getElem?_eq_getElem (show j < q.length by omega)]; rfl)
            (by rw [hcs, List.size_toArray, stc_len _ (unhide HS').2.1.1 (unhide HS').2.2.1]; omega) (u8_oneCell _)
          rw [hcs] at h1
          rw [hql]
          exact ⟨_, by simpa using h1, rfl⟩
        have hqb' : ∀ x ∈ q.take n, x < 256 := fun x hx => hqb x (List.mem_of_mem_take hx)
        have HS1 := hide (by rw [hW1]; exact (unhide HS').setBlock (a := a) (q := q.take n) (by omega) hqb' : StAt W1 g ws' (bl'.take a ++ q.take n ++ bl'.drop (a + (q.take n).length)) t'.length)
        have HK1 := hide (by rw [hW1]; exact (Kept.refl [g] wr).setRow (by simp) _ : Kept [g] wr W1)
        rw [hql] at HS1
        have hcase : (n = q.length ∧ n ≤ 64 - a) ∨ (n = 64 - a ∧ n ≤ q.length) := by rw [hn]; simp only [Nat.min_def]; split <;> omega
        clear hW1 hcs hn
        have HRT := hide (fun W (k : Kept [g] wr W) => ((unhide HQ).kept1 k (by intro h0 x hx; simp; rintro rfl; exact unhide HGB h0 hx)).tail n hnq : ∀ W, Kept [g] wr W → Rd W (.slice (if c = n then some ⟨b, o, none⟩ else some ⟨b, o + n, none⟩) (q.drop n).length (c - n)) (q.drop n))
        have HGB2 := hide (by intro _; have := unhide HGB hq0; split <;> simpa [blk] using this : 0 < (q.drop n).length → g ∉ blk (.slice (if c = n then some ⟨b, o, none⟩ else some ⟨b, o + n, none⟩) (q.drop n).length (c - n)))
        have HE2 := hide (by rw [unhide HE, List.append_assoc, List.take_append_drop] : t ++ p = (t' ++ q.take n) ++ q.drop n)
        have htl : (t' ++ q.take n).length = t'.length + n := by rw [List.length_append, hql]
        have Htl := hide htl
        have Hql := hide hql
        clear htl hql hqb hqb' hcell hu hu0
        have HBR2 := hide (by rw [ha] at HBR; exact unhide HBR : bl'.take a = rest t')
        have hrl : (rest t').length = a := by rw [rest_len, ha]
        have cn1 := (unhide HS1).count
        have fn1 := (unhide HS1).frozen 72
        have hna : (a : Int) ≤ 64 := by omega
        have hnc : (n : Int) ≤ (q.length : Int) := by omega
        have hqcI : (q.length : Int) ≤ (c : Int) := by omega
        by_cases hfull : a + n = 64
        · have hfull' : (a : Int) + n = 64 := by omega
          have hfb : ((a : Int) + n == 64) = true := by rw [beq_iff_eq]; omega
          have hl64 : (rest t').length + (q.take n).length = 64 := by rw [hrl, unhide Hql]; omega
          have hbn : bl'.take a ++ q.take n ++ bl'.drop (a + n) = rest t' ++ q.take n := by rw [hfull, List.drop_eq_nil_of_le (by rw [(unhide HS').2.2.1]; omega), List.append_nil, unhide HBR2]
          rw [hbn] at HS1
          have HCN := hide (by rw [chain_push h0 t' _ hl64, unhide HC] : comp ws' (rest t' ++ q.take n) = chain h0 (t' ++ q.take n))
          have HBN := hide (by rw [rest_full t' (q.take n) hl64, unhide Htl, show (t'.length + n) % 64 = 0 by omega]; rfl : (rest t' ++ q.take n).take ((t' ++ q.take n).length % 64) = rest (t' ++ q.take n))
          have hrb := (unhide HS1).2.2
          have HT1 := hide (((unhide HT).kept (unhide HK) (by simp; omega) (by simp; omega)).kept (unhide HK1) (by simp; omega) (by simp; omega))
          have HZ1 := hide (by rw [List.length_map, (unhide HS1).2.1.1]; exact Tryd.size_a8 : (Tryd.prog.info? 117).map (·.size) = some (ws'.map wv).length)
          have HZ2 := hide (by rw [List.length_map, (unhide HS1).2.2.1]; exact Tryd.size_a64b : (Tryd.prog.info? 118).map (·.size) = some ((rest t' ++ q.take n).map Go.Proofs.YtgnbigijpneebaaDoor.u8).length)
          clear hcase hbn
          obtain ⟨BL, hBL⟩ : ∃ BL, rest t' ++ q.take n = BL := ⟨_, rfl⟩
          rw [hBL] at HS1 HCN HBN hrb HZ2
          have HRB := hide hrb
          clear hrb hBL
          go_wp2
          have HCA := hide (compress_any ws' BL W1.drew (unhide HS1).2.1 (unhide HRB).1 (unhide HRB).2 (((unhide HT1).kept ((Kept.refl [] W1).drew) (by simp) (by simp)).1))
          have HS1d := hide ((unhide HS1).kept ((Kept.refl [] W1).drew) (by simp))
          have HCW := hide (comp_wds ws' BL)
          have lB : (LdB (.pointer (some ⟨g, 8, none⟩))).run Tryd.prog W1.drew = .ok (.agg (brow BL)) W1.drew := run_loadAt_mid (P := Tryd.prog) W1.drew g 8 118 (BL.map Go.Proofs.YtgnbigijpneebaaDoor.u8) _ (unhide HS1d).block Tryd.underlying118 rfl (unhide HZ2)
          have lW : (LdW (.pointer (some ⟨g, 0, none⟩))).run Tryd.prog W1.drew = .ok (.agg (row ws')) W1.drew := run_loadAt_mid (P := Tryd.prog) W1.drew g 0 117 (ws'.map wv) _ (unhide HS1d).words Tryd.underlying117 rfl (unhide HZ1)
          generalize comp ws' BL = cw at HCA HCN HCW
          go_region_with (go_at_call 89; refine (unhide HCA).mono ?_; rintro e9 w9 ⟨rfl, k9⟩; have HS9 := hide ((unhide HS1d).kept k9 (by simp)); have HK9 := hide k9; have sW : (StW (.pointer (some ⟨g, 0, none⟩)) (.agg (row cw))).run Tryd.prog w9 = .ok () (w9.setCells g 0 (row cw).toList) := run_storeAt_mid (P := Tryd.prog) w9 g 0 117 (row cw) ((unhide HS9).there 0 _ (by rw [row_size, (unhide HCW).1]; omega)) (by rw [row_size, (unhide HCW).1]; exact Tryd.size_a8) (row_one _); clear k9)
          all_goals
            have HSW := (unhide HS9).setWords (unhide HCW)
            have HSX := hide HSW.1
            have HKX := hide HSW.2
            obtain ⟨W2, hW2⟩ : ∃ W2, w9.setCells g 0 (row cw).toList = W2 := ⟨_, rfl⟩
            rw [hW2] at HSX HKX ⊢
            clear HSW hW2 sW lB lW
            have cn2 := (unhide HSX).count
            have fn2 := (unhide HSX).frozen 72
            have HSN := hide (by rw [unhide Htl]; exact (unhide HSX).setCount (t'.length + n) : StAt (W2.setCell ⟨g, 72, none⟩ (.int .u64 ((t'.length + n : Nat) : Int))) g cw BL (t' ++ q.take n).length)
            have HKN := hide ((((unhide HK1).trans ((Kept.refl [] W1).drew) (by simp)).trans (unhide HK9) (by simp)).trans (unhide HKX) (by simp) |>.setCell (p := ⟨g, 72, none⟩) (by simp) (.int .u64 ((t'.length + n : Nat) : Int)))
            have hcast : ((t'.length + n : Nat) : Int) = (t'.length : Int) + n := by omega
            rw [hcast] at HSN HKN
            clear hcast cn1 fn1
            go_wp2
            go_roundw
            case rel => exact ⟨_, _, t' ++ q.take n, q.drop n, cw, BL, by simp, unhide HRT _ (unhide HKN), HGB2, HE2, HSN, HCN, HBN, hide ((unhide HK).trans (unhide HKN) (by simp))⟩
            case measure => simp [sliceLen]; omega
        · have hfull' : ((a : Int) + n == 64) = false := by rw [beq_eq_false_iff_ne]; omega
          have hlt64 : (rest t').length + (q.take n).length < 64 := by rw [hrl, unhide Hql]; omega
          have HBN := hide (by
            rw [rest_keep t' (q.take n) hlt64, ← unhide HBR2, unhide Htl, show (t'.length + n) % 64 = a + n by omega]
            rw [List.append_assoc, List.take_append, List.take_of_length_le (by rw [List.length_take]; omega), List.length_take, (unhide HS').2.2.1, Nat.min_eq_left (by omega), show a + n - a = n by omega, List.take_append_of_le_length (by rw [unhide Hql]; omega), List.take_take, Nat.min_self] : (bl'.take a ++ q.take n ++ bl'.drop (a + n)).take ((t' ++ q.take n).length % 64) = rest (t' ++ q.take n))
          have HCN := hide (by rw [chain_keep h0 t' _ hlt64]; exact unhide HC : ws' = chain h0 (t' ++ q.take n))
          have HSN := hide (by rw [unhide Htl]; exact (unhide HS1).setCount (t'.length + n) : StAt (W1.setCell ⟨g, 72, none⟩ (.int .u64 ((t'.length + n : Nat) : Int))) g ws' (bl'.take a ++ q.take n ++ bl'.drop (a + n)) (t' ++ q.take n).length)
          have HKN := hide ((unhide HK1).setCell (p := ⟨g, 72, none⟩) (by simp) (.int .u64 ((t'.length + n : Nat) : Int)))
          have hcast : ((t'.length + n : Nat) : Int) = (t'.length : Int) + n := by omega
          rw [hcast] at HSN HKN
          clear hcast hcase
          go_wp2
          go_roundw
          case rel => exact ⟨_, _, t' ++ q.take n, q.drop n, ws', _, by simp, unhide HRT _ (unhide HKN), HGB2, HE2, HSN, HCN, HBN, hide ((unhide HK).trans (unhide HKN) (by simp))⟩
          case measure => simp [sliceLen]; omega
      · have hq0' : ¬ (0 : Int) < q.length := by omega
        have hqn : q = [] := List.eq_nil_of_length_eq_zero (by omega)
        subst hqn
        have HE3 := hide (by have := unhide HE; rw [List.append_nil] at this; exact this)
        clear HE
        go_wp2
        go_end0
        have hE := unhide HE3
        have hF : St wr g t' := ⟨ws', bl', unhide HS', fun _ => unhide HC, unhide HBR⟩
        rw [← hE] at hF
        exact ⟨rfl, by simpa using hF, unhide HK⟩
end Go.Proofs.YtgnbigijpneebaaDoor
namespace Go.Proofs.YtgnbigijpneebaaDoor
open Go.RowKit
set_option linter.unusedVariables false
set_option linter.unusedSimpArgs false

theorem Tryd.size_state : (Tryd.prog.info? 120).map (·.size) = some 73 := by kernel_rfl

theorem dig_get : ∀ (Y : List Nat) (k i : Nat), k < Y.length → i < 4 → (dig Y).getD (4 * k + i) 0 = (bytes4 (Y.getD k 0)).getD i 0
  | [], k, i, h, _ => by simp at h
  | y :: ys, 0, i, h, hi => by
    have e : dig (y :: ys) = bytes4 y ++ dig ys := rfl
    rw [e, List.getD_eq_getElem?_getD, List.getD_eq_getElem?_getD, Nat.mul_zero, Nat.zero_add, List.getElem?_append_left (by simp [bytes4]; omega)]; rfl
  | y :: ys, k + 1, i, h, hi => by
    have e : dig (y :: ys) = bytes4 y ++ dig ys := rfl
    have ih := dig_get ys k i (by simpa using h) hi
    rw [e, List.getD_eq_getElem?_getD, List.getElem?_append_right (by simp [bytes4]; omega), ← List.getD_eq_getElem?_getD]
    rw [show 4 * (k + 1) + i - (bytes4 y).length = 4 * k + i by simp [bytes4]; omega, ih, List.getD_cons_succ]
theorem dig_len : ∀ (Y : List Nat), (dig Y).length = 4 * Y.length
  | [] => rfl
  | y :: ys => by
    have e : dig (y :: ys) = bytes4 y ++ dig ys := rfl
    rw [e, List.length_append, dig_len ys]; simp [bytes4]; omega
theorem Tryd.sizeWord : (Tryd.prog.info? 116).map (·.size) = some 1 := by kernel_rfl
theorem run_index_w8 (ms : List Nat) (k : Nat) (w : World) (hl : ms.length = 8) (hk : k < 8) : (Instr.index 117 (.agg (row ms)) (.int .i64 k)).run Tryd.prog w = .ok (wv (ms.getD k 0)) w := by
  have h1 : (sizeOf 116).run Tryd.prog w = .ok 1 w := by
    cases hq : Tryd.prog.info? 116 with
    | none => have := Tryd.sizeWord; rw [hq] at this; cases this
    | some i => have := Tryd.sizeWord; rw [hq] at this; simp at this; simp [sizeOf, typeInfo, hq, this]
  have h2 : (isAgg 116).run Tryd.prog w = .ok false w := by
    unfold isAgg
    rw [Sem.run_bind, run_underlying Tryd.underlying116 w]; simp
  have hg := row_get ms k (by omega)
  simp [Instr.index, asIntOf, run_underlying Tryd.underlying117, Sem.run_bind, part, h1, h2, hg, go_sem]
  omega
theorem list_ext_getD {p q : List Nat} (hl : p.length = q.length) (h : ∀ j, j < p.length → p.getD j 0 = q.getD j 0) : p = q := by
  apply List.ext_getElem hl
  intro i h1 h2
  have := h i h1
  simpa [List.getD_eq_getElem?_getD, List.getElem?_eq_getElem h1, List.getElem?_eq_getElem h2] using this
theorem brow_setCell {w : World} {g : Nat} {ms : List Nat} {t : TypeId} (h : w.heap[g]? = some (.cells (brow ms) t (0, 0))) (k v : Nat) : (w.setCell ⟨g, k, none⟩ (u8 v)).heap[g]? = some (.cells (brow (ms.set k v)) t (0, 0)) := by
  rw [heap_setCell_same w g k _ t _ h, brow_set]
def zst : Array Value := (stc (List.replicate 8 0) (List.replicate 64 0) 0).toArray
theorem zst_size : zst.size = 73 := by unfold zst; rw [List.size_toArray, stc_len _ (by simp) (by simp)]
theorem zst_lit : (#[.int .u32 0, .int .u32 0, .int .u32 0, .int .u32 0, .int .u32 0, .int .u32 0, .int .u32 0, .int .u32 0, .int .u8 0, .int .u8 0, .int .u8 0, .int .u8 0, .int .u8 0, .int .u8 0, .int .u8 0, .int .u8 0, .int .u8 0, .int .u8 0, .int .u8 0, .int .u8 0, .int .u8 0, .int .u8 0, .int .u8 0, .int .u8 0, .int .u8 0, .int .u8 0, .int .u8 0, .int .u8 0, .int .u8 0, .int .u8 0, .int .u8 0, .int .u8 0, .int .u8 0, .int .u8 0, .int .u8 0, .int .u8 0, .int .u8 0, .int .u8 0, .int .u8 0, .int .u8 0, .int .u8 0, .int .u8 0, .int .u8 0, .int .u8 0, .int .u8 0, .int .u8 0, .int .u8 0, .int .u8 0, .int .u8 0, .int .u8 0, .int .u8 0, .int .u8 0, .int .u8 0, .int .u8 0, .int .u8 0, .int .u8 0, .int .u8 0, .int .u8 0, .int .u8 0, .int .u8 0, .int .u8 0, .int .u8 0, .int .u8 0, .int .u8 0, .int .u8 0, .int .u8 0, .int .u8 0, .int .u8 0, .int .u8 0, .int .u8 0, .int .u8 0, .int .u8 0, .int .u64 0] : Array Value) = zst := rfl
theorem Tryd.zero_state : (Tryd.prog.info? 120).map (fun i => (i.zero, i.size)) = some (some (.agg zst), 73) := by kernel_rfl
theorem zero_st (W : World) : (zeroValue 120).run Tryd.prog W = .ok (.agg zst) W := (zero_of_info Tryd.zero_state).1 W
theorem stc_one (ws bl : List Nat) (n : Nat) : (stc ws bl n).toArray.all (·.oneCell') = true := by
  rw [Array.all_eq_true_iff_forall_mem]
  intro v hv
  simp [stc] at hv
  rcases hv with ⟨x, _, rfl⟩ | ⟨x, _, rfl⟩ | rfl <;> rfl
theorem st_zero {w : World} {g : Nat} (h : w.heap[g]? = some (.cells zst 120 (0, 0))) : St w g [] := by
  refine ⟨List.replicate 8 0, List.replicate 64 0, ⟨h, ⟨by simp, by intro x hx; simp at hx; omega⟩, by simp, by intro x hx; simp at hx; omega⟩, fun h => absurd rfl h, rfl⟩

set_option maxRecDepth 100000 in
set_option maxHeartbeats 1000000 in
theorem ssum_any (g : Nat) (t : List Nat) (w : World) (hst : St w g t) (hl : t.length < 9223372036854775000) (hT : Tabs w) :
    Calls Tryd.prog 64 #[.pointer (some ⟨g, 0, none⟩)] w fun e w' => e = .returned (.agg (brow (hash t))) ∧ Kept [] w w' := by
  have HS := hide hst
  have HT := hide hT
  obtain ⟨ws, bl, hs, hw, hb⟩ := hst
  have HSA := hide hs
  have HSZ := hide (by rw [List.size_toArray, stc_len _ hs.2.1.1 hs.2.2.1]; exact Tryd.size_state : (Tryd.prog.info? 120).map (·.size) = some (stc ws bl t.length).toArray.size)
  have HWW := hide hw
  have HBB := hide hb
  clear hT hs hw hb
  have hzs := zero_st
  obtain ⟨W, hW⟩ : ∃ W, ((w.alloc (.cells (zb 32) 25)).alloc (.cells zst 120)).setRow (w.heap.size + 1) (stc ws bl t.length).toArray = W := ⟨_, rfl⟩
  have HKW := hide (by rw [← hW]; exact (((Kept.refl [] w).alloc _).alloc _).setRow (by simp) _ : Kept [] w W)
  have cW : W.cell? ⟨g, 72, none⟩ = some (.int .u64 (t.length : Int)) := (unhide HKW).cell (unhide HSA).count (by simp)
  have HZW := hide (by rw [← hW, setRow_other _ _ _ _ (by omega)]; exact heap_alloc2_old _ _ _ : W.heap[w.heap.size]? = some (.cells (zb 32) 25 (0, 0)))
  have HLW := hide (by rw [← hW]; exact ⟨setRow_heap _ _ _ _ _ _ (heap_alloc2_new _ _ _), (unhide HSA).2⟩ : StAt W (w.heap.size + 1) ws bl t.length)
  have hsW : (((w.alloc (.cells (zb 32) 25)).alloc (.cells zst 120)).setRow (w.heap.size + 1) (stc ws bl t.length).toArray).heap.size = w.heap.size + 1 + 1 := by simp
  have HsW := hide (by rw [← hW]; exact hsW : W.heap.size = w.heap.size + 1 + 1)
  clear hsW
  go_enter Tryd.func64, Tryd.ntmps64
  go_wp2_with (first
    | (rw [zb32]; refine wpList_load_row rfl 120 (.tmp 11) rfl g rfl _ (stc ws bl t.length).toArray (0, 0) _ ((Kept.refl [] w).alloc (.cells (zb 32) 25) |>.heap (unhide HSA).1 (by simp)) Tryd.underlying120 rfl (unhide HSZ) ?_)
    | (refine wpList_store_row rfl 120 _ (.tmp 12) rfl (w.heap.size + 1) (stc ws bl t.length).toArray rfl rfl _ zst (heap_alloc2_new _ _ _) (unhide HSZ) (by rw [zst_size, List.size_toArray, stc_len _ (unhide HSA).2.1.1 (unhide HSA).2.2.1]) (stc_one _ _ _) ?_))
  clear cW hW
  refine (padding_any t.length _ (by omega)).mono ?_
  rintro e w1 ⟨rfl, h1, k1⟩
  have HP1 := hide (rd_fresh h1 (pad_byte _) (by rw [pad_len]; unfold padZ; split <;> omega))
  have HK1 := hide ((unhide HKW).trans k1 (by simp))
  have HZ1 := hide (k1.heap (unhide HZW) (by simp))
  have HL1 := hide ((unhide HLW).kept k1 (by simp))
  have HS1 := hide (⟨ws, bl, unhide HL1, unhide HWW, unhide HBB⟩ : St w1 (w.heap.size + 1) t)
  have HT1 := hide ((unhide HT).kept (unhide HK1) (by simp) (by simp))
  have hg1 : 1 < w.heap.size := (unhide HT).two
  have HsP := hide k1.size
  clear k1 h1
  go_wp2_with fail
  refine (write_any (w.heap.size + 1) t _ (pad t.length) w1 (unhide HS1) (unhide HP1) (by intro _; simp [blk]; have := unhide HsW; omega) (by omega) (by rw [pad_len]; unfold padZ; split <;> omega) (unhide HT1)).mono ?_
  rintro e w2 ⟨rfl, s2, k2⟩
  have HS2 := hide s2
  have HK2 := hide ((unhide HK1).trans k2 (by simp))
  have HZ2 := hide (k2.heap (unhide HZ1) (by simp))
  clear s2 k2
  obtain ⟨Y, bl2, hs2, hw2, _⟩ := unhide HS2
  have hY : Y = hashW t := hw2 (by simp [pad])
  have HD := hide (by unfold hash; rw [hY] : hash t = dig Y)
  have HYw := hide hs2.2.1
  have HSY := hide (hs2.kept ((Kept.refl [] w2).alloc (.cells (zb 32) 25)) (by simp))
  have HZY := hide (by rw [List.length_map, hs2.2.1.1]; exact Tryd.size_a8 : (Tryd.prog.info? 117).map (·.size) = some (Y.map wv).length)
  clear hw2 hY hs2 HS1 HS2 HL1 HP1
  have hrw : (Y.map wv).toArray = row Y := rfl
  go_wp2_with (rw [zb32]; refine wpList_load_mid rfl 117 (.tmp 19) rfl (w.heap.size + 1) 0 rfl (Y.map wv) _ (unhide HSY).words Tryd.underlying117 rfl (unhide HZY) ?_)
  obtain ⟨gs, hgs⟩ : ∃ gs, w2.heap.size = gs := ⟨_, rfl⟩
  have HR0 := hide (by rw [← hgs]; exact heap_alloc_new _ _ : (w2.alloc (.cells (zb 32) 25)).heap[gs]? = some (.cells (brow (List.replicate 32 0)) 25 (0, 0)))
  have HK3 := hide ((unhide HK2).alloc (.cells (zb 32) 25))
  have HZ3 := hide (((Kept.refl [] w2).alloc (.cells (zb 32) 25)).heap (unhide HZ2) (by simp))
  have Hgs := hide (show w.heap.size < gs by rw [← hgs]; have h1 := (unhide HK2).size; have h2 := lt_of_block (unhide HSY).1; have h3 := lt_of_block (unhide HZ2); omega)
  rw [hgs]
  clear hgs hrw
  go_loopw [21] (fun t21 wr => ∃ (k : Nat) (xs : List Nat), k ≤ 8 ∧ t21 = .int .i64 k ∧ Hid (xs.length = 32 ∧ ∀ j, j < 4 * k → xs.getD j 0 = (dig Y).getD j 0) ∧ Hid (wr.heap[gs]? = some (.cells (brow xs) 25 (0, 0))) ∧ Hid (wr.heap[w.heap.size]? = some (.cells (zb 32) 25 (0, 0))) ∧ Hid (Kept [] w wr)) (fun t _ => 8 - (intOf t).toNat)
  case atStart => exact ⟨0, List.replicate 32 0, by omega, rfl, hide ⟨by simp, by intro j hj; omega⟩, HR0, HZ3, HK3⟩
  case round =>
    obtain ⟨k, xs, hk, rfl, HX, HR, HZ, HK⟩ := hrel
    by_cases hlt : k < 8
    · have hlt' : (k : Int) < 8 := by omega
      have hix := run_index_w8 Y k wr (unhide HYw).1 hlt
      have hyl := wordD (unhide HYw).2 k
      have hd0 := dig_get Y k 0 (by rw [(unhide HYw).1]; exact hlt) (by decide)
      have hd1 := dig_get Y k 1 (by rw [(unhide HYw).1]; exact hlt) (by decide)
      have hd2 := dig_get Y k 2 (by rw [(unhide HYw).1]; exact hlt) (by decide)
      have hd3 := dig_get Y k 3 (by rw [(unhide HYw).1]; exact hlt) (by decide)
      obtain ⟨y, hy⟩ : ∃ y, Y.getD k 0 = y := ⟨_, rfl⟩
      rw [hy] at hix hyl hd0 hd1 hd2 hd3
      have HXN := hide (⟨by simpa using (unhide HX).1, fun j hj => by
        have hxl := (unhide HX).1
        rcases (show j < 4 * k ∨ j = 4 * k ∨ j = 4 * k + 1 ∨ j = 4 * k + 2 ∨ j = 4 * k + 3 by omega) with h | rfl | rfl | rfl | rfl
        · rw [getD_set_other _ _ _ _ (by omega), getD_set_other _ _ _ _ (by omega), getD_set_other _ _ _ _ (by omega), getD_set_other _ _ _ _ (by omega)]; exact (unhide HX).2 j h
        · rw [getD_set_other _ _ _ _ (by omega), getD_set_other _ _ _ _ (by omega), getD_set_other _ _ _ _ (by omega), getD_set_same _ _ _ (by omega)]; rw [Nat.add_zero] at hd0; rw [hd0]; rfl
        · rw [getD_set_other _ _ _ _ (by omega), getD_set_other _ _ _ _ (by omega), getD_set_same _ _ _ (by simp; omega)]; rw [hd1]; rfl
        · rw [getD_set_other _ _ _ _ (by omega), getD_set_same _ _ _ (by simp; omega)]; rw [hd2]; rfl
        · rw [getD_set_same _ _ _ (by simp; omega)]; rw [hd3]; rfl⟩ : ((((xs.set (4 * k) (y / 16777216 % 256)).set (4 * k + 1) (y / 65536 % 256)).set (4 * k + 2) (y / 256 % 256)).set (4 * k + 3) (y % 256)).length = 32 ∧ ∀ j, j < 4 * (k + 1) → ((((xs.set (4 * k) (y / 16777216 % 256)).set (4 * k + 1) (y / 65536 % 256)).set (4 * k + 2) (y / 256 % 256)).set (4 * k + 3) (y % 256)).getD j 0 = (dig Y).getD j 0)
      have HN := hide (brow_setCell (brow_setCell (brow_setCell (brow_setCell (unhide HR) (4 * k) (y / 16777216 % 256)) (4 * k + 1) (y / 65536 % 256)) (4 * k + 2) (y / 256 % 256)) (4 * k + 3) (y % 256))
      have HKN := hide (((((unhide HK).setCell (p := ⟨gs, 4 * k, none⟩) (Or.inr (Nat.le_of_lt (unhide Hgs))) (Go.Proofs.YtgnbigijpneebaaDoor.u8 (y / 16777216 % 256))).setCell (p := ⟨gs, 4 * k + 1, none⟩) (Or.inr (Nat.le_of_lt (unhide Hgs))) (Go.Proofs.YtgnbigijpneebaaDoor.u8 (y / 65536 % 256))).setCell (p := ⟨gs, 4 * k + 2, none⟩) (Or.inr (Nat.le_of_lt (unhide Hgs))) (Go.Proofs.YtgnbigijpneebaaDoor.u8 (y / 256 % 256))).setCell (p := ⟨gs, 4 * k + 3, none⟩) (Or.inr (Nat.le_of_lt (unhide Hgs))) (Go.Proofs.YtgnbigijpneebaaDoor.u8 (y % 256)))
      have hgne : w.heap.size ≠ gs := by have := unhide Hgs; omega
      have HZN := hide ((heap_setCell_other _ ⟨gs, 4 * k + 3, none⟩ w.heap.size (Go.Proofs.YtgnbigijpneebaaDoor.u8 (y % 256)) hgne).trans ((heap_setCell_other _ ⟨gs, 4 * k + 2, none⟩ w.heap.size (Go.Proofs.YtgnbigijpneebaaDoor.u8 (y / 256 % 256)) hgne).trans ((heap_setCell_other _ ⟨gs, 4 * k + 1, none⟩ w.heap.size (Go.Proofs.YtgnbigijpneebaaDoor.u8 (y / 65536 % 256)) hgne).trans ((heap_setCell_other wr ⟨gs, 4 * k, none⟩ w.heap.size (Go.Proofs.YtgnbigijpneebaaDoor.u8 (y / 16777216 % 256)) hgne).trans (unhide HZ)))))
      have Q0 := hide (show ((y : Int) / 16777216) = ((y / 16777216 % 256 : Nat) : Int) by omega)
      have Q1 := hide (show ((y : Int) / 65536 % 256) = ((y / 65536 % 256 : Nat) : Int) by omega)
      have Q2 := hide (show ((y : Int) / 256 % 256) = ((y / 256 % 256 : Nat) : Int) by omega)
      have Q3 := hide (show ((y : Int) % 256) = ((y % 256 : Nat) : Int) by omega)
      have R1 := brow_setCell (unhide HR) (4 * k) (y / 16777216 % 256)
      have R2 := brow_setCell R1 (4 * k + 1) (y / 65536 % 256)
      have R3 := brow_setCell R2 (4 * k + 2) (y / 256 % 256)
      have xl := (unhide HX).1
      have a0 := brow_cell (unhide HR) (4 * k) (by omega)
      have a1 := brow_cell (unhide HR) (4 * k + 1) (by omega)
      have a2 := brow_cell (unhide HR) (4 * k + 2) (by omega)
      have a3 := brow_cell (unhide HR) (4 * k + 3) (by omega)
      have f0 : wr.frozen? ⟨gs, 4 * k, none⟩ = false := frozen_of_row _ _ _ _ _ (unhide HR)
      have f1 : wr.frozen? ⟨gs, 4 * k + 1, none⟩ = false := frozen_of_row _ _ _ _ _ (unhide HR)
      have f2 : wr.frozen? ⟨gs, 4 * k + 2, none⟩ = false := frozen_of_row _ _ _ _ _ (unhide HR)
      have f3 : wr.frozen? ⟨gs, 4 * k + 3, none⟩ = false := frozen_of_row _ _ _ _ _ (unhide HR)
      have g1 := brow_cell R1 (4 * k + 1) (by simp; omega)
      have g2 := brow_cell R2 (4 * k + 2) (by simp; omega)
      have g3 := brow_cell R3 (4 * k + 3) (by simp; omega)
      have p1 : ((wr.setCell ⟨gs, 4 * k, none⟩ (Go.Proofs.YtgnbigijpneebaaDoor.u8 (y / 16777216 % 256)))).frozen? ⟨gs, 4 * k + 1, none⟩ = false := frozen_of_row _ _ _ _ _ R1
      have p2 : ((wr.setCell ⟨gs, 4 * k, none⟩ (Go.Proofs.YtgnbigijpneebaaDoor.u8 (y / 16777216 % 256))).setCell ⟨gs, 4 * k + 1, none⟩ (Go.Proofs.YtgnbigijpneebaaDoor.u8 (y / 65536 % 256))).frozen? ⟨gs, 4 * k + 2, none⟩ = false := frozen_of_row _ _ _ _ _ R2
      have p3 : (((wr.setCell ⟨gs, 4 * k, none⟩ (Go.Proofs.YtgnbigijpneebaaDoor.u8 (y / 16777216 % 256))).setCell ⟨gs, 4 * k + 1, none⟩ (Go.Proofs.YtgnbigijpneebaaDoor.u8 (y / 65536 % 256))).setCell ⟨gs, 4 * k + 2, none⟩ (Go.Proofs.YtgnbigijpneebaaDoor.u8 (y / 256 % 256))).frozen? ⟨gs, 4 * k + 3, none⟩ = false := frozen_of_row _ _ _ _ _ R3
      simp only [Go.Proofs.YtgnbigijpneebaaDoor.u8, ← unhide Q0, ← unhide Q1, ← unhide Q2] at g1 g2 g3 p1 p2 p3
      clear hd0 hd1 hd2 hd3 hy xl hgne R1 R2 R3 a1 a2 a3 f1 f2 f3
      generalize xs.getD (4 * k) 0 = v0 at a0
      generalize (xs.set (4 * k) (y / 16777216 % 256)).getD (4 * k + 1) 0 = v1 at g1
      generalize ((xs.set (4 * k) (y / 16777216 % 256)).set (4 * k + 1) (y / 65536 % 256)).getD (4 * k + 2) 0 = v2 at g2
      generalize (((xs.set (4 * k) (y / 16777216 % 256)).set (4 * k + 1) (y / 65536 % 256)).set (4 * k + 2) (y / 256 % 256)).getD (4 * k + 3) 0 = v3 at g3
      go_wp2
      go_roundw
      case rel => exact ⟨k + 1, _, by omega, by go_num, HXN, hide (by rw [unhide Q0, unhide Q1, unhide Q2, unhide Q3]; exact unhide HN), hide (by rw [unhide Q0, unhide Q1, unhide Q2, unhide Q3]; exact unhide HZN), hide (by rw [unhide Q0, unhide Q1, unhide Q2, unhide Q3]; exact unhide HKN)⟩
      case measure => simp [intOf]; omega
    · have hlt' : ¬ (k : Int) < 8 := by omega
      have hk8 : k = 8 := by omega
      subst hk8
      have hxe : xs = hash t := by
        rw [unhide HD]
        exact list_ext_getD (by rw [(unhide HX).1, dig_len, (unhide HYw).1]) (fun j hj => (unhide HX).2 j (by rw [(unhide HX).1] at hj; omega))
      subst hxe
      have HZs := hide (by rw [brow_size, (unhide HX).1]; exact Tryd.size_a32b : (Tryd.prog.info? 25).map (·.size) = some (brow (hash t)).size)
      go_wp2_with (first
        | (refine wpList_load_row rfl 25 (.tmp 4) rfl gs rfl _ (brow (hash t)) (0, 0) _ (unhide HR) Tryd.underlying25 rfl (unhide HZs) ?_)
        | (refine wpList_store_row rfl 25 (.tmp 2) _ rfl w.heap.size (brow (hash t)) rfl rfl _ (zb 32) (unhide HZ) (unhide HZs) (by rw [zb_size, brow_size, (unhide HX).1]) (brow_one _) ?_))
      refine bodyPost_ret (v := .agg (brow (hash t))) ?_ rfl ⟨rfl, (unhide HK).setRow (by simp) _⟩
      exact results_cell_row rfl _ _ w.heap.size _ (brow (hash t)) (0, 0) _ rfl (setRow_heap _ _ _ _ _ _ (unhide HZ)) Tryd.underlying25 rfl (unhide HZs)

set_option maxRecDepth 100000 in
set_option maxHeartbeats 1000000 in
theorem snew_any (w : World) : Calls Tryd.prog 61 #[] w fun e w' => e = .returned (.pointer (some ⟨w.heap.size, 0, none⟩)) ∧ St w' w.heap.size [] ∧ Kept [] w w' := by
  have hzs := zero_st
  go_enter Tryd.func61, Tryd.ntmps61
  go_wp2_with (refine wpList_store_row rfl 120 _ _ rfl w.heap.size zst rfl rfl _ zst (heap_alloc_new _ _) (by rw [zst_size]; exact Tryd.size_state) rfl (stc_one _ _ _) ?_)
  go_ret
  exact ⟨rfl, st_zero (heap_alloc_new _ _), (Kept.refl [] w).alloc _⟩
end Go.Proofs.YtgnbigijpneebaaDoor
