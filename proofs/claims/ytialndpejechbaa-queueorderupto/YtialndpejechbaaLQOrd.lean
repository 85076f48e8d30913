import Derived.Test.YtialndpejechbaaLQOrd0
namespace Go.Proofs.Ytialndpejechbaa
open Go.RowKit Go.MuLone Go.BigFrame
set_option linter.unusedVariables false
set_option linter.unusedSimpArgs false

theorem wpList_pushN {ops : Array Oper} {rest : List Oper} {o : Oper} {a : Act} {Q : Exit → Act → World → Prop} (hgd : o.guard = none) (s x : Operand)
    (ho : o.op = .call { callee := .builtin .append, args := #[s, x], argTypes := #[36, 36] })
    (w : World) (v : Value) (xs : List Value) (n : Nat) (hn : xs.length = n) (y : Value) (H : Nat) (h : Qr w 41 v xs) (hnew : w.heap[H]? = some (.cells #[y] 41 (0, 0))) (hy : y.oneCell' = true) (hl : n ≤ 1000000000000)
    (hs : a.eval s = v) (hx : a.eval x = .slice (some ⟨H, 0, none⟩) 1 1)
    (hK : ∀ ao cap w1, Hid (Qr w1 41 (.slice ao (n + 1) cap) (xs ++ [y])) → Hid (Kept (blk v) w w1) → Hid (∀ b ∈ blk (.slice ao (n + 1) cap), b ∈ blk v ∨ w.heap.size ≤ b) →
      wpList Try.prog ops Q rest (a.put o.dst (.slice ao (n + 1) cap)) w1) :
    wpList Try.prog ops Q (o :: rest) a w := by
  subst hn
  exact wpList_pushQ hgd s x 36 41 ho (.slice none 0 0) 24 Try.underlying36 Try.infoBy rfl (by decide) w v xs y H h hnew hy hl hs hx hK
def sliceLen : Value → Nat
  | .slice _ n _ => n
  | _ => 0
theorem take_push {vs : List Value} {i : Nat} (h : i < vs.length) : vs.take i ++ [vs.getD i undef] = vs.take (i + 1) := by
  rw [List.take_succ_eq_append_getElem h, List.getD_eq_getElem?_getD, List.getElem?_eq_getElem h]; rfl
theorem drop_push {vs : List Value} {i g : Nat} (h : i < vs.length) (hg : g ≤ i) : (vs.take i).drop g ++ [vs.getD i undef] = (vs.take (i + 1)).drop g := by
  rw [← take_push h, List.drop_append_of_le_length (by simp; omega)]
theorem drop_pop {vs : List Value} {i g : Nat} (h : i ≤ vs.length) (hg : g < i) : (vs.take i).drop g = vs.getD g undef :: (vs.take i).drop (g + 1) := by
  rw [List.drop_eq_getElem_cons (by simp; omega), List.getElem_take, List.getD_eq_getElem?_getD, List.getElem?_eq_getElem (by omega)]; rfl
theorem rd_shape {w : World} {v : Value} {bs : List Nat} (h : Rd w v bs) : ∃ a n c, v = .slice a n c := by
  obtain ⟨a, n, c, rfl, _⟩ := h; exact ⟨a, n, c, rfl⟩

set_option maxRecDepth 100000 in
set_option maxHeartbeats 4000000 in
theorem queueOrder_walk (pl : Int) (v : Value) (bs : List (List Nat)) (v2 : Value) (ts : List Bool) (w : World) (hx : -9223372036854775808 ≤ pl ∧ pl ≤ 9223372036854775807) (h : RdL w v bs) (hfl : bs.flatten.length ≤ 1048576) (hl : bs.length ≤ 1048576) (h' : RdBo w v2 ts) (hl' : ts.length ≤ 1048576) :
    Calls Try.prog 5 #[.int .i64 pl, v, v2] w fun e w' => e = .returned (.bool true) ∧ Below w.heap.size w w' := by
  obtain ⟨ao, len, cap, vs, rfl, h1, h2, h3, h4, h5, h6⟩ := h
  subst h1
  have H5 := hide h5
  have H6 := hide h6
  obtain ⟨ao2, cap2, rfl, g1, g2, g3⟩ := h'
  have G3 := hide g3
  clear h5 h6 g3
  by_cases hp : 1 ≤ pl ∧ pl ≤ 64
  · obtain ⟨hp1, hp2⟩ := hp
    go_enter Try.func5, Try.ntmps5
    go_wp2_with (first
      | (go_at_call 8; refine (qawake_any _).mono ?_; rintro e w1 ⟨rfl, k1⟩; have HK := hide k1; clear k1)
      | (go_at_call 12; refine (newB_any pl _ ⟨hp1, hp2⟩).mono ?_; rintro e w2 ⟨q, rfl, n1, n2, n3⟩; have HT := hide (QO.mk (w0 := w) n2 (Qr.nil _ _) (Qr.nil _ _) (by simp [blk]) (by simp [blk]) (by simp [blk]) (Nat.le_trans (unhide HK).size n1) (by simp [blk]) (by simp [blk]) (by simp [blk]) ((unhide HK).trans n3 (by simp))); clear n1 n2 n3 HK))
    go_loopw [9, 10, 38] (fun t9 t10 t38 wr => ∃ (i g : Nat) (vq : Value) (ap : Option Addr) (cp : Nat) (ag : Option Addr) (cg : Nat), i ≤ vs.length ∧ g ≤ i ∧ t9 = .slice ap i cp ∧ t10 = .slice ag g cg ∧ t38 = .int .i64 i ∧ Hid (QO w wr q pl vq ((vs.take i).drop g) false (.slice ap i cp) (vs.take i) (.slice ag g cg) (vs.take g))) (fun _ _ t _ => vs.length - (intOf t).toNat)
    case atStart => exact ⟨0, 0, _, none, 0, none, 0, Nat.zero_le _, Nat.le_refl _, rfl, rfl, rfl, HT⟩
    case round =>
      obtain ⟨i, g, vq, ap, cp, ag, cg, hi, hgi, rfl, rfl, rfl, HT⟩ := hrel
      by_cases hlt : i < vs.length
      · have hlt' : (i : Int) < vs.length := by omega
        obtain ⟨b, off, rfl, hcc⟩ := unhide H5 (by omega)
        have c1 := (unhide HT).kept.cell (hcc i hlt) (by simp)
        clear hcc
        obtain ⟨xa, xn, xc, hxe⟩ := rd_shape (unhide H6 i hlt)
        have HX := hide hxe
        rw [hxe] at c1
        clear hxe
        have hti : (vs.take i).length = i := by simp; omega
        have htg : (vs.take g).length = g := by simp; omega
        have HTI := hide hti
        have HTG := hide htg
        clear hti htg
        obtain ⟨d, hd⟩ : ∃ d, d = i - g := ⟨_, rfl⟩
        have HDL := hide (by simp; omega : ((vs.take i).drop g).length = d)
        have HDL2 := hide (by simp; omega : ((vs.take (i + 1)).drop g).length = d + 1)
        by_cases hput : (d : Int) + 1 ≤ pl
        · skip
          by_cases htl : i < ts.length
          · have htl' : (i : Int) < ts.length := by omega
            obtain ⟨tb, toff, rfl, htc⟩ := unhide G3 (by omega)
            have htc : ∀ i, i < ts.length → w.cell? ⟨tb, toff + i, none⟩ = some (.bool (ts.getD i false)) := htc
            cases htv : ts.getD i false
            · skip
              go_wp2_with (go_at_call 13; refine (qo_put xa xn xc (unhide HT) hp1 (by rw [unhide HDL]; omega) true (by rw [unhide HDL]; simp; omega)).mono ?_; rintro e w1 ⟨rfl, vq1, h1⟩; rw [← unhide HX, drop_push hlt hgi] at h1; replace HT := hide h1; clear h1)
              refine (qo_line (unhide HT) hp1 (by rw [unhide HDL2]; omega) (0) (by rw [unhide HDL2, inQ]; rw [if_pos (by omega)]; omega)).mono ?_
              rintro e w3 ⟨rfl, h1⟩
              replace HT := hide h1
              clear h1
              go_wp2_with (refine wpList_pushN rfl _ _ rfl _ (.slice ap i cp) (vs.take i) i (unhide HTI) (.slice xa xn xc) w3.heap.size ((unhide HT).pass ((Kept.refl [] w3).alloc (.cells #[.slice xa xn xc] 41))).pr (heap_alloc_new _ _) rfl (by omega) rfl rfl ?_; intro ap2 cp2 w4 A1 A2 A3; rw [← unhide HX, take_push hlt] at A1; replace HT := hide (((unhide HT).pass ((Kept.refl [] w3).alloc (.cells #[.slice xa xn xc] 41))).pushP (unhide A2) (unhide A1) (unhide A3)); clear A1 A2 A3; have ct := (unhide HT).kept.cell (htc i htl) (by simp); rw [htv] at ct)
              obtain ⟨m, hmE⟩ : ∃ m, m = i + 1 - (g) := ⟨_, rfl⟩
              have hmm : ((vs.take (i + 1)).drop (g)).length = m := by simp; omega
              have hmI : (i : Int) + 1 - ((g : Nat) : Int) = (m : Int) := by omega
              have hmb : (m : Int) ≤ 1048576 := by omega
              have hm0 : (0 : Int) ≤ m := by omega
              by_cases hle : (m : Int) ≤ pl
              · have hLen : inQ pl ((vs.take (i + 1)).drop (g)).length = (m : Int) := by rw [hmm, inQ, if_pos hle]
                have hLine : (((vs.take (i + 1)).drop (g)).length : Int) - inQ pl ((vs.take (i + 1)).drop (g)).length = 0 := by rw [hLen, hmm]; omega
                have hngt : ¬ pl < (m : Int) := by omega
                have hdm : ((i : Int) + 1 - ((g : Nat) : Int)) = (m : Int) := hmI
                go_wp2_with (first
                  | (go_at_call 16; refine (qo_len (unhide HT) hp1 (by rw [hmm]; omega) ((m : Int)) hLen).mono ?_; rintro e w1 ⟨rfl, h1⟩; replace HT := hide h1; clear h1)
                  | (go_at_call 14; refine (qo_line (unhide HT) hp1 (by rw [hmm]; omega) (0) hLine).mono ?_; rintro e w1 ⟨rfl, h1⟩; replace HT := hide h1; clear h1))
                all_goals (refine ⟨⟨i + 1, g, _, _, _, _, _, by omega, by omega, rfl, rfl, by go_num, HT⟩, ?_⟩; simp [intOf]; omega)
              · obtain ⟨R, hRE⟩ : ∃ R : Int, R = (m : Int) - pl := ⟨_, rfl⟩
                have hLen : inQ pl ((vs.take (i + 1)).drop (g)).length = pl := by rw [hmm, inQ, if_neg hle]
                have hLine : (((vs.take (i + 1)).drop (g)).length : Int) - inQ pl ((vs.take (i + 1)).drop (g)).length = R := by rw [hLen, hmm]; omega
                have hsum : pl + R = (m : Int) := by omega
                have hRp : 0 < R := by omega
                go_wp2_with (first
                  | (go_at_call 16; refine (qo_len (unhide HT) hp1 (by rw [hmm]; omega) (pl) hLen).mono ?_; rintro e w1 ⟨rfl, h1⟩; replace HT := hide h1; clear h1)
                  | (go_at_call 14; refine (qo_line (unhide HT) hp1 (by rw [hmm]; omega) (R) hLine).mono ?_; rintro e w1 ⟨rfl, h1⟩; replace HT := hide h1; clear h1))
                all_goals (refine ⟨⟨i + 1, g, _, _, _, _, _, by omega, by omega, rfl, rfl, by go_num, HT⟩, ?_⟩; simp [intOf]; omega)
            · obtain ⟨ya, yn, yc, hye⟩ := rd_shape (unhide H6 g (by omega))
              have HY := hide hye
              clear hye
              go_wp2_with (go_at_call 13; refine (qo_put xa xn xc (unhide HT) hp1 (by rw [unhide HDL]; omega) true (by rw [unhide HDL]; simp; omega)).mono ?_; rintro e w1 ⟨rfl, vq1, h1⟩; rw [← unhide HX, drop_push hlt hgi] at h1; replace HT := hide h1; clear h1)
              refine (qo_line (unhide HT) hp1 (by rw [unhide HDL2]; omega) (0) (by rw [unhide HDL2, inQ]; rw [if_pos (by omega)]; omega)).mono ?_
              rintro e w3 ⟨rfl, h1⟩
              replace HT := hide h1
              clear h1
              go_wp2_with (refine wpList_pushN rfl _ _ rfl _ (.slice ap i cp) (vs.take i) i (unhide HTI) (.slice xa xn xc) w3.heap.size ((unhide HT).pass ((Kept.refl [] w3).alloc (.cells #[.slice xa xn xc] 41))).pr (heap_alloc_new _ _) rfl (by omega) rfl rfl ?_; intro ap2 cp2 w4 A1 A2 A3; rw [← unhide HX, take_push hlt] at A1; replace HT := hide (((unhide HT).pass ((Kept.refl [] w3).alloc (.cells #[.slice xa xn xc] 41))).pushP (unhide A2) (unhide A1) (unhide A3)); clear A1 A2 A3; have ct := (unhide HT).kept.cell (htc i htl) (by simp); rw [htv] at ct)
              rw [drop_pop (by omega) (by omega), unhide HY] at HT
              refine (qo_take (unhide HT) hp1).mono ?_
              rintro e w5 ⟨rfl, vq5, h1⟩
              replace HT := hide h1
              clear h1
              go_wp2_with (refine wpList_pushN rfl _ _ rfl _ (.slice ag g cg) (vs.take g) g (unhide HTG) (.slice ya yn yc) w5.heap.size ((unhide HT).pass ((Kept.refl [] w5).alloc (.cells #[.slice ya yn yc] 41))).gr (heap_alloc_new _ _) rfl (by omega) rfl rfl ?_; intro ag2 cg2 w6 A1 A2 A3; rw [← unhide HY, take_push (by omega)] at A1; replace HT := hide (((unhide HT).pass ((Kept.refl [] w5).alloc (.cells #[.slice ya yn yc] 41))).pushG (unhide A2) (unhide A1) (unhide A3)); clear A1 A2 A3)
              obtain ⟨m, hmE⟩ : ∃ m, m = i + 1 - (g + 1) := ⟨_, rfl⟩
              have hmm : ((vs.take (i + 1)).drop (g + 1)).length = m := by simp; omega
              have hmI : (i : Int) + 1 - ((g + 1 : Nat) : Int) = (m : Int) := by omega
              have hmb : (m : Int) ≤ 1048576 := by omega
              have hm0 : (0 : Int) ≤ m := by omega
              by_cases hle : (m : Int) ≤ pl
              · have hLen : inQ pl ((vs.take (i + 1)).drop (g + 1)).length = (m : Int) := by rw [hmm, inQ, if_pos hle]
                have hLine : (((vs.take (i + 1)).drop (g + 1)).length : Int) - inQ pl ((vs.take (i + 1)).drop (g + 1)).length = 0 := by rw [hLen, hmm]; omega
                have hngt : ¬ pl < (m : Int) := by omega
                have hdm : ((i : Int) + 1 - ((g + 1 : Nat) : Int)) = (m : Int) := hmI
                go_wp2_with (first
                  | (go_at_call 16; refine (qo_len (unhide HT) hp1 (by rw [hmm]; omega) ((m : Int)) hLen).mono ?_; rintro e w1 ⟨rfl, h1⟩; replace HT := hide h1; clear h1)
                  | (go_at_call 14; refine (qo_line (unhide HT) hp1 (by rw [hmm]; omega) (0) hLine).mono ?_; rintro e w1 ⟨rfl, h1⟩; replace HT := hide h1; clear h1))
                all_goals (refine ⟨⟨i + 1, g + 1, _, _, _, _, _, by omega, by omega, rfl, rfl, by go_num, HT⟩, ?_⟩; simp [intOf]; omega)
              · obtain ⟨R, hRE⟩ : ∃ R : Int, R = (m : Int) - pl := ⟨_, rfl⟩
                have hLen : inQ pl ((vs.take (i + 1)).drop (g + 1)).length = pl := by rw [hmm, inQ, if_neg hle]
                have hLine : (((vs.take (i + 1)).drop (g + 1)).length : Int) - inQ pl ((vs.take (i + 1)).drop (g + 1)).length = R := by rw [hLen, hmm]; omega
                have hsum : pl + R = (m : Int) := by omega
                have hRp : 0 < R := by omega
                go_wp2_with (first
                  | (go_at_call 16; refine (qo_len (unhide HT) hp1 (by rw [hmm]; omega) (pl) hLen).mono ?_; rintro e w1 ⟨rfl, h1⟩; replace HT := hide h1; clear h1)
                  | (go_at_call 14; refine (qo_line (unhide HT) hp1 (by rw [hmm]; omega) (R) hLine).mono ?_; rintro e w1 ⟨rfl, h1⟩; replace HT := hide h1; clear h1))
                all_goals (refine ⟨⟨i + 1, g + 1, _, _, _, _, _, by omega, by omega, rfl, rfl, by go_num, HT⟩, ?_⟩; simp [intOf]; omega)
          · have htl' : ¬ (i : Int) < ts.length := by omega
            go_wp2_with (go_at_call 13; refine (qo_put xa xn xc (unhide HT) hp1 (by rw [unhide HDL]; omega) true (by rw [unhide HDL]; simp; omega)).mono ?_; rintro e w1 ⟨rfl, vq1, h1⟩; rw [← unhide HX, drop_push hlt hgi] at h1; replace HT := hide h1; clear h1)
            refine (qo_line (unhide HT) hp1 (by rw [unhide HDL2]; omega) (0) (by rw [unhide HDL2, inQ]; rw [if_pos (by omega)]; omega)).mono ?_
            rintro e w3 ⟨rfl, h1⟩
            replace HT := hide h1
            clear h1
            go_wp2_with (refine wpList_pushN rfl _ _ rfl _ (.slice ap i cp) (vs.take i) i (unhide HTI) (.slice xa xn xc) w3.heap.size ((unhide HT).pass ((Kept.refl [] w3).alloc (.cells #[.slice xa xn xc] 41))).pr (heap_alloc_new _ _) rfl (by omega) rfl rfl ?_; intro ap2 cp2 w4 A1 A2 A3; rw [← unhide HX, take_push hlt] at A1; replace HT := hide (((unhide HT).pass ((Kept.refl [] w3).alloc (.cells #[.slice xa xn xc] 41))).pushP (unhide A2) (unhide A1) (unhide A3)); clear A1 A2 A3)
            obtain ⟨m, hmE⟩ : ∃ m, m = i + 1 - (g) := ⟨_, rfl⟩
            have hmm : ((vs.take (i + 1)).drop (g)).length = m := by simp; omega
            have hmI : (i : Int) + 1 - ((g : Nat) : Int) = (m : Int) := by omega
            have hmb : (m : Int) ≤ 1048576 := by omega
            have hm0 : (0 : Int) ≤ m := by omega
            by_cases hle : (m : Int) ≤ pl
            · have hLen : inQ pl ((vs.take (i + 1)).drop (g)).length = (m : Int) := by rw [hmm, inQ, if_pos hle]
              have hLine : (((vs.take (i + 1)).drop (g)).length : Int) - inQ pl ((vs.take (i + 1)).drop (g)).length = 0 := by rw [hLen, hmm]; omega
              have hngt : ¬ pl < (m : Int) := by omega
              have hdm : ((i : Int) + 1 - ((g : Nat) : Int)) = (m : Int) := hmI
              go_wp2_with (first
                | (go_at_call 16; refine (qo_len (unhide HT) hp1 (by rw [hmm]; omega) ((m : Int)) hLen).mono ?_; rintro e w1 ⟨rfl, h1⟩; replace HT := hide h1; clear h1)
                | (go_at_call 14; refine (qo_line (unhide HT) hp1 (by rw [hmm]; omega) (0) hLine).mono ?_; rintro e w1 ⟨rfl, h1⟩; replace HT := hide h1; clear h1))
              all_goals (refine ⟨⟨i + 1, g, _, _, _, _, _, by omega, by omega, rfl, rfl, by go_num, HT⟩, ?_⟩; simp [intOf]; omega)
            · obtain ⟨R, hRE⟩ : ∃ R : Int, R = (m : Int) - pl := ⟨_, rfl⟩
              have hLen : inQ pl ((vs.take (i + 1)).drop (g)).length = pl := by rw [hmm, inQ, if_neg hle]
              have hLine : (((vs.take (i + 1)).drop (g)).length : Int) - inQ pl ((vs.take (i + 1)).drop (g)).length = R := by rw [hLen, hmm]; omega
              have hsum : pl + R = (m : Int) := by omega
              have hRp : 0 < R := by omega
              go_wp2_with (first
                | (go_at_call 16; refine (qo_len (unhide HT) hp1 (by rw [hmm]; omega) (pl) hLen).mono ?_; rintro e w1 ⟨rfl, h1⟩; replace HT := hide h1; clear h1)
                | (go_at_call 14; refine (qo_line (unhide HT) hp1 (by rw [hmm]; omega) (R) hLine).mono ?_; rintro e w1 ⟨rfl, h1⟩; replace HT := hide h1; clear h1))
              all_goals (refine ⟨⟨i + 1, g, _, _, _, _, _, by omega, by omega, rfl, rfl, by go_num, HT⟩, ?_⟩; simp [intOf]; omega)
        · obtain ⟨L0, hL0⟩ : ∃ L0 : Int, L0 = (d : Int) + 1 - pl := ⟨_, rfl⟩
          have hL1 : (L0 == 0) = false := by simp; omega
          by_cases htl : i < ts.length
          · have htl' : (i : Int) < ts.length := by omega
            obtain ⟨tb, toff, rfl, htc⟩ := unhide G3 (by omega)
            have htc : ∀ i, i < ts.length → w.cell? ⟨tb, toff + i, none⟩ = some (.bool (ts.getD i false)) := htc
            cases htv : ts.getD i false
            · skip
              go_wp2_with (go_at_call 13; refine (qo_put xa xn xc (unhide HT) hp1 (by rw [unhide HDL]; omega) false (by rw [unhide HDL]; simp; omega)).mono ?_; rintro e w1 ⟨rfl, vq1, h1⟩; rw [← unhide HX, drop_push hlt hgi] at h1; replace HT := hide h1; clear h1)
              refine (qo_line (unhide HT) hp1 (by rw [unhide HDL2]; omega) (L0) (by rw [unhide HDL2, inQ]; rw [if_neg (by omega)]; omega)).mono ?_
              rintro e w3 ⟨rfl, h1⟩
              replace HT := hide h1
              clear h1
              go_wp2_with (refine wpList_pushN rfl _ _ rfl _ (.slice ap i cp) (vs.take i) i (unhide HTI) (.slice xa xn xc) w3.heap.size ((unhide HT).pass ((Kept.refl [] w3).alloc (.cells #[.slice xa xn xc] 41))).pr (heap_alloc_new _ _) rfl (by omega) rfl rfl ?_; intro ap2 cp2 w4 A1 A2 A3; rw [← unhide HX, take_push hlt] at A1; replace HT := hide (((unhide HT).pass ((Kept.refl [] w3).alloc (.cells #[.slice xa xn xc] 41))).pushP (unhide A2) (unhide A1) (unhide A3)); clear A1 A2 A3; have ct := (unhide HT).kept.cell (htc i htl) (by simp); rw [htv] at ct)
              obtain ⟨m, hmE⟩ : ∃ m, m = i + 1 - (g) := ⟨_, rfl⟩
              have hmm : ((vs.take (i + 1)).drop (g)).length = m := by simp; omega
              have hmI : (i : Int) + 1 - ((g : Nat) : Int) = (m : Int) := by omega
              have hmb : (m : Int) ≤ 1048576 := by omega
              have hm0 : (0 : Int) ≤ m := by omega
              by_cases hle : (m : Int) ≤ pl
              · have hLen : inQ pl ((vs.take (i + 1)).drop (g)).length = (m : Int) := by rw [hmm, inQ, if_pos hle]
                have hLine : (((vs.take (i + 1)).drop (g)).length : Int) - inQ pl ((vs.take (i + 1)).drop (g)).length = 0 := by rw [hLen, hmm]; omega
                have hngt : ¬ pl < (m : Int) := by omega
                have hdm : ((i : Int) + 1 - ((g : Nat) : Int)) = (m : Int) := hmI
                go_wp2_with (first
                  | (go_at_call 16; refine (qo_len (unhide HT) hp1 (by rw [hmm]; omega) ((m : Int)) hLen).mono ?_; rintro e w1 ⟨rfl, h1⟩; replace HT := hide h1; clear h1)
                  | (go_at_call 14; refine (qo_line (unhide HT) hp1 (by rw [hmm]; omega) (0) hLine).mono ?_; rintro e w1 ⟨rfl, h1⟩; replace HT := hide h1; clear h1))
                all_goals (refine ⟨⟨i + 1, g, _, _, _, _, _, by omega, by omega, rfl, rfl, by go_num, HT⟩, ?_⟩; simp [intOf]; omega)
              · obtain ⟨R, hRE⟩ : ∃ R : Int, R = (m : Int) - pl := ⟨_, rfl⟩
                have hLen : inQ pl ((vs.take (i + 1)).drop (g)).length = pl := by rw [hmm, inQ, if_neg hle]
                have hLine : (((vs.take (i + 1)).drop (g)).length : Int) - inQ pl ((vs.take (i + 1)).drop (g)).length = R := by rw [hLen, hmm]; omega
                have hsum : pl + R = (m : Int) := by omega
                have hRp : 0 < R := by omega
                go_wp2_with (first
                  | (go_at_call 16; refine (qo_len (unhide HT) hp1 (by rw [hmm]; omega) (pl) hLen).mono ?_; rintro e w1 ⟨rfl, h1⟩; replace HT := hide h1; clear h1)
                  | (go_at_call 14; refine (qo_line (unhide HT) hp1 (by rw [hmm]; omega) (R) hLine).mono ?_; rintro e w1 ⟨rfl, h1⟩; replace HT := hide h1; clear h1))
                all_goals (refine ⟨⟨i + 1, g, _, _, _, _, _, by omega, by omega, rfl, rfl, by go_num, HT⟩, ?_⟩; simp [intOf]; omega)
            · obtain ⟨ya, yn, yc, hye⟩ := rd_shape (unhide H6 g (by omega))
              have HY := hide hye
              clear hye
              go_wp2_with (go_at_call 13; refine (qo_put xa xn xc (unhide HT) hp1 (by rw [unhide HDL]; omega) false (by rw [unhide HDL]; simp; omega)).mono ?_; rintro e w1 ⟨rfl, vq1, h1⟩; rw [← unhide HX, drop_push hlt hgi] at h1; replace HT := hide h1; clear h1)
              refine (qo_line (unhide HT) hp1 (by rw [unhide HDL2]; omega) (L0) (by rw [unhide HDL2, inQ]; rw [if_neg (by omega)]; omega)).mono ?_
              rintro e w3 ⟨rfl, h1⟩
              replace HT := hide h1
              clear h1
              go_wp2_with (refine wpList_pushN rfl _ _ rfl _ (.slice ap i cp) (vs.take i) i (unhide HTI) (.slice xa xn xc) w3.heap.size ((unhide HT).pass ((Kept.refl [] w3).alloc (.cells #[.slice xa xn xc] 41))).pr (heap_alloc_new _ _) rfl (by omega) rfl rfl ?_; intro ap2 cp2 w4 A1 A2 A3; rw [← unhide HX, take_push hlt] at A1; replace HT := hide (((unhide HT).pass ((Kept.refl [] w3).alloc (.cells #[.slice xa xn xc] 41))).pushP (unhide A2) (unhide A1) (unhide A3)); clear A1 A2 A3; have ct := (unhide HT).kept.cell (htc i htl) (by simp); rw [htv] at ct)
              rw [drop_pop (by omega) (by omega), unhide HY] at HT
              refine (qo_take (unhide HT) hp1).mono ?_
              rintro e w5 ⟨rfl, vq5, h1⟩
              replace HT := hide h1
              clear h1
              go_wp2_with (refine wpList_pushN rfl _ _ rfl _ (.slice ag g cg) (vs.take g) g (unhide HTG) (.slice ya yn yc) w5.heap.size ((unhide HT).pass ((Kept.refl [] w5).alloc (.cells #[.slice ya yn yc] 41))).gr (heap_alloc_new _ _) rfl (by omega) rfl rfl ?_; intro ag2 cg2 w6 A1 A2 A3; rw [← unhide HY, take_push (by omega)] at A1; replace HT := hide (((unhide HT).pass ((Kept.refl [] w5).alloc (.cells #[.slice ya yn yc] 41))).pushG (unhide A2) (unhide A1) (unhide A3)); clear A1 A2 A3)
              obtain ⟨m, hmE⟩ : ∃ m, m = i + 1 - (g + 1) := ⟨_, rfl⟩
              have hmm : ((vs.take (i + 1)).drop (g + 1)).length = m := by simp; omega
              have hmI : (i : Int) + 1 - ((g + 1 : Nat) : Int) = (m : Int) := by omega
              have hmb : (m : Int) ≤ 1048576 := by omega
              have hm0 : (0 : Int) ≤ m := by omega
              by_cases hle : (m : Int) ≤ pl
              · have hLen : inQ pl ((vs.take (i + 1)).drop (g + 1)).length = (m : Int) := by rw [hmm, inQ, if_pos hle]
                have hLine : (((vs.take (i + 1)).drop (g + 1)).length : Int) - inQ pl ((vs.take (i + 1)).drop (g + 1)).length = 0 := by rw [hLen, hmm]; omega
                have hngt : ¬ pl < (m : Int) := by omega
                have hdm : ((i : Int) + 1 - ((g + 1 : Nat) : Int)) = (m : Int) := hmI
                go_wp2_with (first
                  | (go_at_call 16; refine (qo_len (unhide HT) hp1 (by rw [hmm]; omega) ((m : Int)) hLen).mono ?_; rintro e w1 ⟨rfl, h1⟩; replace HT := hide h1; clear h1)
                  | (go_at_call 14; refine (qo_line (unhide HT) hp1 (by rw [hmm]; omega) (0) hLine).mono ?_; rintro e w1 ⟨rfl, h1⟩; replace HT := hide h1; clear h1))
                all_goals (refine ⟨⟨i + 1, g + 1, _, _, _, _, _, by omega, by omega, rfl, rfl, by go_num, HT⟩, ?_⟩; simp [intOf]; omega)
              · obtain ⟨R, hRE⟩ : ∃ R : Int, R = (m : Int) - pl := ⟨_, rfl⟩
                have hLen : inQ pl ((vs.take (i + 1)).drop (g + 1)).length = pl := by rw [hmm, inQ, if_neg hle]
                have hLine : (((vs.take (i + 1)).drop (g + 1)).length : Int) - inQ pl ((vs.take (i + 1)).drop (g + 1)).length = R := by rw [hLen, hmm]; omega
                have hsum : pl + R = (m : Int) := by omega
                have hRp : 0 < R := by omega
                go_wp2_with (first
                  | (go_at_call 16; refine (qo_len (unhide HT) hp1 (by rw [hmm]; omega) (pl) hLen).mono ?_; rintro e w1 ⟨rfl, h1⟩; replace HT := hide h1; clear h1)
                  | (go_at_call 14; refine (qo_line (unhide HT) hp1 (by rw [hmm]; omega) (R) hLine).mono ?_; rintro e w1 ⟨rfl, h1⟩; replace HT := hide h1; clear h1))
                all_goals (refine ⟨⟨i + 1, g + 1, _, _, _, _, _, by omega, by omega, rfl, rfl, by go_num, HT⟩, ?_⟩; simp [intOf]; omega)
          · have htl' : ¬ (i : Int) < ts.length := by omega
            go_wp2_with (go_at_call 13; refine (qo_put xa xn xc (unhide HT) hp1 (by rw [unhide HDL]; omega) false (by rw [unhide HDL]; simp; omega)).mono ?_; rintro e w1 ⟨rfl, vq1, h1⟩; rw [← unhide HX, drop_push hlt hgi] at h1; replace HT := hide h1; clear h1)
            refine (qo_line (unhide HT) hp1 (by rw [unhide HDL2]; omega) (L0) (by rw [unhide HDL2, inQ]; rw [if_neg (by omega)]; omega)).mono ?_
            rintro e w3 ⟨rfl, h1⟩
            replace HT := hide h1
            clear h1
            go_wp2_with (refine wpList_pushN rfl _ _ rfl _ (.slice ap i cp) (vs.take i) i (unhide HTI) (.slice xa xn xc) w3.heap.size ((unhide HT).pass ((Kept.refl [] w3).alloc (.cells #[.slice xa xn xc] 41))).pr (heap_alloc_new _ _) rfl (by omega) rfl rfl ?_; intro ap2 cp2 w4 A1 A2 A3; rw [← unhide HX, take_push hlt] at A1; replace HT := hide (((unhide HT).pass ((Kept.refl [] w3).alloc (.cells #[.slice xa xn xc] 41))).pushP (unhide A2) (unhide A1) (unhide A3)); clear A1 A2 A3)
            obtain ⟨m, hmE⟩ : ∃ m, m = i + 1 - (g) := ⟨_, rfl⟩
            have hmm : ((vs.take (i + 1)).drop (g)).length = m := by simp; omega
            have hmI : (i : Int) + 1 - ((g : Nat) : Int) = (m : Int) := by omega
            have hmb : (m : Int) ≤ 1048576 := by omega
            have hm0 : (0 : Int) ≤ m := by omega
            by_cases hle : (m : Int) ≤ pl
            · have hLen : inQ pl ((vs.take (i + 1)).drop (g)).length = (m : Int) := by rw [hmm, inQ, if_pos hle]
              have hLine : (((vs.take (i + 1)).drop (g)).length : Int) - inQ pl ((vs.take (i + 1)).drop (g)).length = 0 := by rw [hLen, hmm]; omega
              have hngt : ¬ pl < (m : Int) := by omega
              have hdm : ((i : Int) + 1 - ((g : Nat) : Int)) = (m : Int) := hmI
              go_wp2_with (first
                | (go_at_call 16; refine (qo_len (unhide HT) hp1 (by rw [hmm]; omega) ((m : Int)) hLen).mono ?_; rintro e w1 ⟨rfl, h1⟩; replace HT := hide h1; clear h1)
                | (go_at_call 14; refine (qo_line (unhide HT) hp1 (by rw [hmm]; omega) (0) hLine).mono ?_; rintro e w1 ⟨rfl, h1⟩; replace HT := hide h1; clear h1))
              all_goals (refine ⟨⟨i + 1, g, _, _, _, _, _, by omega, by omega, rfl, rfl, by go_num, HT⟩, ?_⟩; simp [intOf]; omega)
            · obtain ⟨R, hRE⟩ : ∃ R : Int, R = (m : Int) - pl := ⟨_, rfl⟩
              have hLen : inQ pl ((vs.take (i + 1)).drop (g)).length = pl := by rw [hmm, inQ, if_neg hle]
              have hLine : (((vs.take (i + 1)).drop (g)).length : Int) - inQ pl ((vs.take (i + 1)).drop (g)).length = R := by rw [hLen, hmm]; omega
              have hsum : pl + R = (m : Int) := by omega
              have hRp : 0 < R := by omega
              go_wp2_with (first
                | (go_at_call 16; refine (qo_len (unhide HT) hp1 (by rw [hmm]; omega) (pl) hLen).mono ?_; rintro e w1 ⟨rfl, h1⟩; replace HT := hide h1; clear h1)
                | (go_at_call 14; refine (qo_line (unhide HT) hp1 (by rw [hmm]; omega) (R) hLine).mono ?_; rintro e w1 ⟨rfl, h1⟩; replace HT := hide h1; clear h1))
              all_goals (refine ⟨⟨i + 1, g, _, _, _, _, _, by omega, by omega, rfl, rfl, by go_num, HT⟩, ?_⟩; simp [intOf]; omega)
      · have hlt' : ¬ (i : Int) < vs.length := by omega
        have hin : i = vs.length := by omega
        subst hin
        rw [List.take_length] at HT
        have HH6 := H6
        go_wp2_with (first
          | (go_at_call 17; refine (qo_close (cl := false) (unhide HT) hp1).mono ?_; rintro e w1 ⟨rfl, h1⟩; replace HT := hide h1; clear h1)
          | (go_at_call 17; refine (qo_close (cl := true) (unhide HT) hp1).mono ?_; rintro e w1 ⟨rfl, h1⟩; replace HT := hide h1; clear h1)
          | (go_at_call 13; refine (qo_shut none 0 0 (unhide HT) hp1).mono ?_; rintro e w1 ⟨rfl, h1⟩; replace HT := hide h1; clear h1))
        go_loopw [10] (fun t10 wr => ∃ (g : Nat) (vq : Value) (ag : Option Addr) (cg : Nat), g ≤ vs.length ∧ t10 = .slice ag g cg ∧ Hid (QO w wr q pl vq (vs.drop g) true (.slice ap vs.length cp) vs (.slice ag g cg) (vs.take g))) (fun t _ => vs.length - sliceLen t)
        case atStart => exact ⟨g, _, _, _, by omega, rfl, HT⟩
        case round =>
          obtain ⟨j, vq2, ag2, cg2, hj, rfl, HT2⟩ := hrel
          by_cases hjl : j < vs.length
          · have hjl' : ¬ (vs.length : Int) < (j : Int) + 1 := by omega
            obtain ⟨ya, yn, yc, hye⟩ := rd_shape (unhide H6 j hjl)
            have HY := hide hye
            clear hye
            have htg : (vs.take j).length = j := by simp; omega
            have HTG := hide htg
            clear htg
            have HDP := hide (by have := drop_pop (vs := vs) (i := vs.length) (g := j) (Nat.le_refl _) hjl; rwa [List.take_length, unhide HY] at this : vs.drop j = .slice ya yn yc :: vs.drop (j + 1))
            rw [unhide HDP] at HT2
            go_wp2_with (first
              | (go_at_call 15; refine (qo_take (unhide HT2) hp1).mono ?_; rintro e w5 ⟨rfl, vq5, h1⟩; replace HT2 := hide h1; clear h1)
              | (refine wpList_pushN rfl _ _ rfl _ (.slice ag2 j cg2) (vs.take j) j (unhide HTG) (.slice ya yn yc) w5.heap.size ((unhide HT2).pass ((Kept.refl [] w5).alloc (.cells #[.slice ya yn yc] 41))).gr (heap_alloc_new _ _) rfl (by omega) rfl rfl ?_; intro ag3 cg3 w6 A1 A2 A3; rw [← unhide HY, take_push hjl] at A1; replace HT2 := hide (((unhide HT2).pass ((Kept.refl [] w5).alloc (.cells #[.slice ya yn yc] 41))).pushG (unhide A2) (unhide A1) (unhide A3)); clear A1 A2 A3))
            refine ⟨⟨j + 1, _, _, _, by omega, rfl, HT2⟩, ?_⟩
            simp [sliceLen]; omega
          · have hje : j = vs.length := by omega
            subst hje
            rw [List.drop_length, List.take_length] at HT2
            go_wp2_with (go_at_call 15; refine (qo_take_nil (unhide HT2) hp1).mono ?_; rintro e w5 ⟨rfl, h1⟩; replace HT2 := hide h1; clear h1)
            have R1 := (unhide HT2).pr.rdl h2.symm (fun i hi => (unhide H6 i hi).old (unhide HT2).kept (by simp))
            have R2 := (unhide HT2).gr.rdl h2.symm (fun i hi => (unhide H6 i hi).old (unhide HT2).kept (by simp))
            refine (sameAll_any _ _ bs bs w5 R1 R2).mono ?_
            rintro e w6 ⟨rfl, n6, rfl⟩
            rw [decide_eq_true rfl]
            replace HT2 := hide ((unhide HT2).pass ((Kept.refl [] w5).drewN n6))
            clear R1 R2
            go_wp2_with (first
              | (go_at_call 16; refine (qo_len (unhide HT2) hp1 (by simp) 0 (by simp [inQ]; omega)).mono ?_; rintro e w7 ⟨rfl, h1⟩; replace HT2 := hide h1; clear h1)
              | (go_at_call 14; refine (qo_line (unhide HT2) hp1 (by simp) 0 (by simp [inQ]; omega)).mono ?_; rintro e w7 ⟨rfl, h1⟩; replace HT2 := hide h1; clear h1))
            go_ret
            exact ⟨rfl, (unhide HT2).kept.below (Nat.le_refl _) (by simp)⟩
  · go_enter Try.func5, Try.ntmps5
    go_wp2_with (first
      | (go_at_call 8; refine (qawake_any _).mono ?_; rintro e w1 ⟨rfl, k1⟩; have HK := hide k1; clear k1)
      | (go_at_call 12; refine (newB_bad pl _ hp).mono ?_; rintro e w2 ⟨rfl, n3⟩; replace HK := hide ((unhide HK).trans n3 (by simp)); clear n3))
    go_ret
    exact ⟨rfl, (unhide HK).below (Nat.le_refl _) (by simp)⟩
end Go.Proofs.Ytialndpejechbaa
