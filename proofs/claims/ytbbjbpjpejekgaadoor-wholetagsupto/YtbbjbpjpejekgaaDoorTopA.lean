import Derived.Test.YtbbjbpjpejekgaaDoorDNode
import Derived.Test.YtbbjbpjpejekgaaDoorDDoc
import Derived.Lib.BitFns
import Derived.Test.YtbbjbpjpejekgaaDoorDIn
import Derived.Test.YtbbjbpjpejekgaaDoorRUvar
namespace Go.Proofs.YtbbjbpjpejekgaaDoor
open Go.RowKit Go.BigFrame
set_option linter.unusedVariables false
set_option linter.unusedSimpArgs false

set_option maxRecDepth 100000 in
set_option maxHeartbeats 1000000 in
theorem refCheck_any (z : Int) (v : Value) (ds : List (List Nat)) (w : World) (hz : -9223372036854775808 ≤ z ∧ z ≤ 9223372036854775807) (hv : RdD w v ds) :
    Calls Tryd.prog 28 #[.int .i64 z, v] w fun e w' => e = .returned (.int .i64 (formedE z ds)) ∧ Kept [] w w' := by
  obtain ⟨ao, len, cap, rfl, h1, h2, h3, h4, h5⟩ := hv
  have H4 := hide h4
  have H5 := hide h5
  clear h4 h5
  subst h1
  go_enter Tryd.func28, Tryd.ntmps28
  go_wp2_with fail
  refine Calls.mono (rwidth_any z _ hz) ?_
  rintro e w1 ⟨rfl, rfl⟩
  cases hw : widthB z with
  | false =>
    have HF := hide (by simp [formedE, hw] : formedE z ds = 1)
    clear hw
    go_wp2
    go_ret
    exact ⟨by rw [unhide HF]; rfl, Kept.refl _ _⟩
  | true =>
    have HW := hide hw
    clear hw
    go_wp2_with fail
    go_loopw [12] (fun t12 wr => ∃ (i : Nat), i ≤ ds.length ∧ t12 = .int .i64 i ∧ Hid ((ds.take i).all (formB z) = true) ∧ Hid (Kept [] w1 wr)) (fun t _ => ds.length - (intOf t).toNat)
    case atStart => exact ⟨0, Nat.zero_le _, rfl, hide (by simp), hide (Kept.refl _ _)⟩
    case round =>
      obtain ⟨i, hi, rfl, HA, HK⟩ := hrel
      by_cases hlt : i < ds.length
      · have hlt' : (i : Int) < ds.length := by omega
        obtain ⟨b, o, rfl, hcell⟩ := unhide H5 (by omega)
        have HD := hide (unhide H4 (ds.getD i []) (by rw [List.getD_eq_getElem?_getD, List.getElem?_eq_getElem hlt]; exact List.getElem_mem hlt))
        have HRG := hide (fun j v hv => (unhide HK).cell (hcell i hlt j v hv) (by simp) : wr.rangeAt b (o + i * 32) ((ds.getD i []).map u8))
        have HN := hide (by rw [List.take_succ_eq_append_getElem hlt, List.all_append, unhide HA, List.getD_eq_getElem?_getD, List.getElem?_eq_getElem hlt]; simp : (ds.take (i + 1)).all (formB z) = formB z (ds.getD i []))
        have HM := hide (fun (h : formB z (ds.getD i []) = false) => by
          have : ds.all (formB z) = false := by
            rw [List.all_eq_false]
            exact ⟨ds.getD i [], by rw [List.getD_eq_getElem?_getD, List.getElem?_eq_getElem hlt]; exact List.getElem_mem hlt, by rw [h]; decide⟩
          simp [formedE, unhide HW, this] : formB z (ds.getD i []) = false → formedE z ds = 3)
        clear hcell
        obtain ⟨d, hd⟩ : ∃ d, ds.getD i [] = d := ⟨_, rfl⟩
        rw [hd] at HD HRG HN HM
        clear hd
        have hdl := (unhide HD).1
        have HSZ := hide (by rw [brow_size, hdl]; exact Tryd.size_dig : (Tryd.prog.info? 26).map (·.size) = some (brow d).size)
        have HNW := hide (setRow_heap (wr.alloc (.cells (zb 32) 26)) wr.heap.size (zb 32) (brow d) 26 (0, 0) (heap_alloc_new _ _))
        have HKN := hide (((unhide HK).alloc (.cells (zb 32) 26)).setRow (g := wr.heap.size) (Or.inr (unhide HK).size) (brow d))
        go_wp2_with (first
          | (refine wpList_load_mid rfl 26 (.tmp 14) rfl b (o + i * 32) rfl (d.map u8) _ (unhide HRG) Tryd.underlying26 rfl (by rw [List.length_map, hdl]; exact Tryd.size_dig) ?_)
          | (rw [zb32]; refine wpList_store_row rfl 26 (.tmp 6) _ rfl wr.heap.size (brow d) rfl rfl _ (zb 32) (heap_alloc_new _ _) (unhide HSZ) (by rw [zb_size, brow_size, hdl]) (brow_one _) ?_)
          | (refine wpList_load_row rfl 26 (.tmp 6) rfl wr.heap.size rfl _ (brow d) (0, 0) _ (unhide HNW) Tryd.underlying26 rfl (unhide HSZ) ?_))
        refine Calls.mono (docForm_any z d _ hz hdl (unhide HD).2) ?_
        rintro e w4 ⟨rfl, k4⟩
        have HK4 := hide ((unhide HKN).trans k4 (by simp))
        clear k4
        cases hf : formB z d with
        | true =>
          rw [hf] at HN
          clear hf
          go_wp2
          go_roundw
          case rel => exact ⟨i + 1, by omega, by go_num, HN, HK4⟩
          case measure => simp [intOf]; omega
        | false =>
          have HF := hide (unhide HM hf)
          clear hf
          go_wp2
          go_ret
          exact ⟨by rw [unhide HF]; rfl, unhide HK4⟩
      · have hlt' : ¬ (i : Int) < ds.length := by omega
        have hie : i = ds.length := by omega
        subst hie
        rw [List.take_length] at HA
        have HF := hide (by simp [formedE, unhide HW, unhide HA] : formedE z ds = 0)
        go_wp2
        go_ret
        exact ⟨by rw [unhide HF]; rfl, unhide HK⟩
end Go.Proofs.YtbbjbpjpejekgaaDoor
namespace Go.Proofs.YtbbjbpjpejekgaaDoor
open Go.RowKit Go.BigFrame
set_option linter.unusedVariables false
set_option linter.unusedSimpArgs false

/-- How many ones a number has. -/
def ones (x : Nat) : Nat := Lib.onesCount x
theorem pop_zero (f : Nat) : Lib.popAux f 0 = 0 := by
  induction f with
  | zero => rfl
  | succ f ih => show 0 % 2 + Lib.popAux f (0 / 2) = 0; simpa using ih
theorem pop_fuel (f : Nat) : ∀ z, z < 2 ^ f → Lib.popAux (f + 1) z = Lib.popAux f z := by
  induction f with
  | zero => intro z hz; have : z = 0 := by omega
            subst this; rfl
  | succ f ih =>
    intro z hz
    show z % 2 + Lib.popAux (f + 1) (z / 2) = z % 2 + Lib.popAux f (z / 2)
    rw [ih (z / 2) (by rw [Nat.pow_succ] at hz; omega)]
theorem ones_step (x : Nat) (h : x < 65536) : ones x = x % 2 + ones (x / 2) := by
  show x % 2 + Lib.popAux 63 (x / 2) = x % 2 + Lib.popAux 64 (x / 2)
  rw [pop_fuel 63 (x / 2) (by omega)]
theorem pop_eight (f x : Nat) : Lib.popAux (f + 8) x = Lib.popAux 8 (x % 256) + Lib.popAux f (x / 256) := by
  simp only [Lib.popAux, Nat.div_div_eq_div_mul]
  have h0 : x % 256 % 2 = x % 2 := by omega
  have h1 : x % 256 / 2 % 2 = x / 2 % 2 := by omega
  have h2 : x % 256 / 4 % 2 = x / 4 % 2 := by omega
  have h3 : x % 256 / 8 % 2 = x / 8 % 2 := by omega
  have h4 : x % 256 / 16 % 2 = x / 16 % 2 := by omega
  have h5 : x % 256 / 32 % 2 = x / 32 % 2 := by omega
  have h6 : x % 256 / 64 % 2 = x / 64 % 2 := by omega
  have h7 : x % 256 / 128 % 2 = x / 128 % 2 := by omega
  simp only [Nat.reduceMul, h0, h1, h2, h3, h4, h5, h6, h7]
  omega
theorem ones_small (y : Nat) (h : y < 256) : ones y = Lib.popAux 8 y := by
  show Lib.popAux (56 + 8) y = _
  rw [pop_eight, Nat.div_eq_of_lt h, pop_zero, Nat.mod_eq_of_lt h]; rfl
theorem ones_split (x : Nat) (h : x < 65536) : ones x = ones (x / 256) + ones (x % 256) := by
  rw [ones_small (x / 256) (by omega), ones_small (x % 256) (by omega)]
  show Lib.popAux (56 + 8) x = _
  rw [pop_eight]
  have e : Lib.popAux 56 (x / 256) = Lib.popAux 8 (x / 256) := by
    show Lib.popAux (48 + 8) (x / 256) = _
    rw [pop_eight, Nat.div_eq_of_lt (by omega : x / 256 < 256), pop_zero, Nat.mod_eq_of_lt (by omega)]; rfl
  rw [e]; omega
theorem u16_and255 (m : Nat) (h : m < 65536) : bits .and .u16 (m : Int) 255 = ((m : Int) % 256) := by
  have h1 : (BitVec.ofInt 16 (m : Int)).toNat = m := by rw [BitVec.ofInt_natCast, BitVec.toNat_ofNat]; exact Nat.mod_eq_of_lt (by omega)
  have h2 : (BitVec.ofInt 16 (255 : Int)).toNat = 255 := by decide
  show IntKind.u16.wrap ((BitVec.ofInt 16 (m : Int) &&& BitVec.ofInt 16 (255 : Int)).toNat : Int) = _
  rw [BitVec.toNat_and, h1, h2, show (255 : Nat) = 2 ^ 8 - 1 by rfl, Nat.and_two_pow_sub_one_eq_mod]
  simp [IntKind.wrap, IntKind.signed, IntKind.bits]
  omega

set_option maxRecDepth 100000 in
theorem fold_pop : (⟨((([0, 1, 1, 2, 1, 2, 2, 3, 1, 2, 2, 3, 2, 3, 3, 4, 1, 2, 2, 3, 2, 3, 3, 4, 2, 3, 3, 4, 3, 4, 4, 5, 1, 2, 2, 3, 2, 3, 3, 4, 2, 3, 3, 4, 3, 4, 4, 5, 2, 3, 3, 4, 3, 4, 4, 5, 3, 4, 4, 5, 4, 5, 5, 6] : List UInt8).append [1, 2, 2, 3, 2, 3, 3, 4, 2, 3, 3, 4, 3, 4, 4, 5, 2, 3, 3, 4, 3, 4, 4, 5, 3, 4, 4, 5, 4, 5, 5, 6, 2, 3, 3, 4, 3, 4, 4, 5, 3, 4, 4, 5, 4, 5, 5, 6, 3, 4, 4, 5, 4, 5, 5, 6, 4, 5, 5, 6, 5, 6, 6, 7]).append (([1, 2, 2, 3, 2, 3, 3, 4, 2, 3, 3, 4, 3, 4, 4, 5, 2, 3, 3, 4, 3, 4, 4, 5, 3, 4, 4, 5, 4, 5, 5, 6, 2, 3, 3, 4, 3, 4, 4, 5, 3, 4, 4, 5, 4, 5, 5, 6, 3, 4, 4, 5, 4, 5, 5, 6, 4, 5, 5, 6, 5, 6, 6, 7] : List UInt8).append [2, 3, 3, 4, 3, 4, 4, 5, 3, 4, 4, 5, 4, 5, 5, 6, 3, 4, 4, 5, 4, 5, 5, 6, 4, 5, 5, 6, 5, 6, 6, 7, 3, 4, 4, 5, 4, 5, 5, 6, 4, 5, 5, 6, 5, 6, 6, 7, 4, 5, 5, 6, 5, 6, 6, 7, 5, 6, 6, 7, 6, 7, 7, 8])).toArray⟩ : ByteArray) = Lib.pop8tab := by rfl

set_option maxRecDepth 100000 in
set_option maxHeartbeats 1000000 in
theorem ones16_any (x : Nat) (w : World) (hx : x < 65536) :
    Calls Tryd.prog 77 #[.int .u16 x] w fun e w' => e = .returned (.int .i64 (ones x)) ∧ Kept [] w w' := by
  go_enter Tryd.func77, Tryd.ntmps77
  have q1 : (0 : Int) ≤ (x : Int) / 256 := by omega
  have q2 : (x : Int) / 256 ≤ 255 := by omega
  have q3 : (0 : Int) ≤ (x : Int) % 256 := by omega
  have q4 : (x : Int) % 256 ≤ 255 := by omega
  have qa := u16_and255 x hx
  have hp1 : Lib.pop8 ((x : Int) / 256) = (ones (x / 256) : Int) := Lib.pop8_eq ⟨x / 256, by omega⟩
  have hp2 : Lib.pop8 ((x : Int) % 256) = (ones (x % 256) : Int) := Lib.pop8_eq ⟨x % 256, by omega⟩
  have l1 : ones (x / 256) ≤ 8 := Lib.onesCount_le8 ⟨x / 256, by omega⟩
  have l2 : ones (x % 256) ≤ 8 := Lib.onesCount_le8 ⟨x % 256, by omega⟩
  have HSP := hide (ones_split x hx)
  go_wp2_with fail
  rw [fold_pop]
  go_quiet (fail)
  go_wp2
  go_ret
  exact ⟨by rw [unhide HSP]; simp, (Kept.refl [] w).drewN _⟩

set_option maxRecDepth 100000 in
set_option maxHeartbeats 1000000 in
theorem refOnes_any (x : Nat) (w : World) (hx : x < 65536) :
    Calls Tryd.prog 72 #[.int .u16 x] w fun e w' => e = .returned (.int .i64 (ones x)) ∧ w' = w := by
  have hxo : ones x ≤ 16 := by
    have l1 : ones (x / 256) ≤ 8 := Lib.onesCount_le8 ⟨x / 256, by omega⟩
    have l2 : ones (x % 256) ≤ 8 := Lib.onesCount_le8 ⟨x % 256, by omega⟩
    rw [ones_split x hx]; omega
  go_enter Tryd.func72, Tryd.ntmps72
  go_wp2_with fail
  go_loopw [0, 3] (fun t0 t3 wr => ∃ (y n : Nat), t0 = .int .u16 y ∧ t3 = .int .i64 n ∧ y ≤ x ∧ Hid (n + ones y = ones x) ∧ wr = w) (fun t _ _ => (intOf t).toNat)
  case atStart => exact ⟨x, 0, rfl, rfl, Nat.le_refl _, hide (by simp), rfl⟩
  case round =>
    obtain ⟨y, n, rfl, rfl, hy, HS, rfl⟩ := hrel
    have hn : n ≤ 16 := by have := unhide HS; omega
    by_cases h0 : y = 0
    · have HN := hide (by have h9 := unhide HS; rw [h0, show ones 0 = 0 from pop_zero 64] at h9; simpa using h9 : n = ones x)
      have hlt : ((y : Int) > 0) = False := by rw [h0]; simp
      have hlt2 : (0 < y) = False := by rw [h0]; simp
      have H0 := hide h0
      clear h0
      go_wp2
      go_ret
      exact ⟨by rw [unhide HN]; rfl, rfl⟩
    · have hlt : (y : Int) > 0 := by omega
      have HN := hide (by have h9 := unhide HS; rw [ones_step y (by omega)] at h9; omega : (n + y % 2) + ones (y / 2) = ones x)
      have hlt2 : 0 < y := by omega
      go_wp2
      go_roundw
      case rel => exact ⟨y / 2, n + y % 2, by simp, by simp, by omega, HN, trivial⟩
      case measure => simp [intOf]; omega

end Go.Proofs.YtbbjbpjpejekgaaDoor
namespace Go.Proofs.YtbbjbpjpejekgaaDoor
open Go.RowKit Go.BigFrame
set_option linter.unusedVariables false
set_option linter.unusedSimpArgs false

/-- What the check of a branch answers. -/
def branchE (z : Int) (x : Nat) (ds : List (List Nat)) : Nat := if formedE z ds = 0 then (if x = 0 ∨ ones x ≠ ds.length then 3 else 0) else formedE z ds

set_option maxRecDepth 100000 in
set_option maxHeartbeats 1000000 in
theorem refCheckBranch_any (z : Int) (x : Nat) (v : Value) (ds : List (List Nat)) (w : World) (hz : -9223372036854775808 ≤ z ∧ z ≤ 9223372036854775807) (hx : x < 65536) (hv : RdD w v ds) :
    Calls Tryd.prog 29 #[.int .i64 z, .int .u16 x, v] w fun e w' => e = .returned (.int .i64 (branchE z x ds)) ∧ Kept [] w w' := by
  have HV := hide hv
  obtain ⟨ao, len, cap, rfl, h1, h2, h3, _⟩ := hv
  subst h1
  have HE := hide (show branchE z x ds = if formedE z ds = 0 then (if x = 0 ∨ ones x ≠ ds.length then 3 else 0) else formedE z ds from rfl)
  obtain ⟨R, hR⟩ : ∃ R, branchE z x ds = R := ⟨_, rfl⟩
  rw [hR] at HE ⊢
  clear hR
  go_enter Tryd.func29, Tryd.ntmps29
  go_wp2_with fail
  refine Calls.mono (refCheck_any z _ ds _ hz (unhide HV)) ?_
  rintro e w1 ⟨rfl, k1⟩
  have HK1 := hide k1
  clear k1
  obtain ⟨f, hf⟩ : ∃ f, formedE z ds = f := ⟨_, rfl⟩
  rw [hf] at HE ⊢
  clear hf
  by_cases hf0 : f = 0
  · subst hf0
    by_cases hx0 : x = 0
    · have HR := hide (by rw [unhide HE, if_pos rfl, if_pos (Or.inl hx0)] : R = 3)
      have hx0' : (x : Int) = 0 := by omega
      go_wp2
      go_ret
      exact ⟨by rw [unhide HR]; rfl, unhide HK1⟩
    · have hx0' : ((x : Int) == 0) = false := by rw [beq_eq_false_iff_ne]; omega
      have HX0 := hide hx0
      clear hx0
      go_wp2_with fail
      refine Calls.mono (refOnes_any x _ hx) ?_
      rintro e w2 ⟨rfl, rfl⟩
      obtain ⟨o, ho⟩ : ∃ o, ones x = o := ⟨_, rfl⟩
      rw [ho] at HE ⊢
      clear ho
      by_cases hol : o = ds.length
      · have HR := hide (by rw [unhide HE, if_pos trivial, if_neg (by intro h; rcases h with h | h; exact unhide HX0 h; exact h hol)] : R = 0)
        have hb : ((o : Int) != (ds.length : Int)) = false := by rw [hol]; simp
        have HOL := hide hol
        clear hol
        go_wp2
        go_ret
        exact ⟨by rw [unhide HR]; rfl, unhide HK1⟩
      · have HR := hide (by rw [unhide HE, if_pos trivial, if_pos (Or.inr hol)] : R = 3)
        have hb : ((o : Int) != (ds.length : Int)) = true := by rw [bne_iff_ne]; omega
        have HOL := hide hol
        clear hol
        go_wp2
        go_ret
        exact ⟨by rw [unhide HR]; rfl, unhide HK1⟩
  · have HR := hide (by rw [unhide HE, if_neg hf0] : R = f)
    have hb : ((f : Int) == 0) = false := by rw [beq_eq_false_iff_ne]; omega
    have HF0 := hide hf0
    clear hf0
    go_wp2
    go_ret
    exact ⟨by rw [unhide HR]; rfl, unhide HK1⟩

/-- The first k bytes of each digest, one behind the other. -/
def kidsB (k : Nat) (ds : List (List Nat)) : List Nat := (ds.map fun d => d.take k).flatten
theorem Wn.over {w0 w w' : World} {b : Nat} {v : Value} {bs : List Nat} (h : Wn w0 w b v bs) (k : Kept [] w w') : Wn w0 w' b v bs :=
  ⟨h.at_.kept k (by simp) (by simp), h.new, h.hb, h.kept.trans k (by simp)⟩
def branchB (z : Int) (x : Nat) (ds : List (List Nat)) : List Nat := 4 :: (wide x 2 ++ kidsB z.toNat ds)
theorem kidsB_snoc (k : Nat) (ds : List (List Nat)) (i : Nat) (h : i < ds.length) : kidsB k (ds.take (i + 1)) = kidsB k (ds.take i) ++ (ds.getD i []).take k := by
  unfold kidsB
  rw [List.take_succ_eq_append_getElem h, List.map_append, List.flatten_append, List.getD_eq_getElem?_getD, List.getElem?_eq_getElem h]
  simp
theorem kidsB_len (k : Nat) (ds : List (List Nat)) : (kidsB k ds).length ≤ k * ds.length := by
  induction ds with
  | nil => simp [kidsB]
  | cons d r ih =>
    have e : kidsB k (d :: r) = d.take k ++ kidsB k r := by simp [kidsB]
    rw [e, List.length_append, List.length_cons, Nat.mul_succ, List.length_take]
    omega
theorem ones_le (x : Nat) (h : x < 65536) : ones x ≤ 16 := by
  have l1 : ones (x / 256) ≤ 8 := Lib.onesCount_le8 ⟨x / 256, by omega⟩
  have l2 : ones (x % 256) ≤ 8 := Lib.onesCount_le8 ⟨x % 256, by omega⟩
  rw [ones_split x h]; omega

set_option maxRecDepth 100000 in
set_option maxHeartbeats 1000000 in
theorem branchInput_any (z : Int) (x : Nat) (v : Value) (ds : List (List Nat)) (w : World) (hz : -9223372036854775808 ≤ z ∧ z ≤ 9223372036854775807) (hx : x < 65536) (hv : RdD w v ds) :
    Calls Tryd.prog 39 #[.int .i64 z, .int .u16 x, v] w fun e w' => ∃ v', e = .returned (.tuple #[v', .int .i64 (branchE z x ds)]) ∧ NewB w w' v' (if branchE z x ds = 0 then branchB z x ds else []) ∧ Kept [] w w' := by
  have HV := hide hv
  obtain ⟨ao, len, cap, rfl, h1, h2, h3, h4, h5⟩ := hv
  have H4 := hide h4
  have H5 := hide h5
  clear h4 h5
  subst h1
  have HE := hide (show branchE z x ds = if formedE z ds = 0 then (if x = 0 ∨ ones x ≠ ds.length then 3 else 0) else formedE z ds from rfl)
  have HF := hide (show formedE z ds = if widthB z = false then 1 else if ds.all (formB z) then 0 else 3 from rfl)
  obtain ⟨R, hR⟩ : ∃ R, branchE z x ds = R := ⟨_, rfl⟩
  rw [hR] at HE ⊢
  clear hR
  obtain ⟨B, hB⟩ : ∃ B, (if R = 0 then branchB z x ds else []) = B := ⟨_, rfl⟩
  rw [hB]
  have HBB := hide hB
  clear hB
  go_enter Tryd.func39, Tryd.ntmps39
  go_wp2_with fail
  refine Calls.mono (isWidth_any z _ hz) ?_
  rintro e w1 ⟨rfl, rfl⟩
  cases hw : widthB z with
  | false =>
    have HR := hide (by rw [unhide HE, unhide HF, hw]; simp : R = 1)
    clear hw
    go_wp2
    go_ret2
    refine ⟨_, by rw [unhide HR]; rfl, ?_, Kept.refl _ _⟩
    rw [← unhide HBB, unhide HR]; exact NewB.nil _ _
  | true =>
    rw [hw] at HF
    have HW := hide hw
    clear hw
    by_cases hx0 : x = 0
    · have HR := hide (by rw [unhide HE]; by_cases h9 : formedE z ds = 0; rw [if_pos h9, if_pos (Or.inl hx0)]; rw [if_neg h9]; have h8 := unhide HF; simp at h8; rw [h8] at h9 ⊢; split at h9 <;> simp_all : R = 3)
      have hx0' : ((x : Int) == 0) = true := by rw [beq_iff_eq]; omega
      have HX0 := hide hx0
      clear hx0
      go_wp2
      go_ret2
      refine ⟨_, by rw [unhide HR]; rfl, ?_, Kept.refl _ _⟩
      rw [← unhide HBB, unhide HR]; exact NewB.nil _ _
    · have hx0' : ((x : Int) == 0) = false := by rw [beq_eq_false_iff_ne]; omega
      have HX0 := hide hx0
      clear hx0
      go_wp2_with fail
      have HO16 := hide (ones_le x hx)
      refine Calls.mono (ones16_any x _ hx) ?_
      rintro e w2 ⟨rfl, k2⟩
      have HK2 := hide k2
      clear k2
      obtain ⟨o, ho⟩ : ∃ o, ones x = o := ⟨_, rfl⟩
      rw [ho] at HE HO16 ⊢
      clear ho
      by_cases hol : o = ds.length
      · have hb : ((o : Int) != (ds.length : Int)) = false := by rw [hol]; simp
        have HOL := hide hol
        clear hol
        go_wp2_with fail
        refine Calls.mono (formed_any z _ ds _ hz ((unhide HV).old (unhide HK2))) ?_
        rintro e w3 ⟨rfl, k3⟩
        have HK3 := hide ((unhide HK2).trans k3 (by simp))
        clear k3
        obtain ⟨f, hf⟩ : ∃ f, formedE z ds = f := ⟨_, rfl⟩
        rw [hf] at HE ⊢
        clear hf
        by_cases hf0 : f = 0
        · have HR := hide (by rw [unhide HE, if_pos hf0, if_neg (by intro h; rcases h with h | h; exact unhide HX0 h; exact h (unhide HOL))] : R = 0)
          have hfb : ((f : Int) != 0) = false := by rw [hf0]; rfl
          have HF0 := hide hf0
          clear hf0
          have hwd := width_le (unhide HW)
          obtain ⟨k, rfl⟩ : ∃ k : Nat, z = k := ⟨z.toNat, by omega⟩
          have hk : (k : Int) ≤ 32 := hwd.2
          have hk' : k ≤ 32 := by omega
          have HW0 := hide (Wn.start (unhide HK3))
          go_wp2_with fail
          refine Calls.mono (wn_u8 4 (unhide HW0) (by decide) (by simp)) ?_
          rintro e w4 ⟨rfl, v4, h4⟩
          have HW4 := hide h4
          clear h4 HW0
          go_wp2_with fail
          refine Calls.mono (wn_u16 x (unhide HW4) hx (by simp [wide_len])) ?_
          rintro e w5 ⟨rfl, v5, h5⟩
          rw [show [] ++ wide 4 1 ++ wide x 2 = 4 :: wide x 2 by simp [wide]] at h5
          have HW5 := hide h5
          clear h5 HW4
          go_wp2_with fail
          have HKL := hide (fun i => Nat.le_trans (kidsB_len k (ds.take i)) (Nat.mul_le_mul hk' (by rw [List.length_take]; exact Nat.min_le_right _ _)) : ∀ i, (kidsB k (ds.take i)).length ≤ 32 * ds.length)
          have hdl16 : ds.length ≤ 16 := by have := unhide HO16; have := unhide HOL; omega
          go_loopw [35] (fun t35 wr => ∃ (i : Nat) (v : Value), i ≤ ds.length ∧ t35 = .int .i64 i ∧ Hid (Wn w1 wr w3.heap.size v (4 :: wide x 2 ++ kidsB k (ds.take i)))) (fun t _ => ds.length - (intOf t).toNat)
          case atStart => exact ⟨0, v5, Nat.zero_le _, rfl, by simpa [kidsB] using HW5⟩
          case round =>
            obtain ⟨i, vw, hi, rfl, HWR⟩ := hrel
            by_cases hlt : i < ds.length
            · have hlt' : (i : Int) < ds.length := by omega
              obtain ⟨b, o', rfl, hcell⟩ := unhide H5 (by omega)
              have HD := hide (unhide H4 (ds.getD i []) (by rw [List.getD_eq_getElem?_getD, List.getElem?_eq_getElem hlt]; exact List.getElem_mem hlt))
              have HRG := hide (fun j v hv => (unhide HWR).kept.cell (hcell i hlt j v hv) (by simp) : wr.rangeAt b (o' + i * 32) ((ds.getD i []).map u8))
              have HSN := hide (kidsB_snoc k ds i hlt)
              clear hcell
              obtain ⟨d, hd⟩ : ∃ d, ds.getD i [] = d := ⟨_, rfl⟩
              rw [hd] at HD HRG HSN
              clear hd
              have hdl := (unhide HD).1
              have HSZ := hide (by rw [brow_size, hdl]; exact Tryd.size_dig : (Tryd.prog.info? 26).map (·.size) = some (brow d).size)
              have HNW := hide (setRow_heap (wr.alloc (.cells (zb 32) 26)) wr.heap.size (zb 32) (brow d) 26 (0, 0) (heap_alloc_new _ _))
              have HWN := hide ((unhide HWR).over (((Kept.refl [] wr).alloc (.cells (zb 32) 26)).setRow (g := wr.heap.size) (Or.inr (Nat.le_refl _)) (brow d)))
              go_wp2_with (first
                | (refine wpList_load_mid rfl 26 (.tmp 37) rfl b (o' + i * 32) rfl (d.map u8) _ (unhide HRG) Tryd.underlying26 rfl (by rw [List.length_map, hdl]; exact Tryd.size_dig) ?_)
                | (rw [zb32]; refine wpList_store_row rfl 26 (.tmp 11) _ rfl wr.heap.size (brow d) rfl rfl _ (zb 32) (heap_alloc_new _ _) (unhide HSZ) (by rw [zb_size, brow_size, hdl]) (brow_one _) ?_))
              refine Calls.mono (wn_raw (unhide HWN) (rd_dig (k := k) (range_row (unhide HNW)) hdl (unhide HD).2 hk') (by have h9 := unhide HKL i; simp only [List.length_append, List.length_cons, wide_len, List.length_take]; omega)) ?_
              rintro e w6 ⟨rfl, v6, h6⟩
              rw [List.append_assoc, ← unhide HSN] at h6
              have HW6 := hide h6
              clear h6
              go_wp2
              refine ⟨⟨i + 1, v6, by omega, by go_num, HW6⟩, ?_⟩
              simp [intOf]; omega
            · have hlt' : ¬ (i : Int) < ds.length := by omega
              have hie : i = ds.length := by omega
              subst hie
              have h9 := unhide HKL ds.length
              rw [List.take_length] at HWR h9
              have HK9 := hide h9
              clear h9
              go_wp2_with fail
              refine Calls.mono (wn_bytes (unhide HWR) (by have h9 := unhide HK9; simp only [List.length_append, List.length_cons, wide_len]; omega)) ?_
              rintro e w7 ⟨v7, rfl, h7, k7⟩
              have H7 := hide h7
              have HK7 := hide k7
              clear h7 k7
              go_wp2
              go_ret2
              refine ⟨_, by rw [unhide HR]; rfl, ?_, unhide HK7⟩
              have e9 : B = 4 :: wide x 2 ++ kidsB k ds := by
                rw [← unhide HBB, unhide HR]; rfl
              rw [e9]; exact unhide H7
        · have HR := hide (by rw [unhide HE, if_neg hf0] : R = f)
          have hfb : ((f : Int) != 0) = true := by rw [bne_iff_ne]; omega
          have HF0 := hide hf0
          clear hf0
          go_wp2
          go_ret2
          refine ⟨_, by rw [unhide HR]; rfl, ?_, unhide HK3⟩
          rw [← unhide HBB, unhide HR, if_neg (unhide HF0)]; exact NewB.nil _ _
      · have HR := hide (by rw [unhide HE]; by_cases h9 : formedE z ds = 0; rw [if_pos h9, if_pos (Or.inr hol)]; rw [if_neg h9]; have h8 := unhide HF; simp at h8; rw [h8] at h9 ⊢; split at h9 <;> simp_all : R = 3)
        have hb : ((o : Int) != (ds.length : Int)) = true := by rw [bne_iff_ne]; omega
        have HOL := hide hol
        clear hol
        go_wp2
        go_ret2
        refine ⟨_, by rw [unhide HR]; rfl, ?_, unhide HK2⟩
        rw [← unhide HBB, unhide HR]; exact NewB.nil _ _
end Go.Proofs.YtbbjbpjpejekgaaDoor
namespace Go.Proofs.YtbbjbpjpejekgaaDoor
open Go.RowKit Go.BigFrame
set_option linter.unusedVariables false
set_option linter.unusedSimpArgs false

set_option maxRecDepth 100000 in
set_option maxHeartbeats 1000000 in
theorem refBranchInput_any (k : Nat) (x : Nat) (v : Value) (ds : List (List Nat)) (w : World) (hk' : k ≤ 32) (hx : x < 65536) (hv : RdD w v ds) (hn : ds.length ≤ 16) :
    Calls Tryd.prog 31 #[.int .i64 k, .int .u16 x, v] w fun e w' => ∃ v', e = .returned v' ∧ Rd w' v' (branchB k x ds) ∧ Kept [] w w' := by
  obtain ⟨ao, len, cap, rfl, h1, h2, h3, h4, h5⟩ := hv
  have H4 := hide h4
  have H5 := hide h5
  clear h4 h5
  subst h1
  have hk : (k : Int) ≤ 32 := by omega
  have HKL := hide (fun i => Nat.le_trans (kidsB_len k (ds.take i)) (Nat.mul_le_mul hk' (by rw [List.length_take]; exact Nat.min_le_right _ _)) : ∀ i, (kidsB k (ds.take i)).length ≤ 32 * ds.length)
  go_enter Tryd.func31, Tryd.ntmps31
  go_wp2_with fail
  refine Calls.mono (refWide_any x 2 _ (by omega) (by decide)) ?_
  rintro e w1 ⟨rfl, k1, g1⟩
  have HR1 := hide (rd_fresh g1 (wide_byte x 2) (by simp [wide_len]))
  rw [wide_len, show (w.alloc (.cells #[.int .u8 4] 5)).heap.size = w.heap.size + 1 from Array.size_push _] at HR1
  have k01 := ((Kept.refl [] w).alloc _).trans k1 (by simp)
  have HK1 := hide k01
  have HR0 := hide ((rd_lit1 [4] (heap_alloc_new w (.cells #[.int .u8 4] 5)) rfl (by decide) 1 rfl (by decide)).old k1 (by simp))
  clear g1 k1 k01
  go_wp2_with fail
  refine Calls.mono (join_own _ _ [4] (wide x 2) _ (unhide HR0) (unhide HR1) (by simp [wide_len])) ?_
  rintro e w2 ⟨v2, rfl, o2, k2⟩
  have HO2 := hide o2
  have HS2 := hide ((unhide HK1).size)
  have HK2 := hide ((unhide HK1).trans k2 (by simp))
  obtain ⟨ao2, cap2, hu2⟩ := owns_shape o2
  subst hu2
  have hzz := k2.size
  clear o2 k2
  obtain ⟨B0, hB0⟩ : ∃ B0, w1.heap.size = B0 := ⟨_, rfl⟩
  rw [hB0] at HO2 HS2 hzz
  clear hB0
  go_wp2_with fail
  go_loopw [7, 17] (fun t7 t17 wr => ∃ (i : Nat) (cur : List Nat) (ao : Option Addr) (cap : Nat), i ≤ ds.length ∧ t17 = .int .i64 i ∧ t7 = .slice ao cur.length cap ∧ Hid (cur = 4 :: wide x 2 ++ kidsB k (ds.take i)) ∧ Hid (wr.ownsRow B0 5 1 (.slice ao cur.length cap) cur.length (cur.map u8)) ∧ Hid (∀ z ∈ cur, z < 256) ∧ Hid (Kept [] w wr) ∧ B0 ≤ wr.heap.size) (fun _ t _ => ds.length - (intOf t).toNat)
  case atStart => exact ⟨0, [4] ++ wide x 2, ao2, cap2, Nat.zero_le _, rfl, by simp, hide (by simp [kidsB]), hide (by simpa using unhide HO2), hide (by intro z hz; rcases List.mem_append.1 hz with h | h; simp at h; omega; exact wide_byte _ _ z h), HK2, hzz⟩
  case round =>
    obtain ⟨i, cur, aoc, capc, hi, rfl, rfl, HCUR, HO, HCB, HK, hb0⟩ := hrel
    have HCL := hide (by have h9 := unhide HKL i; rw [unhide HCUR]; simp only [List.length_append, List.length_cons, wide_len]; omega : cur.length ≤ 1000)
    by_cases hlt : i < ds.length
    · have hlt' : (i : Int) < ds.length := by omega
      obtain ⟨b, o', rfl, hcell⟩ := unhide H5 (by omega)
      have HD := hide (unhide H4 (ds.getD i []) (by rw [List.getD_eq_getElem?_getD, List.getElem?_eq_getElem hlt]; exact List.getElem_mem hlt))
      have HRG := hide (fun j v hv => (unhide HK).cell (hcell i hlt j v hv) (by simp) : wr.rangeAt b (o' + i * 32) ((ds.getD i []).map u8))
      have HSN := hide (kidsB_snoc k ds i hlt)
      clear hcell
      obtain ⟨d, hd⟩ : ∃ d, ds.getD i [] = d := ⟨_, rfl⟩
      rw [hd] at HD HRG HSN
      clear hd
      have hdl := (unhide HD).1
      have HSZ := hide (by rw [brow_size, hdl]; exact Tryd.size_dig : (Tryd.prog.info? 26).map (·.size) = some (brow d).size)
      have k1 := (((Kept.refl [] wr).alloc (.cells (zb 32) 26)).setRow (g := wr.heap.size) (Or.inr (Nat.le_refl _)) (brow d))
      have HNW := hide (rd_dig (k := k) (range_row (setRow_heap (wr.alloc (.cells (zb 32) 26)) wr.heap.size (zb 32) (brow d) 26 (0, 0) (heap_alloc_new _ _))) hdl (unhide HD).2 hk')
      have HOW := hide (k1.owns (unhide HO) (by simp))
      have HKW := hide ((unhide HK).trans k1 (by simp))
      have hbW := Nat.le_trans hb0 k1.size
      clear k1
      have htl : (d.take k).length = k := by rw [List.length_take, hdl]; omega
      go_wp2_with (first
        | (refine wpList_load_mid rfl 26 (.tmp 19) rfl b (o' + i * 32) rfl (d.map u8) _ (unhide HRG) Tryd.underlying26 rfl (by rw [List.length_map, hdl]; exact Tryd.size_dig) ?_)
        | (rw [zb32]; refine wpList_store_row rfl 26 (.tmp 9) _ rfl wr.heap.size (brow d) rfl rfl _ (zb 32) (heap_alloc_new _ _) (unhide HSZ) (by rw [zb_size, brow_size, hdl]) (brow_one _) ?_)
        | (at_builtin; go_must (refine wpList_appendAll rfl _ _ rfl rfl _ B0 (.slice aoc cur.length capc) cur (d.take k) _ _ _ (by exact unhide HOW) (by exact unhide HNW) (by have := unhide HCL; rw [htl]; omega) hbW rfl rfl ?_; intro ao6 cap6 w6 HO6 HG6 HA6; have HK6 := hide ((unhide HKW).grown (unhide HG6) (by intro g hg; right; have := ((unhide HO).lt g hg).1; have := unhide HS2; omega)); have hb7 := (unhide HG6).size)))
      refine ⟨⟨i + 1, cur ++ d.take k, ao6, cap6, by omega, by go_num, by simp only [List.length_append, htl], hide (by rw [unhide HSN, unhide HCUR]; simp only [List.append_assoc]), hide (by have h5 := unhide HO6; rw [← List.length_append] at h5; exact h5), hide (by intro z hz; rcases List.mem_append.1 hz with h | h; exact unhide HCB z h; exact (unhide HD).2 z (List.mem_of_mem_take h)), HK6, Nat.le_trans hbW hb7⟩, ?_⟩
      simp [intOf]; omega
    · have hlt' : ¬ (i : Int) < ds.length := by omega
      have hie : i = ds.length := by omega
      subst hie
      rw [List.take_length] at HCUR
      go_wp2_with fail
      go_ret
      refine ⟨_, rfl, ?_, unhide HK⟩
      have h5 := rd_owns (unhide HO) (unhide HCB) (by have := unhide HCL; omega)
      rw [show branchB k x ds = cur from by rw [unhide HCUR]; rfl]
      exact h5
end Go.Proofs.YtbbjbpjpejekgaaDoor
namespace Go.Proofs.YtbbjbpjpejekgaaDoor
open Go.RowKit Go.BigFrame
set_option linter.unusedVariables false
set_option linter.unusedSimpArgs false

set_option maxRecDepth 100000 in
set_option maxHeartbeats 1000000 in
theorem refRootInput_any (k : Nat) (s : Nat) (l m : List Nat) (w : World) (hk : 1 ≤ k ∧ k ≤ 32) (hs : s < 18446744073709551616) (hl : l.length = 32) (hm : m.length = 32) (hlb : ∀ x ∈ l, x < 256) (hmb : ∀ x ∈ m, x < 256) :
    Calls Tryd.prog 32 #[.int .i64 k, .agg (rootC s l m).toArray] w fun e w' => ∃ v, e = .returned v ∧ Rd w' v (rootB k s l m) ∧ Kept [] w w' := by
  have HB := hide hlb
  have HB2 := hide hmb
  clear hlb hmb
  go_enter Tryd.func32, Tryd.ntmps32
  have HR := hide (range_left (w.alloc (.cells (rootC s l m).toArray 32)) w.heap.size (l.map u8) (m.map u8) 32 (0, 0) _ (heap_alloc_new w (.cells (rootC s l m).toArray 32)))
  rw [List.length_map, hl] at HR
  have hk' : (k : Int) ≤ 32 := by omega
  have HK0 := hide ((Kept.refl [] w).alloc (.cells (rootC s l m).toArray 32))
  have hc0 : (w.alloc (.cells (rootC s l m).toArray 32)).cell? ⟨w.heap.size, 0, none⟩ = some (.int .u64 (s : Int)) := by rw [cell_of_row _ _ _ _ _ _ (heap_alloc_new w (.cells (rootC s l m).toArray 32))]; rfl
  go_wp2_with fail
  obtain ⟨W, hW⟩ : ∃ W, w.alloc (.cells (rootC s l m).toArray 32) = W := ⟨_, rfl⟩
  rw [hW] at HR HK0 hc0 ⊢
  clear hW
  have HA := hide (rd_dig (k := k) (unhide HR).1 hl (unhide HB) (by omega))
  have HC := hide (rd_dig (k := k) (unhide HR).2 hm (unhide HB2) (by omega))
  have HTL := hide (by simp [hl]; omega : (l.take k).length + (m.take k).length ≤ 64)
  have HC0 := hide (show W.drew.cell? ⟨w.heap.size, 0, none⟩ = some (.int .u64 (s : Int)) from hc0)
  have HC1 := hide (((Kept.refl [] W).alloc (.cells #[.int .u8 6] 5)).drew.cell hc0 (by simp))
  go_region_held3 (fun w' => w'.cell? ⟨w.heap.size, 0, none⟩ = some (.int .u64 (s : Int))) (go_keep) (first
    | (go_at_call 73; refine (refWide_any s 8 _ hs (by decide)).mono ?_; rintro e w3 ⟨rfl, k3, g3⟩; have HR3 := hide (rd_fresh g3 (wide_byte s 8) (by simp [wide_len])); rw [wide_len] at HR3; (try (rw [show (W.alloc (.cells #[.int .u8 6] 5)).drew.heap.size = W.heap.size + 1 from Array.size_push _] at HR3)); (try (have HL1 := hide ((rd_lit1 [6] (show (W.alloc (.cells #[.int .u8 6] 5)).drew.heap[W.heap.size]? = _ from heap_alloc_new W _) rfl (by decide) 1 rfl (by decide)).old k3 (by simp)))); first | (have c3 := k3.cell (unhide HC1) (by simp); have K3 := ((Kept.refl [] W).alloc _).drew.trans k3 (by simp); have HK3 := hide K3; have HA3 := hide ((unhide HA).old K3 (by simp)); have HB3 := hide ((unhide HC).old K3 (by simp)); clear k3 g3 K3) | (have c3 := k3.cell (unhide HC0) (by simp); have K3 := (Kept.refl [] W).drew.trans k3 (by simp); have HK3 := hide K3; have HA3 := hide ((unhide HA).old K3 (by simp)); have HB3 := hide ((unhide HC).old K3 (by simp)); clear k3 g3 K3))
    | (go_at_call 68; refine (join_any _ _ [6] (wide s 8) _ (by exact unhide HL1) (by exact unhide HR3) (by simp [wide_len])).mono ?_; rintro e w4 ⟨v4, rfl, r4, k4, _⟩; have c4 := k4.cell c3 (by simp); have HR4 := hide r4; have HK4 := hide ((unhide HK3).trans k4 (by simp)); have HA4 := hide ((unhide HA3).old k4 (by simp)); have HB4 := hide ((unhide HB3).old k4 (by simp)); clear r4 k4)
    | (go_at_call 68; refine (join_any _ _ [6] (wide s 8) _ (by exact rd_lit1 [6] (heap_alloc_new w3 _) rfl (by decide) 1 rfl (by decide)) (by exact (unhide HR3).old ((Kept.refl [] w3).alloc _) (by simp)) (by simp [wide_len])).mono ?_; rintro e w4 ⟨v4, rfl, r4, k4', _⟩; have k4 := ((Kept.refl [] w3).alloc _).trans k4' (by simp); have c4 := k4.cell c3 (by simp); have HR4 := hide r4; have HK4 := hide ((unhide HK3).trans k4 (by simp)); have HA4 := hide ((unhide HA3).old k4 (by simp)); have HB4 := hide ((unhide HB3).old k4 (by simp)); clear r4 k4 k4')
    | (go_at_call 68; refine (join_any _ _ (l.take k) (m.take k) _ (by exact unhide HA4) (by exact unhide HB4) (by have := unhide HTL; omega)).mono ?_; rintro e w5 ⟨v5, rfl, r5, k5, _⟩; have c5 := k5.cell c4 (by simp); have HR5 := hide r5; have HK5 := hide ((unhide HK4).trans k5 (by simp)); have HL5 := hide ((unhide HR4).old k5 (by simp)); clear r5 k5)
    | (go_at_call 68; refine (join_any _ _ ([6] ++ wide s 8) (l.take k ++ m.take k) _ (by exact unhide HL5) (by exact unhide HR5) (by have := unhide HTL; simp only [List.length_append, List.length_cons, List.length_nil, wide_len]; omega)).mono ?_; rintro e w6 ⟨v6, rfl, r6, k6, _⟩; have c6 := k6.cell c5 (by simp); have HR6 := hide r6; have HK6 := hide ((unhide HK0).trans ((unhide HK5).trans k6 (by simp)) (by simp)); clear r6 k6))
  all_goals
    go_wp2
    go_ret
    exact ⟨_, rfl, by simpa [rootB] using unhide HR6, unhide HK6⟩
end Go.Proofs.YtbbjbpjpejekgaaDoor
namespace Go.Proofs.YtbbjbpjpejekgaaDoor
open Go.RowKit Go.BigFrame
set_option linter.unusedVariables false
set_option linter.unusedSimpArgs false

set_option maxRecDepth 100000 in
set_option maxHeartbeats 1000000 in
theorem bucketInput_any (v : Value) (ps : List (List Nat × List Nat)) (w : World) (h : RdK w v ps) (hl : (pairB ps).length ≤ 1000000000000) :
    Calls Tryd.prog 38 #[v] w fun e w' => ∃ v', e = .returned v' ∧ NewB w w' v' (buckB ps) ∧ Kept [] w w' := by
  obtain ⟨ao, len, cap, vs, us, rfl, h1, h3, h4, h5, h6⟩ := h
  have H5 := hide h5
  have H6 := hide h6
  clear h5 h6
  subst h1
  go_enter Tryd.func38, Tryd.ntmps38
  have HW0 := hide (Wn.start (Kept.refl [] w))
  go_wp2_with fail
  refine Calls.mono (wn_u8 3 (unhide HW0) (by decide) (by simp)) ?_
  rintro e w1 ⟨rfl, v1, h1⟩
  have HW1 := hide h1
  clear h1 HW0
  go_wp2_with fail
  refine Calls.mono (wn_uvar ps.length (unhide HW1) (by omega) (by simp [wide_len])) ?_
  rintro e w2 ⟨rfl, v2, h2⟩
  rw [show [] ++ wide 3 1 ++ uv ps.length = 3 :: uv ps.length by simp [wide]] at h2
  have HW2 := hide h2
  clear h2 HW1
  have HUV := hide (uv_len ps.length (by omega))
  go_wp2_with fail
  go_loopw [13] (fun t13 wr => ∃ (i : Nat) (v : Value), i ≤ ps.length ∧ t13 = .int .i64 i ∧ Hid (Wn w wr w.heap.size v (3 :: uv ps.length ++ pairB (ps.take i)))) (fun t _ => ps.length - (intOf t).toNat)
  case atStart => exact ⟨0, v2, Nat.zero_le _, rfl, by simpa [pairB] using HW2⟩
  case round =>
    obtain ⟨i, vw, hi, rfl, HW⟩ := hrel
    by_cases hlt : i < ps.length
    · have hlt' : (i : Int) < ps.length := by omega
      obtain ⟨b, off, rfl, hcc⟩ := unhide H6 (by omega)
      have q1 := (unhide HW).kept.cell (hcc i hlt).1 (by simp)
      have q2 := (unhide HW).kept.cell (hcc i hlt).2 (by simp)
      have HA := hide (unhide H5 i hlt)
      have hget : ps.getD i ([], []) = ps[i] := by rw [List.getD_eq_getElem?_getD, List.getElem?_eq_getElem hlt]; rfl
      rw [hget] at HA
      have HSN := hide (pairB_snoc ps i hlt)
      have HLE := hide (pairB_le ps (i + 1))
      clear hcc hget
      generalize vs.getD i undef = vi at q1 HA
      generalize us.getD i undef = ui at q2 HA
      generalize ps[i] = pi at HA HSN
      obtain ⟨pk, pv⟩ := pi
      simp only at HA HSN
      rw [unhide HSN] at HLE
      have HLE2 := hide (by have h9 := unhide HLE; simp only [List.length_append] at h9; omega : (pairB (ps.take i)).length + (uv pk.length).length + pk.length + (uv pv.length).length + pv.length ≤ 1000000000000)
      have HU2 := hide (uv_pos pk.length)
      obtain ⟨a8, m8, c8, rfl, hm8, _⟩ := id (unhide HA).1
      obtain ⟨a9, m9, c9, rfl, hm9, _⟩ := id (unhide HA).2
      subst hm8
      subst hm9
      go_wp2_with fail
      have HWW := hide (⟨(unhide HW).at_.alloc (.cells #[.slice a8 pk.length c8, .slice a9 pv.length c9] 75), (unhide HW).new, (unhide HW).hb, (unhide HW).kept.alloc _⟩ : Wn w (wr.alloc (.cells #[.slice a8 pk.length c8, .slice a9 pv.length c9] 75)) w.heap.size vw (3 :: uv ps.length ++ pairB (ps.take i)))
      have HCW := hide (heap_alloc_new wr (.cells #[.slice a8 pk.length c8, .slice a9 pv.length c9] 75))
      obtain ⟨W, hW⟩ : ∃ W, wr.alloc (.cells #[.slice a8 pk.length c8, .slice a9 pv.length c9] 75) = W := ⟨_, rfl⟩
      rw [hW] at HWW HCW ⊢
      clear hW
      have d1 : W.cell? ⟨wr.heap.size, 1, none⟩ = some (.slice a9 pv.length c9) := by rw [cell_of_row _ _ _ _ _ _ (unhide HCW)]; rfl
      refine Calls.mono (wblob_any _ vw _ _ pk W (unhide HWW).at_ (fun w' k => (unhide HWW).rd (unhide HA).1 k) (by have := unhide HLE2; have := unhide HUV; simp only [List.length_append, List.length_cons]; omega)) ?_
      rintro e w3 ⟨rfl, v3, h3, g3⟩
      have hn3 : wr.heap.size ∉ w.heap.size :: vw.ownBlock.toList := by
        intro hx
        rcases List.mem_cons.1 hx with hx | hx
        · have := (unhide HW).at_.lt; omega
        · have := (unhide HW).at_.ownlt (g := wr.heap.size) (by simpa [Option.mem_toList] using hx); omega
      have d2 := g3.kept.cell d1 hn3
      have HW3 := hide ((unhide HWW).grew h3 g3)
      clear h3 g3 hn3 d1
      go_wp2_with fail
      refine Calls.mono (wn_blob (unhide HW3) (unhide HA).2 (by have := unhide HLE2; have := unhide HUV; simp only [List.length_append, List.length_cons]; omega)) ?_
      rintro e w4 ⟨rfl, v4, h4⟩
      have HW4 := hide h4
      clear h4
      go_wp2
      refine ⟨⟨i + 1, v4, by omega, by go_num, ?_⟩, ?_⟩
      · rw [unhide HSN]
        simpa only [List.append_assoc] using HW4
      simp [intOf]; omega
    · have hlt' : ¬ (i : Int) < ps.length := by omega
      have hie : i = ps.length := by omega
      subst hie
      rw [List.take_length] at HW
      go_wp2_with fail
      refine Calls.mono (wn_bytes (unhide HW) (by have := unhide HUV; simp only [List.length_append, List.length_cons]; omega)) ?_
      rintro e w6 ⟨v6, rfl, h6, k6⟩
      have H6' := hide h6
      have HK6 := hide k6
      clear h6 k6
      go_wp2
      go_ret
      exact ⟨_, rfl, unhide H6', unhide HK6⟩
end Go.Proofs.YtbbjbpjpejekgaaDoor
namespace Go.Proofs.YtbbjbpjpejekgaaDoor
open Go.RowKit Go.BigFrame
set_option linter.unusedVariables false
set_option linter.unusedSimpArgs false

set_option maxRecDepth 100000 in
set_option maxHeartbeats 1000000 in
theorem refBucketInput_any (v : Value) (ps : List (List Nat × List Nat)) (w : World) (h : RdK w v ps) (hl : (pairB ps).length ≤ 1000000000000) :
    Calls Tryd.prog 27 #[v] w fun e w' => ∃ v', e = .returned v' ∧ Rd w' v' (buckB ps) ∧ Kept [] w w' := by
  obtain ⟨ao, len, cap, vs, us, rfl, h1, h3, h4, h5, h6⟩ := h
  have H5 := hide h5
  have H6 := hide h6
  clear h5 h6
  subst h1
  go_enter Tryd.func27, Tryd.ntmps27
  have HUV := hide (uv_len ps.length (by omega))
  go_wp2_with fail
  refine Calls.mono (refUvar_any ps.length _ (by omega)) ?_
  rintro e w1 ⟨v1, rfl, r1, k1, _⟩
  have HR1 := hide r1
  have k01 := ((Kept.refl [] w).alloc _).trans k1 (by simp)
  have HK1 := hide k01
  have HR0 := hide ((rd_lit1 [3] (heap_alloc_new w (.cells #[.int .u8 3] 5)) rfl (by decide) 1 rfl (by decide)).old k1 (by simp))
  clear r1 k1 k01
  go_wp2_with fail
  refine Calls.mono (join_own _ _ [3] (uv ps.length) _ (unhide HR0) (unhide HR1) (by have := unhide HUV; simp; omega)) ?_
  rintro e w2 ⟨v2, rfl, o2, k2⟩
  have HO2 := hide o2
  have HS2 := hide ((unhide HK1).size)
  have HK2 := hide ((unhide HK1).trans k2 (by simp))
  obtain ⟨ao2, cap2, hu2⟩ := owns_shape o2
  subst hu2
  have hzz := k2.size
  clear o2 k2
  obtain ⟨B0, hB0⟩ : ∃ B0, w1.heap.size = B0 := ⟨_, rfl⟩
  rw [hB0] at HO2 HS2 hzz
  clear hB0
  go_wp2_with fail
  go_loopw [3, 14] (fun t3 t14 wr => ∃ (i : Nat) (cur : List Nat) (ao : Option Addr) (cap : Nat), i ≤ ps.length ∧ t14 = .int .i64 i ∧ t3 = .slice ao cur.length cap ∧ Hid (cur = 3 :: uv ps.length ++ pairB (ps.take i)) ∧ Hid (wr.ownsRow B0 5 1 (.slice ao cur.length cap) cur.length (cur.map u8)) ∧ Hid (∀ z ∈ cur, z < 256) ∧ Hid (Kept [] w wr) ∧ B0 ≤ wr.heap.size) (fun _ t _ => ps.length - (intOf t).toNat)
  case atStart => exact ⟨0, [3] ++ uv ps.length, ao2, cap2, Nat.zero_le _, rfl, by simp, hide (by simp [pairB]), hide (by simpa using unhide HO2), hide (by intro z hz; rcases List.mem_append.1 hz with h | h; simp at h; omega; exact uv_byte _ z h), HK2, hzz⟩
  case round =>
    obtain ⟨i, cur, aoc, capc, hi, rfl, rfl, HCUR, HO, HCB, HK, hb0⟩ := hrel
    by_cases hlt : i < ps.length
    · have hlt' : (i : Int) < ps.length := by omega
      obtain ⟨b, off, rfl, hcc⟩ := unhide H6 (by omega)
      have q1 := (unhide HK).cell (hcc i hlt).1 (by simp)
      have q2 := (unhide HK).cell (hcc i hlt).2 (by simp)
      have HA := hide (unhide H5 i hlt)
      have hget : ps.getD i ([], []) = ps[i] := by rw [List.getD_eq_getElem?_getD, List.getElem?_eq_getElem hlt]; rfl
      rw [hget] at HA
      have HSN := hide (pairB_snoc ps i hlt)
      have HLE := hide (pairB_le ps (i + 1))
      clear hcc hget
      generalize vs.getD i undef = vi at q1 HA
      generalize us.getD i undef = ui at q2 HA
      generalize ps[i] = pi at HA HSN
      obtain ⟨pk, pv⟩ := pi
      simp only at HA HSN
      rw [unhide HSN] at HLE
      have HLE2 := hide (by have h9 := unhide HLE; have h8 := unhide HUV; rw [unhide HCUR]; simp only [List.length_append, List.length_cons] at h9 ⊢; omega : cur.length + (uv pk.length).length + pk.length + (uv pv.length).length + pv.length ≤ 1000000000100)
      obtain ⟨a8, m8, c8, rfl, hm8, _⟩ := id (unhide HA).1
      obtain ⟨a9, m9, c9, rfl, hm9, _⟩ := id (unhide HA).2
      subst hm8
      subst hm9
      go_wp2_with fail
      have k1 := (Kept.refl [] wr).alloc (.cells #[.slice a8 pk.length c8, .slice a9 pv.length c9] 75)
      have HCW := hide (heap_alloc_new wr (.cells #[.slice a8 pk.length c8, .slice a9 pv.length c9] 75))
      obtain ⟨W, hW⟩ : ∃ W, wr.alloc (.cells #[.slice a8 pk.length c8, .slice a9 pv.length c9] 75) = W := ⟨_, rfl⟩
      rw [hW] at k1 HCW ⊢
      clear hW
      have HOW := hide (k1.owns (unhide HO) (by simp))
      have HKW := hide ((unhide HK).trans k1 (by simp))
      have HC1 := hide (by rw [cell_of_row _ _ _ _ _ _ (unhide HCW)]; rfl : W.cell? ⟨wr.heap.size, 1, none⟩ = some (.slice a9 pv.length c9))
      have hbW := Nat.le_trans hb0 k1.size
      clear k1
      refine Calls.mono (refBlob_any _ pk _ ((unhide HA).1.old (unhide HKW) (by simp)) (by have := unhide HLE2; omega)) ?_
      rintro e w3 ⟨v3, rfl, r3, k3, _⟩
      obtain ⟨a3, m3, c3, hu3, hm3, _⟩ := id r3
      subst hu3
      have HR3 := hide r3
      have HO3 := hide (k3.owns (unhide HOW) (by simp))
      have HK3 := hide ((unhide HKW).trans k3 (by simp))
      have HK3W := hide k3
      have hb3 := Nat.le_trans hbW k3.size
      clear r3 k3
      have hnin : wr.heap.size ∉ (Value.slice aoc cur.length capc).ownBlock.toList := by
        intro hx
        have := ((unhide HO).lt wr.heap.size (by simpa [Option.mem_toList] using hx)).2
        omega
      have HNI := hide hnin
      have HLU := hide ((unhide HO).lt)
      clear hnin
      go_wp2_with (at_builtin; go_must (refine wpList_appendAll rfl _ _ rfl rfl _ B0 (.slice aoc cur.length capc) cur (uv pk.length ++ pk) _ _ _ (by exact unhide HO3) (by exact unhide HR3) (by have := unhide HLE2; simp only [List.length_append]; omega) hb3 rfl rfl ?_; intro ao4 cap4 w4 HO4 HG4 HA4; have c4 := (((unhide HK3W).mono (M := (Value.slice aoc cur.length capc).ownBlock.toList) (by simp)).grown (unhide HG4) (by intro k hk; left; simpa [Option.mem_toList] using hk)).cell (unhide HC1) (unhide HNI); have HK4 := hide ((unhide HK3).grown (unhide HG4) (by intro k hk; right; have := ((unhide HO).lt k hk).1; have := unhide HS2; omega)); have hb4 := (unhide HG4).size))
      have hm3' : m3 = (uv pk.length ++ pk).length := by rw [← hm3]
      subst hm3'
      rw [← List.length_append] at HO4 ⊢
      have HC4 := hide (by intro z hz; rcases List.mem_append.1 hz with h | h; exact unhide HCB z h; exact (unhide HR3).byte z h : ∀ z ∈ cur ++ (uv pk.length ++ pk), z < 256)
      obtain ⟨cur4, hcur4⟩ : ∃ c, cur ++ (uv pk.length ++ pk) = c := ⟨_, rfl⟩
      rw [hcur4] at HO4 HC4 ⊢
      have hl4 : cur4.length = cur.length + ((uv pk.length).length + pk.length) := by rw [← hcur4]; simp
      have HL4 := hide hl4
      have HQ4 := hide hcur4
      have hb5 := Nat.le_trans hb3 hb4
      clear hl4 hcur4
      go_wp2_with fail
      refine Calls.mono (refBlob_any _ pv _ ((unhide HA).2.old (unhide HK4) (by simp)) (by have := unhide HLE2; omega)) ?_
      rintro e w5 ⟨v5, rfl, r5, k5, _⟩
      obtain ⟨a5, m5, c5, hu5, hm5, _⟩ := id r5
      subst hu5
      have HR5 := hide r5
      have HO5 := hide (k5.owns (unhide HO4) (by simp))
      have HK5 := hide ((unhide HK4).trans k5 (by simp))
      have hb6 := Nat.le_trans hb5 k5.size
      clear r5 k5
      go_wp2_with (at_builtin; go_must (refine wpList_appendAll rfl _ _ rfl rfl _ B0 (.slice ao4 cur4.length cap4) cur4 (uv pv.length ++ pv) _ _ _ (by exact unhide HO5) (by exact unhide HR5) (by have := unhide HLE2; have := unhide HL4; simp only [List.length_append]; omega) hb6 rfl rfl ?_; intro ao6 cap6 w6 HO6 HG6 HA6; have HK6 := hide ((unhide HK5).grown (unhide HG6) (by intro k hk; right; have := ((unhide HO4).lt k hk).1; have := unhide HS2; omega)); have hb7 := (unhide HG6).size))
      have hm5' : m5 = (uv pv.length ++ pv).length := by rw [← hm5]
      subst hm5'
      refine ⟨⟨i + 1, cur4 ++ (uv pv.length ++ pv), ao6, cap6, by omega, by go_num, by simp only [List.length_append], hide (by rw [unhide HSN, ← unhide HQ4, unhide HCUR]; simp only [List.append_assoc]), hide (by have h5 := unhide HO6; rw [← List.length_append] at h5; exact h5), hide (by intro z hz; rcases List.mem_append.1 hz with h | h; exact unhide HC4 z h; exact (unhide HR5).byte z h), HK6, Nat.le_trans hb6 hb7⟩, ?_⟩
      simp [intOf]; omega
    · have hlt' : ¬ (i : Int) < ps.length := by omega
      have hie : i = ps.length := by omega
      subst hie
      rw [List.take_length] at HCUR
      go_wp2_with fail
      go_ret
      refine ⟨_, rfl, ?_, unhide HK⟩
      have h5 := rd_owns (unhide HO) (unhide HCB) (by have := unhide HUV; rw [unhide HCUR]; simp only [List.length_append, List.length_cons]; omega)
      rw [show buckB ps = cur from by rw [unhide HCUR]; rfl]
      exact h5
end Go.Proofs.YtbbjbpjpejekgaaDoor
namespace Go.Proofs.YtbbjbpjpejekgaaDoor
open Go.RowKit Go.BigFrame
set_option linter.unusedVariables false
set_option linter.unusedSimpArgs false

/-- An Op: its kind, width, bytes, two digests, pairs, bitmap, digests, root. -/
structure OpD where
  kd : Int
  z : Int
  p : List Nat
  l : List Nat
  r : List Nat
  ps : List (List Nat × List Nat)
  x : Nat
  ds : List (List Nat)
  s : Nat
  lg : List Nat
  mp : List Nat
def opC (o : OpD) (pv kv dv : Value) : List Value := [.int .i64 o.kd, .int .i64 o.z, pv] ++ (o.l.map u8 ++ (o.r.map u8 ++ ([kv, .int .u16 (o.x : Int), dv] ++ (rootC o.s o.lg o.mp ++ []))))
structure OkD (w : World) (o : OpD) (pv kv dv : Value) : Prop where
  kd : -9223372036854775808 ≤ o.kd ∧ o.kd ≤ 9223372036854775807
  z : -9223372036854775808 ≤ o.z ∧ o.z ≤ 9223372036854775807
  p : Rd w pv o.p
  pl : o.p.length ≤ 1000000000000
  l : o.l.length = 32 ∧ ∀ x ∈ o.l, x < 256
  r : o.r.length = 32 ∧ ∀ x ∈ o.r, x < 256
  ps : RdK w kv o.ps
  psl : (pairB o.ps).length ≤ 1000000000000
  x : o.x < 65536
  ds : RdD w dv o.ds
  s : o.s < 18446744073709551616
  lg : o.lg.length = 32 ∧ ∀ x ∈ o.lg, x < 256
  mp : o.mp.length = 32 ∧ ∀ x ∈ o.mp, x < 256
theorem OkD.old {w w' : World} {o : OpD} {pv kv dv : Value} (h : OkD w o pv kv dv) (k : Kept [] w w') : OkD w' o pv kv dv :=
  ⟨h.kd, h.z, h.p.old k (by simp), h.pl, h.l, h.r, h.ps.old k, h.psl, h.x, h.ds.old k, h.s, h.lg, h.mp⟩
theorem row_mid {w : World} {g n : Nat} {t : TypeId} {fr : Nat × Nat} (a b c : List Value) (h : w.heap[g]? = some (.cells (a ++ (b ++ c)).toArray t fr)) (hn : a.length = n) : w.rangeAt g n b := by
  subst hn
  intro j v hv
  have hj := (List.getElem?_eq_some_iff.1 hv).1
  rw [cell_of_row w g _ _ t fr h, List.getElem?_toArray, List.getElem?_append_right (by omega), Nat.add_sub_cancel_left, List.getElem?_append_left hj, hv]
theorem op_cells {w : World} {g : Nat} {t : TypeId} {fr : Nat × Nat} {o : OpD} {pv kv dv : Value} (h : w.heap[g]? = some (.cells (opC o pv kv dv).toArray t fr)) (hl : o.l.length = 32) (hr : o.r.length = 32) :
    (w.cell? ⟨g, 0, none⟩ = some (.int .i64 o.kd) ∧ w.cell? ⟨g, 1, none⟩ = some (.int .i64 o.z) ∧ w.cell? ⟨g, 2, none⟩ = some pv) ∧ w.rangeAt g 3 (o.l.map u8) ∧ w.rangeAt g 35 (o.r.map u8) ∧
    (w.cell? ⟨g, 67, none⟩ = some kv ∧ w.cell? ⟨g, 68, none⟩ = some (.int .u16 (o.x : Int)) ∧ w.cell? ⟨g, 69, none⟩ = some dv) ∧ w.rangeAt g 70 (rootC o.s o.lg o.mp) := by
  unfold opC at h
  have h3 := row_mid (n := 3) _ _ _ h rfl
  have h35 := row_mid (n := 35) ([.int .i64 o.kd, .int .i64 o.z, pv] ++ o.l.map u8) _ _ (by simpa using h) (by simp [hl])
  have h67 := row_mid (n := 67) ([.int .i64 o.kd, .int .i64 o.z, pv] ++ o.l.map u8 ++ o.r.map u8) [kv, .int .u16 (o.x : Int), dv] _ (by simpa using h) (by simp [hl, hr])
  have h70 := row_mid (n := 70) ([.int .i64 o.kd, .int .i64 o.z, pv] ++ o.l.map u8 ++ o.r.map u8 ++ [kv, .int .u16 (o.x : Int), dv]) (rootC o.s o.lg o.mp) [] (by simpa using h) (by simp [hl, hr])
  have c : ∀ j v, ([.int .i64 o.kd, .int .i64 o.z, pv] : List Value)[j]? = some v → w.cell? ⟨g, j, none⟩ = some v := by
    intro j v hv
    rw [cell_of_row w g _ _ t fr h, List.getElem?_toArray, List.getElem?_append_left (List.getElem?_eq_some_iff.1 hv).1, hv]
  exact ⟨⟨c 0 _ rfl, c 1 _ rfl, c 2 _ rfl⟩, h3, h35, ⟨h67 0 _ rfl, h67 1 _ rfl, h67 2 _ rfl⟩, h70⟩
def inE (o : OpD) : Nat := if o.kd = 2 then formedE o.z [o.l, o.r] else if o.kd = 5 then branchE o.z o.x o.ds else if o.kd = 1 ∨ o.kd = 3 ∨ o.kd = 4 then 0 else formedE o.z [o.lg, o.mp]
def inB (o : OpD) : List Nat := if o.kd = 1 then 0 :: o.p else if o.kd = 2 then nodeB o.z o.l o.r else if o.kd = 3 then 2 :: o.p else if o.kd = 4 then buckB o.ps else if o.kd = 5 then branchB o.z o.x o.ds else rootB o.z o.s o.lg o.mp

set_option maxRecDepth 100000 in
set_option maxHeartbeats 2000000 in
theorem input_any (o : OpD) (pv kv dv : Value) (w : World) (h : OkD w o pv kv dv) (hk : 1 ≤ o.kd ∧ o.kd ≤ 6) :
    Calls Tryd.prog 9 #[.agg (opC o pv kv dv).toArray] w fun e w' => ∃ v, e = .returned (.tuple #[v, .int .i64 (inE o)]) ∧ NewB w w' v (if inE o = 0 then inB o else []) ∧ Kept [] w w' := by
  have H := hide h
  have HG := hide (heap_alloc_new w (.cells (opC o pv kv dv).toArray 34))
  obtain ⟨⟨c0, c1, c2⟩, r3, r35, ⟨c67, c68, c69⟩, r70⟩ := op_cells (unhide HG) h.l.1 h.r.1
  have HK0 := hide ((Kept.refl [] w).alloc (.cells (opC o pv kv dv).toArray 34))
  have HH := hide (h.old (unhide HK0))
  have R3 := hide r3
  have R35 := hide r35
  have R70 := hide r70
  clear r3 r35 r70 h
  have SD := hide Tryd.size_dig
  have HSL := hide (by rw [List.length_map, (unhide H).l.1]; exact Tryd.size_dig : (Tryd.prog.info? 26).map (·.size) = some (o.l.map u8).length)
  have HSR := hide (by rw [List.length_map, (unhide H).r.1]; exact Tryd.size_dig : (Tryd.prog.info? 26).map (·.size) = some (o.r.map u8).length)
  have HSO := hide (by rw [show (rootC o.s o.lg o.mp).length = 65 by simp [rootC, (unhide H).lg.1, (unhide H).mp.1]]; kernel_rfl : (Tryd.prog.info? 32).map (·.size) = some (rootC o.s o.lg o.mp).length)
  have HZ := hide (unhide H).z
  obtain ⟨E, hE⟩ : ∃ E, inE o = E := ⟨_, rfl⟩
  have HE := hide hE
  rw [hE]
  clear hE
  obtain ⟨B, hB⟩ : ∃ B, (if E = 0 then inB o else []) = B := ⟨_, rfl⟩
  have HB := hide hB
  rw [hB]
  clear hB
  go_enter Tryd.func9, Tryd.ntmps9
  clear HG
  rcases (by omega : o.kd = 1 ∨ o.kd = 2 ∨ o.kd = 3 ∨ o.kd = 4 ∨ o.kd = 5 ∨ o.kd = 6) with hkd | hkd | hkd | hkd | hkd | hkd
  · rw [hkd] at c0
    have HE2 := hide (by rw [← unhide HE]; simp [inE, hkd] : E = 0)
    have HB2 := hide (by rw [← unhide HB, unhide HE2]; simp [inB, hkd] : B = 0 :: o.p)
    clear hkd hk
    go_wp2_with fail
    refine Calls.mono (leafInput_any _ o.p _ (unhide HH).p (by have := (unhide H).pl; omega)) ?_
    rintro e w1 ⟨v1, rfl, n1, k1⟩
    have HN1 := hide (n1.weak (unhide HK0).size)
    have HK1 := hide ((unhide HK0).trans k1 (by simp))
    clear n1 k1
    go_wp2
    go_ret2
    exact ⟨_, by rw [unhide HE2]; rfl, by rw [unhide HB2]; exact unhide HN1, unhide HK1⟩
  · rw [hkd] at c0
    have HE2 := hide (by rw [← unhide HE]; simp [inE, hkd] : E = formedE o.z [o.l, o.r])
    have HB2 := hide (by rw [← unhide HB]; simp [inB, hkd] : B = if E = 0 then nodeB o.z o.l o.r else [])
    clear hkd hk
    go_wp2_with (first
      | (refine wpList_load_mid rfl 26 _ rfl w.heap.size 3 rfl (o.l.map u8) _ (unhide R3) Tryd.underlying26 rfl (unhide HSL) ?_)
      | (refine wpList_load_mid rfl 26 _ rfl w.heap.size 35 rfl (o.r.map u8) _ (unhide R35) Tryd.underlying26 rfl (unhide HSR) ?_))
    refine Calls.mono (nodeInput_any o.z o.l o.r _ (unhide HZ) (unhide H).l.1 (unhide H).r.1 (unhide H).l.2 (unhide H).r.2) ?_
    rintro e w1 ⟨v1, rfl, n1, k1⟩
    rw [← unhide HE2] at n1 ⊢
    rw [← unhide HB2] at n1
    have HN1 := hide (n1.weak (unhide HK0).size)
    have HK1 := hide ((unhide HK0).trans k1 (by simp))
    clear n1 k1
    go_wp2
    go_ret2
    exact ⟨_, rfl, unhide HN1, unhide HK1⟩
  · rw [hkd] at c0
    have HE2 := hide (by rw [← unhide HE]; simp [inE, hkd] : E = 0)
    have HB2 := hide (by rw [← unhide HB, unhide HE2]; simp [inB, hkd] : B = 2 :: o.p)
    clear hkd hk
    go_wp2_with fail
    refine Calls.mono (keyInput_any _ o.p _ (unhide HH).p (by have := (unhide H).pl; omega)) ?_
    rintro e w1 ⟨v1, rfl, n1, k1⟩
    have HN1 := hide (n1.weak (unhide HK0).size)
    have HK1 := hide ((unhide HK0).trans k1 (by simp))
    clear n1 k1
    go_wp2
    go_ret2
    exact ⟨_, by rw [unhide HE2]; rfl, by rw [unhide HB2]; exact unhide HN1, unhide HK1⟩
  · rw [hkd] at c0
    have HE2 := hide (by rw [← unhide HE]; simp [inE, hkd] : E = 0)
    have HB2 := hide (by rw [← unhide HB, unhide HE2]; simp [inB, hkd] : B = buckB o.ps)
    clear hkd hk
    go_wp2_with fail
    refine Calls.mono (bucketInput_any _ o.ps _ (unhide HH).ps (unhide H).psl) ?_
    rintro e w1 ⟨v1, rfl, n1, k1⟩
    have HN1 := hide (n1.weak (unhide HK0).size)
    have HK1 := hide ((unhide HK0).trans k1 (by simp))
    clear n1 k1
    go_wp2
    go_ret2
    exact ⟨_, by rw [unhide HE2]; rfl, by rw [unhide HB2]; exact unhide HN1, unhide HK1⟩
  · rw [hkd] at c0
    have HE2 := hide (by rw [← unhide HE]; simp [inE, hkd] : E = branchE o.z o.x o.ds)
    have HB2 := hide (by rw [← unhide HB]; simp [inB, hkd] : B = if E = 0 then branchB o.z o.x o.ds else [])
    clear hkd hk
    go_wp2_with fail
    refine Calls.mono (branchInput_any o.z o.x _ o.ds _ (unhide HZ) (unhide H).x (unhide HH).ds) ?_
    rintro e w1 ⟨v1, rfl, n1, k1⟩
    rw [← unhide HE2] at n1 ⊢
    rw [← unhide HB2] at n1
    have HN1 := hide (n1.weak (unhide HK0).size)
    have HK1 := hide ((unhide HK0).trans k1 (by simp))
    clear n1 k1
    go_wp2
    go_ret2
    exact ⟨_, rfl, unhide HN1, unhide HK1⟩
  · rw [hkd] at c0
    have HE2 := hide (by rw [← unhide HE]; simp [inE, hkd] : E = formedE o.z [o.lg, o.mp])
    have HB2 := hide (by rw [← unhide HB]; simp [inB, hkd] : B = if E = 0 then rootB o.z o.s o.lg o.mp else [])
    clear hkd hk
    go_wp2_with (refine wpList_load_mid rfl 32 _ rfl w.heap.size 70 rfl (rootC o.s o.lg o.mp) _ (unhide R70) Tryd.underlying32 rfl (unhide HSO) ?_)
    refine Calls.mono (rootInput_any o.z o.s o.lg o.mp _ (unhide HZ) (unhide H).s (unhide H).lg.1 (unhide H).mp.1 (unhide H).lg.2 (unhide H).mp.2) ?_
    rintro e w1 ⟨v1, rfl, n1, k1⟩
    rw [← unhide HE2] at n1 ⊢
    rw [← unhide HB2] at n1
    have HN1 := hide (n1.weak (unhide HK0).size)
    have HK1 := hide ((unhide HK0).trans k1 (by simp))
    clear n1 k1
    go_wp2
    go_ret2
    exact ⟨_, rfl, unhide HN1, unhide HK1⟩
end Go.Proofs.YtbbjbpjpejekgaaDoor
namespace Go.Proofs.YtbbjbpjpejekgaaDoor
open Go.RowKit Go.BigFrame
set_option linter.unusedVariables false
set_option linter.unusedSimpArgs false

theorem range_tail {w : World} {g n s : Nat} {l m : List Nat} (h : w.rangeAt g n (rootC s l m)) : w.rangeAt g (n + 1) (l.map u8) ∧ w.rangeAt g (n + 1 + (l.map u8).length) (m.map u8) := by
  constructor
  · intro j v hv
    have hj := (List.getElem?_eq_some_iff.1 hv).1
    have := h (j + 1) v (by unfold rootC; rw [List.getElem?_cons_succ, List.getElem?_append_left hj, hv])
    rw [show n + 1 + j = n + (j + 1) by omega]; exact this
  · intro j v hv
    have := h ((l.map u8).length + j + 1) v (by unfold rootC; rw [List.getElem?_cons_succ, List.getElem?_append_right (by omega), Nat.add_sub_cancel_left, hv])
    rw [show n + 1 + (l.map u8).length + j = n + ((l.map u8).length + j + 1) by omega]; exact this

set_option maxRecDepth 100000 in
set_option maxHeartbeats 2000000 in
theorem doc_any (o : OpD) (pv kv dv : Value) (w : World) (h : OkD w o pv kv dv) (hk : 1 ≤ o.kd ∧ o.kd ≤ 6) :
    Calls Tryd.prog 7 #[.agg (opC o pv kv dv).toArray] w fun e w' => ∃ v, e = .returned (.tuple #[v, .int .i64 (inE o)]) ∧ Rd w' v (if inE o = 0 then inB o else []) ∧ Kept [] w w' := by
  have H := hide h
  have HG := hide (heap_alloc_new w (.cells (opC o pv kv dv).toArray 34))
  obtain ⟨⟨c0, c1, c2⟩, r3, r35, ⟨c67, c68, c69⟩, r70⟩ := op_cells (unhide HG) h.l.1 h.r.1
  have HK0 := hide ((Kept.refl [] w).alloc (.cells (opC o pv kv dv).toArray 34))
  have HH := hide (h.old (unhide HK0))
  have R3 := hide r3
  have R35 := hide r35
  have R70 := hide r70
  clear r3 r35 r70 h
  have SD := hide Tryd.size_dig
  have HSL := hide (by rw [List.length_map, (unhide H).l.1]; exact Tryd.size_dig : (Tryd.prog.info? 26).map (·.size) = some (o.l.map u8).length)
  have HSR := hide (by rw [List.length_map, (unhide H).r.1]; exact Tryd.size_dig : (Tryd.prog.info? 26).map (·.size) = some (o.r.map u8).length)
  have HSO := hide (by rw [show (rootC o.s o.lg o.mp).length = 65 by simp [rootC, (unhide H).lg.1, (unhide H).mp.1]]; kernel_rfl : (Tryd.prog.info? 32).map (·.size) = some (rootC o.s o.lg o.mp).length)
  have HZ := hide (unhide H).z
  obtain ⟨E, hE⟩ : ∃ E, inE o = E := ⟨_, rfl⟩
  have HE := hide hE
  rw [hE]
  clear hE
  obtain ⟨B, hB⟩ : ∃ B, (if E = 0 then inB o else []) = B := ⟨_, rfl⟩
  have HB := hide hB
  rw [hB]
  clear hB
  go_enter Tryd.func7, Tryd.ntmps7
  clear HG
  rcases (by omega : o.kd = 1 ∨ o.kd = 2 ∨ o.kd = 3 ∨ o.kd = 4 ∨ o.kd = 5 ∨ o.kd = 6) with hkd | hkd | hkd | hkd | hkd | hkd
  · rw [hkd] at c0
    have HE2 := hide (by rw [← unhide HE]; simp [inE, hkd] : E = 0)
    have HB2 := hide (by rw [← unhide HB, unhide HE2]; simp [inB, hkd] : B = 0 :: o.p)
    clear hkd hk
    go_wp2_with fail
    refine Calls.mono (refLeafInput_any _ o.p _ (unhide HH).p (by have := (unhide H).pl; omega)) ?_
    rintro e w1 ⟨v1, rfl, n1, k1⟩
    have HN1 := hide n1
    have HK1 := hide ((unhide HK0).trans k1 (by simp))
    clear n1 k1
    go_wp2
    go_ret2
    exact ⟨_, by rw [unhide HE2]; rfl, by rw [unhide HB2]; exact unhide HN1, unhide HK1⟩
  · rw [hkd] at c0
    have HE2 := hide (by rw [← unhide HE]; simp [inE, hkd] : E = formedE o.z [o.l, o.r])
    have HB2 := hide (by rw [← unhide HB]; simp [inB, hkd] : B = if E = 0 then nodeB o.z o.l o.r else [])
    clear hkd hk
    have hfs : ∀ A : Array Value, (List.foldl (fun cs x => cs.setIfInBounds x.snd x.fst) A (List.map u8 o.l).zipIdx).size = A.size := fun A => fold_size _ A 0
    have hll : o.l.length = 32 := (unhide H).l.1
    have hrl : o.r.length = 32 := (unhide H).r.1
    go_wp2_with (first
      | (refine wpList_load_mid rfl 26 _ rfl w.heap.size 3 rfl (o.l.map u8) _ (unhide R3) Tryd.underlying26 rfl (unhide HSL) ?_)
      | (refine wpList_load_mid rfl 26 _ rfl w.heap.size 35 rfl (o.r.map u8) _ (unhide R35) Tryd.underlying26 rfl (unhide HSR) ?_))
    rw [zb64, two_digs o.l o.r hll hrl]
    clear hfs
    refine Calls.mono (refCheck_any o.z _ [o.l, o.r] _ (unhide HZ) (RdD.two (alloc_at _ _ _) hll hrl (unhide H).l.2 (unhide H).r.2)) ?_
    rintro e w1 ⟨rfl, k1⟩
    rw [← unhide HE2]
    have k01 := ((Kept.refl [] (w.alloc (.cells (opC o pv kv dv).toArray 34))).alloc (.cells (o.l.map u8 ++ o.r.map u8).toArray 26)).trans k1 (by simp)
    have HK1 := hide ((unhide HK0).trans k01 (by simp))
    have S3 := hide (range_kept (unhide R3) k01 (by simp))
    have S35 := hide (range_kept (unhide R35) k01 (by simp))
    have d0 := k01.cell c0 (by simp)
    have d1 := k01.cell c1 (by simp)
    clear k1 k01 c0 c1 c2 c67 c68 c69
    by_cases hE0 : E = 0
    · have hb : ((E : Int) != 0) = false := by rw [hE0]; rfl
      have hw : 1 ≤ o.z ∧ o.z ≤ 32 := by
        have h9 := unhide HE2
        unfold formedE at h9
        cases hw : widthB o.z with
        | false => rw [hw] at h9; simp at h9; omega
        | true => exact width_le hw
      have HE0 := hide hE0
      clear hE0
      have hz9 : ((o.z.toNat : Nat) : Int) = o.z := Int.toNat_of_nonneg (by omega)
      have HZ9 := hide hz9
      clear hz9
      go_wp2_with (first
        | (refine wpList_load_mid rfl 26 _ rfl w.heap.size 3 rfl (o.l.map u8) _ (unhide S3) Tryd.underlying26 rfl (unhide HSL) ?_)
        | (refine wpList_load_mid rfl 26 _ rfl w.heap.size 35 rfl (o.r.map u8) _ (unhide S35) Tryd.underlying26 rfl (unhide HSR) ?_))
      have hc := refNodeInput_any o.z.toNat o.l o.r w1 (by omega) hll hrl (unhide H).l.2 (unhide H).r.2
      rw [unhide HZ9] at hc
      refine Calls.mono hc ?_
      rintro e w2 ⟨v2, rfl, n2, k2⟩
      have HN2 := hide n2
      have HK2 := hide ((unhide HK1).trans k2 (by simp))
      clear n2 k2 hc
      go_wp2
      go_ret2
      exact ⟨_, by rw [unhide HE0]; rfl, by rw [unhide HB2, if_pos (unhide HE0)]; exact unhide HN2, unhide HK2⟩
    · have hb : ((E : Int) != 0) = true := by rw [bne_iff_ne]; omega
      have HE0 := hide hE0
      clear hE0
      go_wp2
      go_ret2
      exact ⟨_, rfl, by rw [unhide HB2, if_neg (unhide HE0)]; exact Rd.nil _, unhide HK1⟩
  · rw [hkd] at c0
    have HE2 := hide (by rw [← unhide HE]; simp [inE, hkd] : E = 0)
    have HB2 := hide (by rw [← unhide HB, unhide HE2]; simp [inB, hkd] : B = 2 :: o.p)
    clear hkd hk
    go_wp2_with fail
    refine Calls.mono (refKeyInput_any _ o.p _ (unhide HH).p (by have := (unhide H).pl; omega)) ?_
    rintro e w1 ⟨v1, rfl, n1, k1⟩
    have HN1 := hide n1
    have HK1 := hide ((unhide HK0).trans k1 (by simp))
    clear n1 k1
    go_wp2
    go_ret2
    exact ⟨_, by rw [unhide HE2]; rfl, by rw [unhide HB2]; exact unhide HN1, unhide HK1⟩
  · rw [hkd] at c0
    have HE2 := hide (by rw [← unhide HE]; simp [inE, hkd] : E = 0)
    have HB2 := hide (by rw [← unhide HB, unhide HE2]; simp [inB, hkd] : B = buckB o.ps)
    clear hkd hk
    go_wp2_with fail
    refine Calls.mono (refBucketInput_any _ o.ps _ (unhide HH).ps (unhide H).psl) ?_
    rintro e w1 ⟨v1, rfl, n1, k1⟩
    have HN1 := hide n1
    have HK1 := hide ((unhide HK0).trans k1 (by simp))
    clear n1 k1
    go_wp2
    go_ret2
    exact ⟨_, by rw [unhide HE2]; rfl, by rw [unhide HB2]; exact unhide HN1, unhide HK1⟩
  · rw [hkd] at c0
    have HE2 := hide (by rw [← unhide HE]; simp [inE, hkd] : E = branchE o.z o.x o.ds)
    have HB2 := hide (by rw [← unhide HB]; simp [inB, hkd] : B = if E = 0 then branchB o.z o.x o.ds else [])
    clear hkd hk
    go_wp2_with fail
    refine Calls.mono (refCheckBranch_any o.z o.x _ o.ds _ (unhide HZ) (unhide H).x (unhide HH).ds) ?_
    rintro e w1 ⟨rfl, k1⟩
    rw [← unhide HE2]
    have HK1 := hide ((unhide HK0).trans k1 (by simp))
    have HD1 := hide ((unhide HH).ds.old k1)
    have d0 := k1.cell c0 (by simp)
    have d1 := k1.cell c1 (by simp)
    have d68 := k1.cell c68 (by simp)
    have d69 := k1.cell c69 (by simp)
    clear k1 c0 c1 c2 c67 c68 c69
    by_cases hE0 : E = 0
    · have hb : ((E : Int) != 0) = false := by rw [hE0]; rfl
      have h9 : formedE o.z o.ds = 0 ∧ o.ds.length ≤ 16 := by
        have h9 := unhide HE2
        rw [hE0] at h9
        unfold branchE at h9
        by_cases hf : formedE o.z o.ds = 0
        · rw [if_pos hf] at h9
          refine ⟨hf, ?_⟩
          by_cases hx : o.x = 0 ∨ ones o.x ≠ o.ds.length
          · rw [if_pos hx] at h9; omega
          · have h8 : ones o.x = o.ds.length := by
              by_cases h7 : ones o.x = o.ds.length
              · exact h7
              · exact absurd (Or.inr h7) hx
            rw [← h8]; exact ones_le _ (unhide H).x
        · rw [if_neg hf] at h9; exact absurd h9.symm hf
      have hw : 1 ≤ o.z ∧ o.z ≤ 32 := by
        have h8 := h9.1
        unfold formedE at h8
        cases hw : widthB o.z with
        | false => rw [hw] at h8; simp at h8
        | true => exact width_le hw
      have HE0 := hide hE0
      have H9 := hide h9.2
      clear hE0 h9
      have hz9 : ((o.z.toNat : Nat) : Int) = o.z := Int.toNat_of_nonneg (by omega)
      have HZ9 := hide hz9
      clear hz9
      go_wp2_with fail
      have hc := refBranchInput_any o.z.toNat o.x dv o.ds w1 (by omega) (unhide H).x (unhide HD1) (unhide H9)
      rw [unhide HZ9] at hc
      refine Calls.mono hc ?_
      rintro e w2 ⟨v2, rfl, n2, k2⟩
      have HN2 := hide n2
      have HK2 := hide ((unhide HK1).trans k2 (by simp))
      clear n2 k2 hc
      go_wp2
      go_ret2
      exact ⟨_, by rw [unhide HE0]; rfl, by rw [unhide HB2, if_pos (unhide HE0)]; exact unhide HN2, unhide HK2⟩
    · have hb : ((E : Int) != 0) = true := by rw [bne_iff_ne]; omega
      have HE0 := hide hE0
      clear hE0
      go_wp2
      go_ret2
      exact ⟨_, rfl, by rw [unhide HB2, if_neg (unhide HE0)]; exact Rd.nil _, unhide HK1⟩
  · rw [hkd] at c0
    have HE2 := hide (by rw [← unhide HE]; simp [inE, hkd] : E = formedE o.z [o.lg, o.mp])
    have HB2 := hide (by rw [← unhide HB]; simp [inB, hkd] : B = if E = 0 then rootB o.z o.s o.lg o.mp else [])
    clear hkd hk
    have R71 := hide (range_tail (unhide R70)).1
    have R103 := hide (by have h9 := (range_tail (unhide R70)).2; rw [List.length_map, (unhide H).lg.1] at h9; exact h9 : (w.alloc (.cells (opC o pv kv dv).toArray 34)).rangeAt w.heap.size 103 (o.mp.map u8))
    have HSL2 := hide (by rw [List.length_map, (unhide H).lg.1]; exact Tryd.size_dig : (Tryd.prog.info? 26).map (·.size) = some (o.lg.map u8).length)
    have HSR2 := hide (by rw [List.length_map, (unhide H).mp.1]; exact Tryd.size_dig : (Tryd.prog.info? 26).map (·.size) = some (o.mp.map u8).length)
    have hfs : ∀ A : Array Value, (List.foldl (fun cs x => cs.setIfInBounds x.snd x.fst) A (List.map u8 o.lg).zipIdx).size = A.size := fun A => fold_size _ A 0
    have hll : o.lg.length = 32 := (unhide H).lg.1
    have hrl : o.mp.length = 32 := (unhide H).mp.1
    go_wp2_with (first
      | (refine wpList_load_mid rfl 26 _ rfl w.heap.size 71 rfl (o.lg.map u8) _ (unhide R71) Tryd.underlying26 rfl (unhide HSL2) ?_)
      | (refine wpList_load_mid rfl 26 _ rfl w.heap.size 103 rfl (o.mp.map u8) _ (unhide R103) Tryd.underlying26 rfl (unhide HSR2) ?_))
    rw [zb64, two_digs o.lg o.mp hll hrl]
    clear hfs
    refine Calls.mono (refCheck_any o.z _ [o.lg, o.mp] _ (unhide HZ) (RdD.two (alloc_at _ _ _) hll hrl (unhide H).lg.2 (unhide H).mp.2)) ?_
    rintro e w1 ⟨rfl, k1⟩
    rw [← unhide HE2]
    have k01 := ((Kept.refl [] (w.alloc (.cells (opC o pv kv dv).toArray 34))).alloc (.cells (o.lg.map u8 ++ o.mp.map u8).toArray 26)).trans k1 (by simp)
    have HK1 := hide ((unhide HK0).trans k01 (by simp))
    have S70 := hide (range_kept (unhide R70) k01 (by simp))
    have d0 := k01.cell c0 (by simp)
    have d1 := k01.cell c1 (by simp)
    clear k1 k01 c0 c1 c2 c67 c68 c69
    by_cases hE0 : E = 0
    · have hb : ((E : Int) != 0) = false := by rw [hE0]; rfl
      have hw : 1 ≤ o.z ∧ o.z ≤ 32 := by
        have h9 := unhide HE2
        unfold formedE at h9
        cases hw : widthB o.z with
        | false => rw [hw] at h9; simp at h9; omega
        | true => exact width_le hw
      have HE0 := hide hE0
      clear hE0
      have hz9 : ((o.z.toNat : Nat) : Int) = o.z := Int.toNat_of_nonneg (by omega)
      have HZ9 := hide hz9
      clear hz9
      go_wp2_with (refine wpList_load_mid rfl 32 _ rfl w.heap.size 70 rfl (rootC o.s o.lg o.mp) _ (unhide S70) Tryd.underlying32 rfl (unhide HSO) ?_)
      have hc := refRootInput_any o.z.toNat o.s o.lg o.mp w1 (by omega) (unhide H).s hll hrl (unhide H).lg.2 (unhide H).mp.2
      rw [unhide HZ9] at hc
      refine Calls.mono hc ?_
      rintro e w2 ⟨v2, rfl, n2, k2⟩
      have HN2 := hide n2
      have HK2 := hide ((unhide HK1).trans k2 (by simp))
      clear n2 k2 hc
      go_wp2
      go_ret2
      exact ⟨_, by rw [unhide HE0]; rfl, by rw [unhide HB2, if_pos (unhide HE0)]; exact unhide HN2, unhide HK2⟩
    · have hb : ((E : Int) != 0) = true := by rw [bne_iff_ne]; omega
      have HE0 := hide hE0
      clear hE0
      go_wp2
      go_ret2
      exact ⟨_, rfl, by rw [unhide HB2, if_neg (unhide HE0)]; exact Rd.nil _, unhide HK1⟩
end Go.Proofs.YtbbjbpjpejekgaaDoor
