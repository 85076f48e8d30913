import Derived.Test.YtclgblilgpfllaaNCmp
import Derived.Test.YtclgblilgpfllaaNInt
namespace Go.Proofs.Ytclgblilgpfllaa
open Go.RowKit Go.BigFrame
set_option linter.unusedVariables false
set_option linter.unusedSimpArgs false

set_option maxRecDepth 100000 in
set_option maxHeartbeats 1000000 in
theorem rcheck_any (z : Int) (v : Value) (ds : List (List Nat)) (w : World) (hz : -9223372036854775808 ≤ z ∧ z ≤ 9223372036854775807) (hv : RdD w v ds) :
    Calls Try.prog 30 #[.int .i64 z, v] w fun e w' => e = .returned (.int .i64 (formedE z ds)) ∧ Kept [] w w' := by
  obtain ⟨ao, len, cap, rfl, h1, h2, h3, h4, h5⟩ := hv
  have H4 := hide h4
  have H5 := hide h5
  clear h4 h5
  subst h1
  go_enter Try.func30, Try.ntmps30
  go_wp2_with fail
  refine Calls.mono (rwidth_any z _ hz) ?_
  rintro e w1 ⟨rfl, rfl⟩
  cases hw : widthB z with
  | false =>
    have HF := hide (by simp [formedE, hw] : formedE z ds = 1)
    clear hw
    go_wp2
    go_ret
    exact ⟨by rw [unhide HF]; rfl, Kept.refl _ _⟩
  | true =>
    have HW := hide hw
    clear hw
    go_wp2_with fail
    go_loopw [12] (fun t12 wr => ∃ (i : Nat), i ≤ ds.length ∧ t12 = .int .i64 i ∧ Hid ((ds.take i).all (formB z) = true) ∧ Hid (Kept [] w1 wr)) (fun t _ => ds.length - (intOf t).toNat)
    case atStart => exact ⟨0, Nat.zero_le _, rfl, hide (by simp), hide (Kept.refl _ _)⟩
    case round =>
      obtain ⟨i, hi, rfl, HA, HK⟩ := hrel
      by_cases hlt : i < ds.length
      · have hlt' : (i : Int) < ds.length := by omega
        obtain ⟨b, o, rfl, hcell⟩ := unhide H5 (by omega)
        have HD := hide (unhide H4 (ds.getD i []) (by rw [List.getD_eq_getElem?_getD, List.getElem?_eq_getElem hlt]; exact List.getElem_mem hlt))
        have HRG := hide (fun j v hv => (unhide HK).cell (hcell i hlt j v hv) (by simp) : wr.rangeAt b (o + i * 32) ((ds.getD i []).map u8))
        have HN := hide (by rw [List.take_succ_eq_append_getElem hlt, List.all_append, unhide HA, List.getD_eq_getElem?_getD, List.getElem?_eq_getElem hlt]; simp : (ds.take (i + 1)).all (formB z) = formB z (ds.getD i []))
        have HM := hide (fun (h : formB z (ds.getD i []) = false) => by
          have : ds.all (formB z) = false := by
            rw [List.all_eq_false]
            exact ⟨ds.getD i [], by rw [List.getD_eq_getElem?_getD, List.getElem?_eq_getElem hlt]; exact List.getElem_mem hlt, by rw [h]; decide⟩
          simp [formedE, unhide HW, this] : formB z (ds.getD i []) = false → formedE z ds = 3)
        clear hcell
        obtain ⟨d, hd⟩ : ∃ d, ds.getD i [] = d := ⟨_, rfl⟩
        rw [hd] at HD HRG HN HM
        clear hd
        have hdl := (unhide HD).1
        have HSZ := hide (by rw [brow_size, hdl]; exact Try.size_dig : (Try.prog.info? 23).map (·.size) = some (brow d).size)
        have HNW := hide (setRow_heap (wr.alloc (.cells (zb 32) 23)) wr.heap.size (zb 32) (brow d) 23 (0, 0) (heap_alloc_new _ _))
        have HKN := hide (((unhide HK).alloc (.cells (zb 32) 23)).setRow (g := wr.heap.size) (Or.inr (unhide HK).size) (brow d))
        go_wp2_with (first
          | (refine wpList_load_mid rfl 23 (.tmp 14) rfl b (o + i * 32) rfl (d.map u8) _ (unhide HRG) Try.underlying23 rfl (by rw [List.length_map, hdl]; exact Try.size_dig) ?_)
          | (rw [zb32]; refine wpList_store_row rfl 23 (.tmp 6) _ rfl wr.heap.size (brow d) rfl rfl _ (zb 32) (heap_alloc_new _ _) (unhide HSZ) (by rw [zb_size, brow_size, hdl]) (brow_one _) ?_)
          | (refine wpList_load_row rfl 23 (.tmp 6) rfl wr.heap.size rfl _ (brow d) (0, 0) _ (unhide HNW) Try.underlying23 rfl (unhide HSZ) ?_))
        refine Calls.mono (docForm_any z d _ hz hdl (unhide HD).2) ?_
        rintro e w4 ⟨rfl, k4⟩
        have HK4 := hide ((unhide HKN).trans k4 (by simp))
        clear k4
        cases hf : formB z d with
        | true =>
          rw [hf] at HN
          clear hf
          go_wp2
          go_roundw
          case rel => exact ⟨i + 1, by omega, by go_num, HN, HK4⟩
          case measure => simp [intOf]; omega
        | false =>
          have HF := hide (unhide HM hf)
          clear hf
          go_wp2
          go_ret
          exact ⟨by rw [unhide HF]; rfl, unhide HK4⟩
      · have hlt' : ¬ (i : Int) < ds.length := by omega
        have hie : i = ds.length := by omega
        subst hie
        rw [List.take_length] at HA
        have HF := hide (by simp [formedE, unhide HW, unhide HA] : formedE z ds = 0)
        go_wp2
        go_ret
        exact ⟨by rw [unhide HF]; rfl, unhide HK⟩

theorem step_pushZ {ops : Array Oper} {o : Oper} {a : Act} {K : Act → World → Prop} {Q : Exit → Act → World → Prop} {F : Prop} (hgd : o.guard = none) (s x : Operand)
    (ho : o.op = .call { callee := .builtin .append, args := #[s, x], argTypes := #[38, 38] }) (hty : o.type = 38)
    (w0 w : World) (v : Value) (xs ys : List Nat) (H n : Nat) (h : OwnZ w0 w v xs) (hnew : w.heap[H]? = some (.cells (ys.map iv).toArray 3 (0, 0))) (hn : ys.length = n) (hn0 : 0 < n) (hl : xs.length + n ≤ 1000000000000)
    (hs : a.eval s = v) (hx : a.eval x = .slice (some ⟨H, 0, none⟩) n n)
    (hK : ∀ g cap w1, Hid (OwnZ w0 w1 (.slice (some ⟨g, 0, none⟩) (xs.length + n) cap) (xs ++ ys)) → Hid (w.grownBy w1 v.ownBlock) → K (a.put o.dst (.slice (some ⟨g, 0, none⟩) (xs.length + n) cap)) w1) :
    if Region.wanted o (yielded ops a.tmps) = true then Oper.wp Try.prog o a w K Q else F := by
  obtain ⟨g, cap, w1, hrun, h2, h3⟩ := pushZ w w0.heap.size v xs ys H n h.own hnew hn hn0 hl h.kept.size
  have hw : Region.wanted o (yielded ops a.tmps) = true := by simp [Region.wanted, hgd]
  rw [if_pos hw]
  unfold Oper.wp execOp
  simp only [ho, hty, resolve, invoke, builtin, Sem.run_bind, Sem.run_pure, Result.andThen_ok, List.map_toArray, List.map_cons, List.map_nil, hs, hx, hrun]
  refine hK g cap w1 ⟨?_, ?_⟩ h3
  · rw [List.map_append, List.length_append, hn]; exact h2
  · exact h.kept.grown h3 (by intro k hk; right; exact (h.own.lt k hk).1)

/-- The digits of the first k bytes. -/
def digsL (d : List Nat) : Nat → List Nat
  | 0 => []
  | k + 1 => digsL d k ++ [d.getD k 0 / 16, d.getD k 0 % 16]
theorem digsL_succ (d : List Nat) (k : Nat) : digsL d (k + 1) = digsL d k ++ [d.getD k 0 / 16, d.getD k 0 % 16] := rfl
theorem digsL_len (d : List Nat) : ∀ k, (digsL d k).length = 2 * k
  | 0 => rfl
  | k + 1 => by unfold digsL; rw [List.length_append, digsL_len d k]; simp; omega
theorem digsL_get (d : List Nat) : ∀ k i, i < 2 * k → (digsL d k).getD i 0 = dgt d i
  | 0, i, h => by omega
  | k + 1, i, h => by
    unfold digsL
    rw [List.getD_eq_getElem?_getD]
    rcases Nat.lt_or_ge i (2 * k) with g | g
    · rw [List.getElem?_append_left (by rw [digsL_len]; exact g), ← List.getD_eq_getElem?_getD, digsL_get d k i g]
    · rw [List.getElem?_append_right (by rw [digsL_len]; exact g), digsL_len]
      unfold dgt
      rcases (by omega : i = 2 * k ∨ i = 2 * k + 1) with rfl | rfl
      · rw [Nat.sub_self, if_pos (by omega), show 2 * k / 2 = k by omega]; rfl
      · rw [show 2 * k + 1 - 2 * k = 1 by omega, if_neg (by omega), show (2 * k + 1) / 2 = k by omega]; rfl

set_option maxRecDepth 100000 in
set_option maxHeartbeats 1000000 in
theorem digits_any (k : Nat) (d : List Nat) (w : World) (hk : k ≤ 32) (hd : Dg d) :
    Calls Try.prog 31 #[.int .i64 k, .agg (brow d)] w fun e w' => ∃ v, e = .returned v ∧ RdZ w' v (digsL d k) ∧ Kept [] w w' := by
  have hdl := hd.1
  have HD := hide hd
  have HA := hide (heap_alloc_new w (.cells (brow d) 23))
  have HK := hide ((Kept.refl [] w).alloc (.cells (brow d) 23))
  go_enter Try.func31, Try.ntmps31
  go_wp2_with fail
  have hsw : (w.alloc (.cells (brow d) 23)).heap.size = w.heap.size + 1 := Array.size_push _
  have HSW : Hid ((w.alloc (.cells (brow d) 23)).heap.size = w.heap.size + 1) := hide hsw
  clear hsw
  obtain ⟨W, hW⟩ : ∃ W, w.alloc (.cells (brow d) 23) = W := ⟨_, rfl⟩
  rw [hW] at HA HK HSW ⊢
  clear hW
  go_loopw [5, 6] (fun t2 t3 wr => ∃ (i : Nat), i ≤ k ∧ t3 = .int .i64 i ∧ Hid (OwnZ W wr t2 (digsL d i))) (fun _ t _ => k - (intOf t).toNat)
  case atStart => exact ⟨0, by omega, rfl, hide (OwnZ.start (Kept.refl _ _))⟩
  case round =>
    obtain ⟨i, hi, rfl, HO⟩ := hrel
    have HKr := hide (unhide HO).kept
    by_cases hlt : i < k
    · have hlt' : (i : Int) < k := by omega
      have hi32 : (i : Int) < 32 := by omega
      have ci := (unhide HKr).cell (brow_cell (unhide HA) i (by omega)) (by simp)
      have hx : d.getD i 0 < 256 := by rw [List.getD_eq_getElem?_getD, List.getElem?_eq_getElem (by omega)]; exact hd.2 _ (List.getElem_mem _)
      have HS := hide (digsL_succ d i)
      have HL := hide (digsL_len d i)
      obtain ⟨x, he⟩ : ∃ x, d.getD i 0 = x := ⟨_, rfl⟩
      rw [he] at ci hx HS
      clear he
      obtain ⟨p, hp⟩ : ∃ p, x / 16 = p := ⟨_, rfl⟩
      obtain ⟨q, hq⟩ : ∃ q, x % 16 = q := ⟨_, rfl⟩
      have h1 : (x : Int).tdiv 16 = p := by rw [Int.tdiv_eq_ediv_of_nonneg (by omega)]; omega
      have h2 : (x : Int).tmod 16 = q := by rw [Int.tmod_eq_emod_of_nonneg (by omega)]; omega
      have h3 : (x : Int) / 16 = p := by omega
      have h4 : (x : Int) % 16 = q := by omega
      rw [hp, hq] at HS
      clear hp hq
      go_wp2_with fail
      have e0 : IntKind.i64.wrap (x : Int) = x := by simp [IntKind.wrap, IntKind.signed, IntKind.bits]; omega
      have e1 : IntKind.i64.wrap ((IntKind.i64.wrap (x : Int)).tdiv 16) = p := by rw [e0, h1]; simp [IntKind.wrap, IntKind.signed, IntKind.bits]; omega
      have e3 : IntKind.i64.wrap (p : Int) = p := by simp [IntKind.wrap, IntKind.signed, IntKind.bits]; omega
      have e2 : (IntKind.i64.wrap (x : Int)).tmod 16 = q := by rw [e0, h2]
      have HN := hide (heap_alloc_new wr (.cells #[.int .i64 (p : Int), .int .i64 (q : Int)] 3))
      have HO1 := hide ((unhide HO).pass (((Kept.refl [] wr).alloc (.cells #[.int .i64 (p : Int), .int .i64 (q : Int)] 3))).drew)
      have HC := hide (fun (w1 : World) (hg : Hid ((wr.alloc (.cells #[.int .i64 (p : Int), .int .i64 (q : Int)] 3)).drew.grownBy w1 u5.ownBlock)) => by
        have k9 : Kept u5.ownBlock.toList (wr.alloc (.cells #[.int .i64 (p : Int), .int .i64 (q : Int)] 3)).drew w1 := (Kept.refl _ _).grown (unhide hg) (by intro k hk; left; simp [hk])
        exact k9.cell (((Kept.refl [] wr).alloc (.cells #[.int .i64 (p : Int), .int .i64 (q : Int)] 3)).drew.cell ci (by simp)) (by
          intro hm
          have h9 := (unhide HO).own.lt w.heap.size (by simpa using hm)
          have h8 := unhide HSW
          omega) : ∀ w1, Hid ((wr.alloc (.cells #[.int .i64 (p : Int), .int .i64 (q : Int)] 3)).drew.grownBy w1 u5.ownBlock) → w1.cell? ⟨w.heap.size, i, none⟩ = some (Go.Proofs.Ytclgblilgpfllaa.u8 x))
      go_region_held3 (fun w' => w'.cell? ⟨w.heap.size, i, none⟩ = some (Go.Proofs.Ytclgblilgpfllaa.u8 x)) (go_keep) (first | ((try rw [e3]); refine step_pushZ (by rfl) (.tmp 12) (.tmp 23) (by rfl) (by rfl) W (wr.alloc (.cells #[.int .i64 (p : Int), .int .i64 (q : Int)] 3)).drew u5 (digsL d i) [p, q] wr.heap.size 2 (unhide HO1) (by exact unhide HN) rfl (by decide) (by rw [unhide HL]; omega) (by rfl) (by rfl) ?_; intro g cap w1 HO2 HG2; have c9 := unhide HC w1 HG2))
      go_wp2
      refine ⟨⟨i + 1, by omega, by simp, hide (by rw [unhide HS]; exact unhide HO2)⟩, ?_⟩
      simp [intOf]; omega
    · have hlt' : ¬ (i : Int) < k := by omega
      obtain rfl : i = k := by omega
      go_wp2
      go_ret
      exact ⟨_, rfl, (unhide HO).rd, (unhide HK).trans (unhide HO).kept (by simp)⟩
end Go.Proofs.Ytclgblilgpfllaa
