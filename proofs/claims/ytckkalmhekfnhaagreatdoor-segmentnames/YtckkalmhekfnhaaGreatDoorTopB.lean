import Derived.Test.YtckkalmhekfnhaaGreatDoorSNum
import Derived.Test.YtckkalmhekfnhaaGreatDoorFEnc
import Derived.Test.YtckkalmhekfnhaaGreatDoorAApp
import Derived.Test.YtckkalmhekfnhaaGreatDoorTopA
import Derived.Laws.ShiftsVarLaws
import Derived.Lib.SlBytesConst
import Derived.Test.YtckkalmhekfnhaaGreatDoorSFm
import Derived.Laws.Cover3
namespace Go.Proofs.YtckkalmhekfnhaaGreatDoor
open Go.RowKit Go.BigFrame
set_option linter.unusedVariables false
set_option linter.unusedSimpArgs false

def wideB (z : Int) : Bool := decide (1 ≤ z ∧ z ≤ 32)

set_option maxRecDepth 100000 in
theorem isWidth_any (z : Int) (w : World) : Calls Tryz.prog 33 #[.int .i64 z] w fun e w' => e = .returned (.bool (wideB z)) ∧ w' = w := by
  by_cases h1 : 1 ≤ z
  · by_cases h2 : z ≤ 32
    · have hb : wideB z = true := by simp [wideB, h1, h2]
      rw [hb]
      clear hb
      go_enter Tryz.func33, Tryz.ntmps33
      go_wp2
      go_ret
      exact ⟨rfl, rfl⟩
    · have hb : wideB z = false := by simp [wideB, h1]; omega
      have h2' : decide (z ≤ 32) = false := by simpa using h2
      rw [hb]
      clear hb
      go_enter Tryz.func33, Tryz.ntmps33
      go_wp2
      go_ret
      exact ⟨rfl, rfl⟩
  · have hb : wideB z = false := by simp [wideB]; omega
    have h1' : decide (1 ≤ z) = false := by simpa using h1
    rw [hb]
    clear hb
    go_enter Tryz.func33, Tryz.ntmps33
    go_wp2
    go_ret
    exact ⟨rfl, rfl⟩

/-- A list that may be appended to: owned, or without room. -/
def AppOk (base : Nat) (w : World) (v : Value) (bs : List Nat) : Prop := w.ownsRow base 5 1 v bs.length (bs.map u8) ∨ ∃ g, v = .slice (some ⟨g, 0, none⟩) bs.length bs.length ∧ Rd w v bs
theorem AppOk.pass {base : Nat} {w w' : World} {v : Value} {bs : List Nat} (h : AppOk base w v bs) (k : Kept [] w w') : AppOk base w' v bs := by
  rcases h with h | ⟨g, h1, h2⟩
  · exact .inl (k.owns h (by simp))
  · exact .inr ⟨g, h1, h2.old k (by simp)⟩
/-- One byte more. -/
theorem pushA (w0 w : World) (v : Value) (bs : List Nat) (z : Nat) (H : Nat) (k : Kept [] w0 w) (h : AppOk w0.heap.size w v bs) (hnew : w.heap[H]? = some (.cells #[.int .u8 (z : Int)] 5 (0, 0))) (hz : z < 256) (hl : bs.length + 1 ≤ 1000000000) :
    ∃ ao cap w1, (Builtin.append_ #[36, 36] 36 #[v, .slice (some ⟨H, 0, none⟩) 1 1]).run Tryz.prog w = .ok (.slice ao (bs.length + 1) cap) w1 ∧
      w1.ownsRow w0.heap.size 5 1 (.slice ao (bs.length + 1) cap) (bs ++ [z]).length ((bs ++ [z]).map u8) ∧ Kept [] w0 w1 := by
  have hr : Rd w (.slice (some ⟨H, 0, none⟩) 1 1) [z] := rd_lit hnew rfl (by simpa using hz) 1 rfl (by omega)
  rcases h with h | ⟨g, rfl, h2⟩
  · obtain ⟨ao, cap, w1, hrun, ho, hg, _⟩ := appendAll w w0.heap.size v bs [z] _ 1 1 h hr (by simp; omega) k.size
    exact ⟨ao, cap, w1, hrun, ho, k.grown hg (fun j hj => .inr (h.lt j hj).1)⟩
  · obtain ⟨i0, hi, hz0, hz1, hz2⟩ := info_parts Tryz.info5
    have hold : ∀ j u, (bs.map u8)[j]? = some u → w.cell? (Addr.add ⟨g, 0, none⟩ j) = some u := by
      intro j u hj
      by_cases h0 : 0 < (bs.map u8).length
      · obtain ⟨ad', e, hc⟩ := h2.src h0
        cases e
        exact hc j u hj
      · have : bs.map u8 = [] := List.eq_nil_of_length_eq_zero (by omega)
        rw [this] at hj; simp at hj
    have hnews : ∀ j u, ([z].map u8)[j]? = some u → w.cell? (Addr.add ⟨H, 0, none⟩ j) = some u := by
      intro j u hj
      obtain ⟨ad', e, hc⟩ := hr.src (by simp)
      cases e
      exact hc j u hj
    obtain ⟨v', w1, hrun, hown, hgrow⟩ := run_append_arg_grows (P := Tryz.prog) w 36 36 5 i0 (.int .u8 0) 1 1 Tryz.underlying36 hi hz0 hz1 hz2 rfl (by decide)
      ⟨g, 0, none⟩ bs.length bs.length (bs.map u8) (by simp) hold ⟨H, 0, none⟩ 1 1 ([z].map u8) (by simp) hnews (by omega) (by unfold maxLen; omega) (by omega)
    obtain ⟨ao', cap', rfl⟩ := owns_shape hown
    exact ⟨ao', cap', w1, hrun, by rw [List.length_append, List.map_append]; exact owns_base hown k.size, k.trans ((Kept.refl [] w).grown hgrow (by simp)) (by simp)⟩
theorem wpList_pushA {ops : Array Oper} {rest : List Oper} {o : Oper} {a : Act} {Q : Exit → Act → World → Prop} (hgd : o.guard = none) (s x : Operand)
    (ho : o.op = .call { callee := .builtin .append, args := #[s, x], argTypes := #[36, 36] }) (hty : o.type = 36)
    (w0 w : World) (v : Value) (bs : List Nat) (z : Nat) (H : Nat) (k : Kept [] w0 w) (h : AppOk w0.heap.size w v bs) (hnew : w.heap[H]? = some (.cells #[.int .u8 (z : Int)] 5 (0, 0))) (hz : z < 256) (hl : bs.length + 1 ≤ 1000000000)
    (hs : a.eval s = v) (hx : a.eval x = .slice (some ⟨H, 0, none⟩) 1 1)
    (hK : ∀ ao cap w1, Hid (w1.ownsRow w0.heap.size 5 1 (.slice ao (bs.length + 1) cap) (bs ++ [z]).length ((bs ++ [z]).map u8)) → Hid (Kept [] w0 w1) → wpList Tryz.prog ops Q rest (a.put o.dst (.slice ao (bs.length + 1) cap)) w1) :
    wpList Tryz.prog ops Q (o :: rest) a w := by
  obtain ⟨ao, cap, w1, hrun, h2, h3⟩ := pushA w0 w v bs z H k h hnew hz hl
  refine wpList_plain hgd fun K hK' => ?_
  unfold Oper.wp execOp
  simp only [ho, hty, resolve, invoke, builtin, Sem.run_bind, Sem.run_pure, Result.andThen_ok, List.map_toArray, List.map_cons, List.map_nil, hs, hx, hrun]
  exact hK' _ _ (hK ao cap w1 h2 h3)
theorem AppOk.shape {base : Nat} {w : World} {v : Value} {bs : List Nat} (h : AppOk base w v bs) : ∃ ao cap, v = .slice ao bs.length cap := by
  rcases h with h | ⟨g, h1, h2⟩
  · exact owns_shape h
  · exact ⟨_, _, h1⟩

set_option maxRecDepth 100000 in
set_option maxHeartbeats 2000000 in
theorem appendNumber_any (w0 w : World) (v : Value) (bs : List Nat) (x : Nat) (k : Kept [] w0 w) (h : AppOk w0.heap.size w v bs) (hl : bs.length ≤ 1000000) :
    Calls Tryz.prog 34 #[v, .int .u64 x] w fun e w' => ∃ v', e = .returned v' ∧ AppOk w0.heap.size w' v' (bs ++ wide x 8) ∧ Kept [] w0 w' := by
  have HH := hide h
  have HK := hide k
  clear h k
  go_enter Tryz.func34, Tryz.ntmps34
  go_wp2_with fail
  go_loopw [0, 5] (fun t0 t5 wr => ∃ (k : Nat) (cur : List Nat), t5 = .int .i64 ((k : Int) - 1) ∧ k ≤ 8 ∧ Hid (cur ++ wide x k = bs ++ wide x 8) ∧ Hid (AppOk w0.heap.size wr t0 cur) ∧ Hid (Kept [] w0 wr)) (fun _ t _ => (intOf t + 1).toNat)
  case atStart => exact ⟨8, bs, rfl, Nat.le_refl _, rfl, HH, HK⟩
  case round =>
    obtain ⟨k, cur, rfl, hk, Hp, HA, HK1⟩ := hrel
    have hlen : cur.length + k ≤ 1000008 := by have h1 := congrArg List.length (unhide Hp); simp [wide_len] at h1; omega
    by_cases h0 : k = 0
    · subst h0
      go_wp2
      go_ret
      have h1 : cur = bs ++ wide x 8 := by have h2 := unhide Hp; rw [show wide x 0 = [] from rfl, List.append_nil] at h2; exact h2
      exact ⟨_, rfl, by rw [← h1]; exact unhide HA, unhide HK1⟩
    · obtain ⟨j, rfl⟩ : ∃ j, k = j + 1 := ⟨k - 1, by omega⟩
      have e1 : (((j + 1 : Nat) : Int) - 1) = (j : Int) := by omega
      rw [e1]
      have hj0 : (0 : Int) ≤ (j : Int) := by omega
      have hj8 : (j : Int) ≤ 7 := by omega
      obtain ⟨q, hq⟩ : ∃ q, q = x / 256 ^ j := ⟨_, rfl⟩
      have hsh := shr8 x j (by omega)
      rw [← hq] at hsh
      have Hq := hide hq
      clear hq
      have hz1 : IntKind.u8.wrap (q : Int) = ((q % 256 : Nat) : Int) := by rw [IntKind.wrap_u8']; omega
      have hz2 : (q : Int) % 256 = ((q % 256 : Nat) : Int) := by omega
      have HZ := hide (Nat.mod_lt q (by decide : 0 < 256))
      obtain ⟨y, hy⟩ : ∃ y, q % 256 = y := ⟨_, rfl⟩
      rw [hy] at hz1 hz2 HZ
      have HY := hide hy
      have hval : (x : Int) / 2 ^ (8 * j) % 256 = (y : Int) := by
        have h1 : (x : Int) / 2 ^ (8 * j) = (q : Int) := by rw [unhide Hq, Int.pow_mul]; simp
        rw [h1, hz2]
      clear hy
      obtain ⟨ao, cap, he⟩ := (unhide HA).shape
      subst he
      go_wp2_with (at_builtin; go_must (refine wpList_pushA rfl (.tmp 10) (.tmp 16) rfl rfl w0 _ (.slice ao cur.length cap) cur y wr.heap.size ((unhide HK1).alloc _) ((unhide HA).pass ((Kept.refl [] wr).alloc _)) (heap_alloc_new _ _) (unhide HZ) (by omega) rfl rfl ?_; intro ao2 cap2 w2 HO2 HK2))
      go_roundw
      case rel => exact ⟨j, cur ++ [y], rfl, by omega, hide (by rw [← unhide Hp, ← unhide HY, unhide Hq]; simp [wide]), hide (.inl (unhide HO2)), HK2⟩
      case measure => simp [intOf]
theorem hcells {w : World} {b : Nat} {x0 x1 x2 x3 : Value} {t : TypeId} (h : w.heap[b]? = some (.cells #[x0, x1, x2, x3] t (0, 0))) : w.cell? ⟨b, 0, none⟩ = some x0 ∧ w.cell? ⟨b, 1, none⟩ = some x1 ∧ w.cell? ⟨b, 2, none⟩ = some x2 ∧ w.cell? ⟨b, 3, none⟩ = some x3 := by
  refine ⟨?_, ?_, ?_, ?_⟩ <;> rw [cell_of_row _ _ _ _ _ _ h] <;> rfl
/-- A head's payload. -/
def headB (a b c : Nat) (z : Int) : List Nat := [78, 84, 82, 89, 49] ++ wide a 8 ++ wide b 8 ++ wide c 8 ++ [(z % 256).toNat]
theorem headB_eq (a b c : Nat) (z : Int) : headB a b c z = [78, 84, 82, 89, 49] ++ wide a 8 ++ wide b 8 ++ wide c 8 ++ [(z % 256).toNat] := rfl
theorem headB_len (a b c : Nat) (z : Int) : (headB a b c z).length = 30 := by simp [headB, wide_len]
/-- What EncodeHead answers. -/
def ehE (z : Int) : Nat := if wideB z then 0 else 1
def ehB (a b c : Nat) (z : Int) : List Nat := if wideB z then frB a (headB a b c z) else []

set_option maxRecDepth 100000 in
set_option maxHeartbeats 2000000 in
theorem encodeHead_any (a b c : Nat) (z : Int) (w : World) (ha : a < 18446744073709551616) (hz : -9223372036854775808 ≤ z ∧ z ≤ 9223372036854775807) :
    Calls Tryz.prog 14 #[.agg #[.int .u64 a, .int .u64 b, .int .u64 c, .int .i64 z]] w fun e w' => ∃ v', e = .returned (.tuple #[v', .int .i64 (ehE z)]) ∧ NewB w w' v' (ehB a b c z) ∧ Kept [] w w' := by
  have HK0 := hide ((Kept.refl [] w).alloc (.cells #[.int .u64 a, .int .u64 b, .int .u64 c, .int .i64 z] 32))
  have HB0 := hide (heap_alloc_new w (.cells #[.int .u64 a, .int .u64 b, .int .u64 c, .int .i64 z] 32))
  by_cases hw : wideB z = true
  · have hE : ehE z = 0 := by simp [ehE, hw]
    have hB : ehB a b c z = frB a (headB a b c z) := by simp [ehB, hw]
    rw [hE, hB]
    clear hE hB
    have hzz : 1 ≤ z ∧ z ≤ 32 := by simpa [wideB] using hw
    have kc : (convert 36 36 (.slice (some ⟨w.heap.size + 1, 0, none⟩) 5 5)).run Tryz.prog ((w.alloc (.cells #[.int .u64 a, .int .u64 b, .int .u64 c, .int .i64 z] 32)).alloc (.cells #[.int .u8 78, .int .u8 84, .int .u8 82, .int .u8 89, .int .u8 49] 5)) = .ok (.slice (some ⟨w.heap.size + 1, 0, none⟩) 5 5) ((w.alloc (.cells #[.int .u64 a, .int .u64 b, .int .u64 c, .int .i64 z] 32)).alloc (.cells #[.int .u8 78, .int .u8 84, .int .u8 82, .int .u8 89, .int .u8 49] 5 (5, 6))) := by
      have h9 := Lib.run_convert_bytes_const (P := Tryz.prog) (w.alloc (.cells #[.int .u64 a, .int .u64 b, .int .u64 c, .int .i64 z] 32)) 36 5 #[.int .u8 78, .int .u8 84, .int .u8 82, .int .u8 89, .int .u8 49] 5 5 Tryz.underlying36 Tryz.underlying5
      rw [show (w.alloc (.cells #[.int .u64 a, .int .u64 b, .int .u64 c, .int .i64 z] 32)).heap.size = w.heap.size + 1 by simp] at h9
      exact h9
    go_enter Tryz.func14, Tryz.ntmps14
    go_wp2_with fail
    refine Calls.mono (isWidth_any z _) ?_
    rintro e w1 ⟨rfl, rfl⟩
    rw [hw]
    go_wp2_with fail
    obtain ⟨W1, hW1⟩ : ∃ W, w.alloc (.cells #[.int .u64 a, .int .u64 b, .int .u64 c, .int .i64 z] 32) = W := ⟨_, rfl⟩
    have hs1 : W1.heap.size = w.heap.size + 1 := by rw [← hW1]; simp
    rw [hW1] at HK0 HB0 ⊢
    have HS1 := hide hs1
    clear hW1 hs1 kc
    obtain ⟨W2, hW2⟩ : ∃ W, W1.alloc (.cells #[.int .u8 78, .int .u8 84, .int .u8 82, .int .u8 89, .int .u8 49] 5 (5, 6)) = W := ⟨_, rfl⟩
    have HK2 := hide (by rw [← hW2]; exact (Kept.refl [] W1).alloc _ : Kept [] W1 W2)
    have HR2 := hide (by rw [← hW2, ← unhide HS1]; exact rd_row [78, 84, 82, 89, 49] (heap_alloc_new W1 _) rfl (by decide) 5 rfl (by decide) : Rd W2 (.slice (some ⟨w.heap.size + 1, 0, none⟩) 5 5) [78, 84, 82, 89, 49])
    rw [hW2]
    clear hW2
    obtain ⟨d0, d1, d2, d3⟩ := hcells ((unhide HK2).heap (unhide HB0) (by simp))
    refine Calls.mono (appendNumber_any W1 W2 _ [78, 84, 82, 89, 49] a (unhide HK2) (.inr ⟨_, rfl, unhide HR2⟩) (by decide)) ?_
    rintro e w3 ⟨v3, rfl, o3, k3⟩
    obtain ⟨a3, c3, rfl⟩ := o3.shape
    have HO3 := hide o3
    have HK3 := hide k3
    clear o3 k3 d0 d1 d2 d3 HR2 HK2
    obtain ⟨d0, d1, d2, d3⟩ := hcells ((unhide HK3).heap (unhide HB0) (by simp))
    go_wp2_with fail
    refine Calls.mono (appendNumber_any W1 w3 _ _ b (unhide HK3) (unhide HO3) (by simp [wide_len])) ?_
    rintro e w4 ⟨v4, rfl, o4, k4⟩
    obtain ⟨a4, c4, rfl⟩ := o4.shape
    have HO4 := hide o4
    have HK4 := hide k4
    clear o4 k4 d0 d1 d2 d3 HO3 HK3
    obtain ⟨d0, d1, d2, d3⟩ := hcells ((unhide HK4).heap (unhide HB0) (by simp))
    go_wp2_with fail
    refine Calls.mono (appendNumber_any W1 w4 _ _ c (unhide HK4) (unhide HO4) (by simp [wide_len])) ?_
    rintro e w5 ⟨v5, rfl, o5, k5⟩
    obtain ⟨a5, c5, rfl⟩ := o5.shape
    have HO5 := hide o5
    have HK5 := hide k5
    clear o5 k5 d0 d1 d2 d3 HO4 HK4
    have hbl : ([78, 84, 82, 89, 49] ++ wide a 8 ++ wide b 8 ++ wide c 8).length = 29 := by simp [wide_len]
    have HHB := hide (headB_eq a b c z)
    generalize [78, 84, 82, 89, 49] ++ wide a 8 ++ wide b 8 ++ wide c 8 = bs at HO5 HHB hbl
    obtain ⟨y, hy⟩ : ∃ y : Nat, z = (y : Int) := ⟨z.toNat, by omega⟩
    subst hy
    have hy2 : ((y : Int) % 256).toNat = y := by omega
    rw [hy2] at HHB
    have hval : (y : Int) % 256 = (y : Int) := by omega
    have HLB := hide hbl
    have hyl : y < 256 := by omega
    have HYL := hide hyl
    obtain ⟨d0, d1, d2, d3⟩ := hcells ((unhide HK5).heap (unhide HB0) (by simp))
    clear hbl hy2 hyl
    go_wp2_with (at_builtin; go_must (refine wpList_pushA rfl (.tmp 23) (.tmp 27) rfl rfl W1 _ _ bs y w5.heap.size ((unhide HK5).alloc _) (by exact (unhide HO5).pass ((Kept.refl [] w5).alloc _)) (heap_alloc_new _ _) (unhide HYL) (by rw [unhide HLB]; omega) rfl rfl ?_; intro a6 c6 w6 HO6 HK6; obtain ⟨x0, x1, x2, x3⟩ := hcells ((unhide HK6).heap (unhide HB0) (by simp))))
    have HK0w := hide (unhide HK6)
    have hby : ∀ x ∈ bs ++ [y], x < 256 := by
      have h9 : ∀ x ∈ headB a b c (y : Int), x < 256 := by
        intro x hx
        unfold headB at hx
        simp only [List.mem_append, List.mem_cons, List.not_mem_nil, or_false] at hx
        rcases hx with ((((h | h | h | h | h) | h) | h) | h) | h
        · omega
        · omega
        · omega
        · omega
        · omega
        · exact wide_byte _ _ x h
        · exact wide_byte _ _ x h
        · exact wide_byte _ _ x h
        · omega
      rw [unhide HHB] at h9; exact h9
    have HR6 := hide (rd_owns (unhide HO6) hby (by rw [List.length_append, unhide HLB]; simp))
    clear hby d0 d1 d2 d3
    refine Calls.mono (encode_any a _ (bs ++ [y]) w6 (unhide HR6) ha) ?_
    rintro e w7 ⟨v7, rfl, n7, k7⟩
    have hel : (bs ++ [y]).length = 30 := by rw [List.length_append, unhide HLB]; rfl
    have hee : encE (bs ++ [y]) = 0 := by unfold encE; rw [hel]; rfl
    have heb : encB a (bs ++ [y]) = frB a (bs ++ [y]) := by unfold encB; rw [hee]; rfl
    rw [heb] at n7
    rw [hee]
    have HN7 := hide (n7.weak (w0 := w) (Nat.le_trans (unhide HK0).size (unhide HK6).size))
    have HK7 := hide (((unhide HK0).trans (unhide HK6) (by simp)).trans k7 (by simp))
    clear n7 k7 hel hee heb
    go_wp2
    go_ret2
    exact ⟨_, rfl, by rw [unhide HHB]; exact unhide HN7, unhide HK7⟩
  · have hw' : wideB z = false := by simpa using hw
    have hE : ehE z = 1 := by simp [ehE, hw']
    have hB : ehB a b c z = [] := by simp [ehB, hw']
    rw [hE, hB]
    clear hE hB hw
    go_enter Tryz.func14, Tryz.ntmps14
    go_wp2_with fail
    refine Calls.mono (isWidth_any z _) ?_
    rintro e w1 ⟨rfl, rfl⟩
    rw [hw']
    go_wp2
    go_ret2
    exact ⟨_, rfl, NewB.nil _ _, unhide HK0⟩
end Go.Proofs.YtckkalmhekfnhaaGreatDoor
namespace Go.Proofs.YtckkalmhekfnhaaGreatDoor
open Go.RowKit Go.BigFrame
set_option linter.unusedVariables false
set_option linter.unusedSimpArgs false

set_option maxRecDepth 100000 in
set_option maxHeartbeats 1000000 in
theorem fmtU_any (u : Nat) (w : World) (hu : u < 18446744073709551616) (hv : VarsS w) :
    Calls Tryz.prog 29 #[.int .u64 u, .int .i64 10] w fun e w' => e = .returned (.string (strB (dgs (Lib.nDigits u) u))) ∧ Kept [] w w' := by
  go_enter Tryz.func29, Tryz.ntmps29
  go_wp2_with fail
  refine Calls.mono (ifmtU_any u _ hu hv) ?_
  rintro e w1 ⟨rfl, k1⟩
  have HK := hide k1
  clear k1
  go_wp2
  go_ret
  exact ⟨rfl, unhide HK⟩

set_option maxRecDepth 100000 in
set_option maxHeartbeats 1000000 in
theorem rep0_any (k : Nat) (w : World) (hk : k ≤ 20) : Calls Tryz.prog 30 #[.string ⟨#[48]⟩, .int .i64 k] w fun e w' => e = .returned (.string (strB (List.replicate k 48))) ∧ w' = w := by
  by_cases h0 : k = 0
  · subst h0
    go_enter Tryz.func30, Tryz.ntmps30
    go_wp2
    go_ret
    exact ⟨rfl, rfl⟩
  by_cases h1 : k = 1
  · subst h1
    go_enter Tryz.func30, Tryz.ntmps30
    go_wp2
    go_ret
    exact ⟨rfl, rfl⟩
  refine (repeat_any k w (by omega) hk).mono fun e w' h => ⟨?_, h.2⟩
  rw [h.1, zer_rep ⟨k, by omega⟩]

set_option maxRecDepth 100000 in
set_option maxHeartbeats 2000000 in
theorem name_any (u : Nat) (w : World) (hu : u < 18446744073709551616) (hv : VarsS w) :
    Calls Tryz.prog 10 #[.int .u64 u] w fun e w' => e = .returned (.string (strB (nmL u))) ∧ Kept [] w w' := by
  have HP := hide (Lib.lt_pow_nDigits u)
  have HN := hide (by
    by_cases h0 : u = 0
    · subst h0; rw [Lib.nDigits_small (by omega)]; omega
    · have := Lib.numDigits_eq u (by omega) hu; split at this <;> omega : Lib.nDigits u ≤ 20)
  have HF := hide (fmtU_any u w hu hv)
  obtain ⟨nd, hnd⟩ : ∃ nd, Lib.nDigits u = nd := ⟨_, rfl⟩
  rw [hnd] at HP HN HF
  clear hnd hv
  have HS := hide (strB_size (dgs nd u))
  rw [dgs_len] at HS
  have HE := hide (by
    have h1 := dgs_pad nd u (unhide HP) (20 - nd)
    rw [Nat.sub_add_cancel (unhide HN)] at h1
    unfold nmL
    rw [h1, strB_app, strB_app, ← ByteArray.append_assoc]
    rfl : strB (nmL u) = (⟨#[115, 101, 103, 45]⟩ : ByteArray) ++ strB (List.replicate (20 - nd) 48) ++ strB (dgs nd u))
  obtain ⟨D, hD⟩ : ∃ D, strB (dgs nd u) = D := ⟨_, rfl⟩
  rw [hD] at HF HS HE
  clear hD
  have hsz : (D.size : Int) = nd := by rw [unhide HS]
  have hz0 : (strB (List.replicate (20 - nd) 48)).size = 20 - nd := by rw [strB_size, List.length_replicate]
  have hz1 : ¬ 9223372036854775807 < 4 + (strB (List.replicate (20 - nd) 48)).size := by omega
  have hz2 : ¬ 9223372036854775807 < 4 + (strB (List.replicate (20 - nd) 48)).size + D.size := by have := unhide HS; have := unhide HN; omega
  clear hz0
  have hsub : (20 : Int) - (nd : Int) = ((20 - nd : Nat) : Int) := by have := unhide HN; omega
  go_enter Tryz.func10, Tryz.ntmps10
  go_wp2_with fail
  refine Calls.mono (unhide HF) ?_
  rintro e w1 ⟨rfl, k1⟩
  have HK := hide k1
  clear k1
  go_wp2_with fail
  refine Calls.mono (rep0_any (20 - nd) _ (by omega)) ?_
  rintro e w2 ⟨rfl, rfl⟩
  go_wp2
  go_ret
  exact ⟨by rw [unhide HE]; rfl, unhide HK⟩

theorem row20 {j u : Nat} (hj : j < 20) : (((List.replicate (20 - j) 0 ++ dgs j u).map Go.Proofs.YtckkalmhekfnhaaGreatDoor.u8).toArray).setIfInBounds (19 - j) (Go.Proofs.YtckkalmhekfnhaaGreatDoor.u8 (48 + u / 10 ^ j % 10)) = ((List.replicate (20 - (j + 1)) 0 ++ dgs (j + 1) u).map Go.Proofs.YtckkalmhekfnhaaGreatDoor.u8).toArray := by
  rw [dgs_cons, show 20 - j = (20 - (j + 1)) + 1 by omega, List.replicate_succ', show 19 - j = 20 - (j + 1) by omega]
  simp [List.set_append]

set_option maxRecDepth 100000 in
set_option maxHeartbeats 2000000 in
theorem docName_any (u : Nat) (w : World) (hu : u < 18446744073709551616) :
    Calls Tryz.prog 11 #[.int .u64 u] w fun e w' => e = .returned (.string (strB (nmL u))) ∧ Kept [] w w' := by
  have hmk := run_make_row' (P := Tryz.prog) 36 5 (.int .u8 0) 1 Tryz.underlying36 Tryz.info5 rfl .i64 .i64 20 (by omega) (by omega)
  have hr : (Instr.makeSlice 36 (.int .i64 20) (.int .i64 20)).run Tryz.prog w = .ok (.slice (some ⟨w.heap.size, 0, none⟩) 20 20) (w.alloc (.cells ((List.replicate 20 0).map Go.Proofs.YtckkalmhekfnhaaGreatDoor.u8).toArray 5)) := (hmk w).trans (by rw [show madeCells #[.int .u8 0] 20 = ((List.replicate 20 0).map Go.Proofs.YtckkalmhekfnhaaGreatDoor.u8).toArray from by kernel_rfl])
  clear hmk
  have HE := hide (by unfold nmL; rw [strB_app]; rfl : strB (nmL u) = (⟨#[115, 101, 103, 45]⟩ : ByteArray) ++ strB (dgs 20 u))
  go_enter Tryz.func11, Tryz.ntmps11
  go_wp2_with fail
  go_loopw [0, 4] (fun t0 t4 wr => ∃ j : Nat, j ≤ 20 ∧ t0 = .int .u64 ((u / 10 ^ j : Nat) : Int) ∧ t4 = .int .i64 (19 - (j : Int)) ∧ Hid (wr.heap[w.heap.size]? = some (.cells ((List.replicate (20 - j) 0 ++ dgs j u).map Go.Proofs.YtckkalmhekfnhaaGreatDoor.u8).toArray 5 (0, 0))) ∧ Hid (Kept [] w wr)) (fun _ t _ => ((intOf t) + 1).toNat)
  case atStart => exact ⟨0, by omega, by simp, by simp, hide (by rw [show dgs 0 u = [] from rfl, List.append_nil]; exact heap_alloc_new _ _), hide ((Kept.refl [] w).alloc _)⟩
  case round =>
    obtain ⟨j, hj, rfl, rfl, HB, HK⟩ := hrel
    by_cases hlt : j < 20
    · have hge : (0 : Int) ≤ 19 - (j : Int) := by omega
      have hl2 : (19 : Int) - (j : Int) < 20 := by omega
      have hti : ((19 : Int) - (j : Int)).toNat = 19 - j := by omega
      obtain ⟨q, hq⟩ : ∃ q, u / 10 ^ j = q := ⟨_, rfl⟩
      have hq1 : u / 10 ^ (j + 1) = q / 10 := by rw [← hq, Nat.pow_succ, Nat.div_div_eq_div_mul]
      have hcell : ∃ x, wr.cell? ⟨w.heap.size, 19 - j, none⟩ = some x := by
        rw [cell_of_row _ _ _ _ _ _ (unhide HB)]
        refine ⟨_, List.getElem?_toArray .. ▸ List.getElem?_eq_getElem (by simp [dgs_len]; omega)⟩
      obtain ⟨x, hx⟩ := hcell
      have hf : wr.frozen? ⟨w.heap.size, 19 - j, none⟩ = false := frozen_of_row _ _ _ _ _ (unhide HB)
      have HB2 := hide (by have h9 := heap_setCell_same wr w.heap.size (19 - j) _ 5 (Go.Proofs.YtckkalmhekfnhaaGreatDoor.u8 (48 + u / 10 ^ j % 10)) (unhide HB); rw [row20 hlt] at h9; exact h9 : (wr.setCell ⟨w.heap.size, 19 - j, none⟩ (Go.Proofs.YtckkalmhekfnhaaGreatDoor.u8 (48 + u / 10 ^ j % 10))).heap[w.heap.size]? = some (.cells ((List.replicate (20 - (j + 1)) 0 ++ dgs (j + 1) u).map Go.Proofs.YtckkalmhekfnhaaGreatDoor.u8).toArray 5 (0, 0)))
      have HK2 := hide ((unhide HK).setCell (p := ⟨w.heap.size, 19 - j, none⟩) (Or.inr (Nat.le_refl _)) (Go.Proofs.YtckkalmhekfnhaaGreatDoor.u8 (48 + u / 10 ^ j % 10)))
      rw [hq] at HB2 HK2 ⊢
      have hw1 : IntKind.u8.wrap (IntKind.u64.wrap (48 + (q : Int) % 10)) = ((48 + q % 10 : Nat) : Int) := by rw [IntKind.wrap_u64, IntKind.wrap_u8']; omega
      have HQ1 := hide hq1
      have HQ2 := hide (by rw [← hq]; exact Nat.lt_of_le_of_lt (Nat.div_le_self _ _) hu : q < 18446744073709551616)
      clear hq hq1
      go_wp2_with fail
      go_roundw
      case rel => exact ⟨j + 1, by omega, by rw [unhide HQ1, IntKind.wrap_u64, Int.emod_eq_of_lt (by omega) (by have := unhide HQ2; omega)]; rfl, by simp; omega, HB2, HK2⟩
      case measure => simp [intOf]; omega
    · have hge : ¬ (0 : Int) ≤ 19 - (j : Int) := by omega
      obtain rfl : j = 20 := by omega
      have hR : Rd wr (.slice (some ⟨w.heap.size, 0, none⟩) 20 20) (dgs 20 u) := rd_row (dgs 20 u) (unhide HB) (by simp) (dgs_byte 20 u) 20 (dgs_len 20 u) (by omega)
      have hu5 : Tryz.prog.underlying 5 = some (.int .u8) := by kernel_rfl
      have hu9 : Tryz.prog.underlying 9 = some .string := by kernel_rfl
      have hc := conv_any _ _ _ hR hu5 hu9
      have hz : ¬ 9223372036854775807 < 4 + (strOf (dgs 20 u)).size := by
        have : (strOf (dgs 20 u)).size = 20 := by have := strB_size (dgs 20 u); rwa [dgs_len] at this
        omega
      clear hR
      go_wp2
      go_ret
      exact ⟨by rw [unhide HE]; rfl, unhide HK⟩
end Go.Proofs.YtckkalmhekfnhaaGreatDoor
namespace Go.Proofs.YtckkalmhekfnhaaGreatDoor
open Go.RowKit Go.BigFrame
set_option linter.unusedVariables false
set_option linter.unusedSimpArgs false

theorem pre_is (l : List Nat) : (strB ([115, 101, 103, 45] ++ l)).data.toList.take 4 = [115, 101, 103, 45] := by simp [strB]
theorem pre_cut (l : List Nat) : (strB ([115, 101, 103, 45] ++ l)).extract 4 (strB ([115, 101, 103, 45] ++ l)).size = strB l := by
  apply ByteArray.ext
  rw [ByteArray.data_extract, strB_size]
  simp [strB]
  rw [List.take_of_length_le (by simp)]

set_option maxRecDepth 100000 in
set_option maxHeartbeats 1000000 in
theorem hasSeg_any (s : ByteArray) (w : World) (hs : s.size ≤ 140737488355328) :
    Calls Tryz.prog 92 #[.string s, .string ⟨#[115, 101, 103, 45]⟩] w fun e w' => e = .returned (.bool (decide (4 ≤ s.size ∧ s.data.toList.take 4 = [115, 101, 103, 45]))) ∧ w' = w := by
  by_cases h4 : 4 ≤ s.size
  · have h1 : (4 : Int) ≤ s.size := by omega
    have HE := hide (by
      rw [ba_toListS, ext_take]
      by_cases h : s.data.toList.take 4 = [115, 101, 103, 45]
      · rw [decide_eq_true ⟨h4, h⟩, h]; decide
      · rw [decide_eq_false (fun x => h x.2)]; exact beq_eq_false_iff_ne.2 h : ((s.extract 0 4).toList == [115, 101, 103, 45]) = decide (4 ≤ s.size ∧ s.data.toList.take 4 = [115, 101, 103, 45]))
    go_enter Tryz.func92, Tryz.ntmps92
    go_wp2
    go_ret
    exact ⟨by rw [← unhide HE]; rfl, rfl⟩
  · have h1 : ¬ (4 : Int) ≤ s.size := by omega
    rw [decide_eq_false (fun x => h4 x.1)]
    go_enter Tryz.func92, Tryz.ntmps92
    go_wp2
    go_ret
    exact ⟨rfl, rfl⟩

set_option maxRecDepth 100000 in
set_option maxHeartbeats 1000000 in
theorem itrim_any (s : ByteArray) (w : World) (hs : s.size ≤ 140737488355328) :
    Calls Tryz.prog 57 #[.string s, .string ⟨#[115, 101, 103, 45]⟩] w fun e w' => ∃ t, e = .returned (.string t) ∧ t.size ≤ s.size ∧ (∀ l, s = strB ([115, 101, 103, 45] ++ l) → t = strB l) ∧ w' = w := by
  have HS := hide (hasSeg_any s w hs)
  by_cases hc : 4 ≤ s.size ∧ s.data.toList.take 4 = [115, 101, 103, 45]
  · rw [decide_eq_true hc] at HS
    have h1 : (4 : Int) ≤ s.size := by have := hc.1; omega
    clear hc
    go_enter Tryz.func57, Tryz.ntmps57
    go_wp2_with fail
    refine Calls.mono (unhide HS) ?_
    rintro e w1 ⟨rfl, rfl⟩
    go_wp2
    go_ret
    exact ⟨_, rfl, by simp, fun l hl => by subst hl; exact pre_cut l, rfl⟩
  · rw [decide_eq_false hc] at HS
    have HC := hide hc
    clear hc
    go_enter Tryz.func57, Tryz.ntmps57
    go_wp2_with fail
    refine Calls.mono (unhide HS) ?_
    rintro e w1 ⟨rfl, rfl⟩
    go_wp2
    go_ret
    exact ⟨_, rfl, Nat.le_refl _, fun l hl => absurd ⟨by rw [hl, strB_size]; simp, by rw [hl]; exact pre_is l⟩ (unhide HC), rfl⟩

set_option maxRecDepth 100000 in
set_option maxHeartbeats 1000000 in
theorem trim_any (s : ByteArray) (w : World) (hs : s.size ≤ 140737488355328) :
    Calls Tryz.prog 32 #[.string s, .string ⟨#[115, 101, 103, 45]⟩] w fun e w' => ∃ t, e = .returned (.string t) ∧ t.size ≤ s.size ∧ (∀ l, s = strB ([115, 101, 103, 45] ++ l) → t = strB l) ∧ w' = w := by
  go_enter Tryz.func32, Tryz.ntmps32
  go_wp2_with fail
  refine Calls.mono (itrim_any s _ hs) ?_
  rintro e w1 ⟨t, rfl, h1, h2, rfl⟩
  have H1 := hide h1
  have H2 := hide h2
  clear h1 h2
  go_wp2
  go_ret
  exact ⟨t, rfl, unhide H1, unhide H2, rfl⟩

/-- ParseUint of any string. -/
theorem parse2_any (s : ByteArray) (w : World) (hs : s.size ≤ 140737488355328) (hv : VarsS w) :
    Calls Tryz.prog 31 #[.string s, .int .i64 10, .int .i64 64] w fun e w' => ∃ (u : Nat) (er : Value), e = .returned (.tuple #[.int .u64 u, er]) ∧ u < 18446744073709551616 ∧ (er = .nilIface ∨ ∃ t N, er = .iface t (.pointer (some ⟨N, 0, none⟩))) ∧ Kept [] w w' := by
  obtain ⟨_, ⟨t1, p1, h1⟩, t2, p2, h2⟩ := hv
  cases h : Lib.parseUintB 64 s.data.toList with
  | ok u =>
    refine (Tryz.strconv_ParseUint_10_at64_ok s (by omega) u h w).mono fun e w' hh => ⟨u, .nilIface, hh.1, by have := Lib.parseUintB_le h; omega, Or.inl rfl, ?_⟩
    rcases hh.2 with rfl | rfl
    · exact Kept.refl _ _
    · exact sbw_kept _ _ _
  | «syntax» =>
    refine (Tryz.strconv_ParseUint_10_at64_syntax_var s (by omega) h t1 p1 w h1).mono fun e w' hh => ?_
    obtain ⟨N, h3, _, _, h4⟩ := hh
    exact ⟨0, _, h3, by omega, Or.inr ⟨_, _, rfl⟩, Kept.ofBelow h4 (Nat.le_refl _)⟩
  | range =>
    refine (Tryz.strconv_ParseUint_10_at64_range_var s (by omega) h t2 p2 w h2).mono fun e w' hh => ?_
    obtain ⟨N, h3, _, _, h4⟩ := hh
    exact ⟨18446744073709551615, _, h3, by omega, Or.inr ⟨_, _, rfl⟩, Kept.ofBelow h4 (Nat.le_refl _)⟩

theorem str_ne {s t : ByteArray} (h : s ≠ t) : (s.toList == t.toList) = false := by
  rw [ba_toListS, ba_toListS]
  refine beq_eq_false_iff_ne.2 fun e => h ?_
  apply ByteArray.ext
  exact Array.toList_inj.1 e

set_option maxRecDepth 100000 in
set_option maxHeartbeats 1000000 in
theorem number_yes (u : Nat) (w : World) (hu : u < 18446744073709551616) (hv : VarsS w) :
    Calls Tryz.prog 12 #[.string (strB (nmL u))] w fun e w' => e = .returned (.tuple #[.int .u64 u, .int .i64 0]) ∧ Kept [] w w' := by
  have HV := hide hv
  have HSZ := hide (by rw [strB_size, nmL_len]; omega : (strB (nmL u)).size ≤ 140737488355328)
  have HT := hide (fun t (h : ∀ l, strB (nmL u) = strB ([115, 101, 103, 45] ++ l) → t = strB l) => h (dgs 20 u) rfl : ∀ t : ByteArray, (∀ l, strB (nmL u) = strB ([115, 101, 103, 45] ++ l) → t = strB l) → t = strB (dgs 20 u))
  have HP := hide (fun W => parse_any (dgs 20 u) W (by rw [dgs_len]; omega) (by rw [dgs_len]; omega) (dgs_dig 20 u) (by rw [dval_dgs, Nat.mod_eq_of_lt (by omega)]; exact hu))
  simp only [dval_dgs, Nat.mod_eq_of_lt (show u < 10 ^ 20 by omega)] at HP
  have HN := hide (fun W (h : VarsS W) => name_any u W hu h)
  obtain ⟨S, hS⟩ : ∃ S, strB (nmL u) = S := ⟨_, rfl⟩
  rw [hS] at HSZ HT HN ⊢
  have heq : (S.toList == S.toList) = true := by simp
  clear hS hv
  go_enter Tryz.func12, Tryz.ntmps12
  go_wp2_with fail
  refine Calls.mono (trim_any S _ (unhide HSZ)) ?_
  rintro e w1 ⟨t, rfl, _, h2, rfl⟩
  obtain rfl := unhide HT t h2
  clear h2
  go_wp2_with fail
  refine Calls.mono (unhide HP _) ?_
  rintro e w2 ⟨rfl, k2⟩
  have HK2 := hide k2
  clear k2
  go_wp2_with fail
  refine Calls.mono (unhide HN _ ((unhide HV).old (unhide HK2))) ?_
  rintro e w3 ⟨rfl, k3⟩
  have HK3 := hide ((unhide HK2).trans k3 (by simp))
  clear k3
  go_wp2
  go_ret2
  exact ⟨rfl, unhide HK3⟩

set_option maxRecDepth 100000 in
set_option maxHeartbeats 1000000 in
theorem number_no (s : ByteArray) (w : World) (hs : s.size ≤ 140737488355328) (h : ∀ u, u < 18446744073709551616 → s ≠ strB (nmL u)) (hv : VarsS w) :
    Calls Tryz.prog 12 #[.string s] w fun e w' => e = .returned (.tuple #[.int .u64 0, .int .i64 3]) ∧ Kept [] w w' := by
  have HV := hide hv
  have HH := hide h
  clear h hv
  go_enter Tryz.func12, Tryz.ntmps12
  go_wp2_with fail
  refine Calls.mono (trim_any s _ hs) ?_
  rintro e w1 ⟨t, rfl, h1, _, rfl⟩
  have H1 := hide h1
  clear h1
  go_wp2_with fail
  refine Calls.mono (parse2_any t _ (by have := unhide H1; omega) (unhide HV)) ?_
  rintro e w2 ⟨u, er, rfl, hu, her, k2⟩
  have HK2 := hide k2
  clear k2
  rcases her with rfl | ⟨t9, N9, rfl⟩
  · go_wp2_with fail
    refine Calls.mono (name_any u _ hu ((unhide HV).old (unhide HK2))) ?_
    rintro e w3 ⟨rfl, k3⟩
    have HK3 := hide ((unhide HK2).trans k3 (by simp))
    clear k3
    have hne := str_ne (fun e => unhide HH u hu e.symm)
    generalize strB (nmL u) = S at hne ⊢
    go_wp2
    go_ret2
    exact ⟨rfl, unhide HK3⟩
  · go_wp2
    go_ret2
    exact ⟨rfl, unhide HK2⟩
end Go.Proofs.YtckkalmhekfnhaaGreatDoor
namespace Go.Proofs.YtckkalmhekfnhaaGreatDoor
open Go.RowKit Go.BigFrame
set_option linter.unusedVariables false
set_option linter.unusedSimpArgs false

/-- One digit more, as DocNumber adds them up. -/
def stp (v c : Nat) : Nat := (10 * v + c + 18446744073709551568) % 18446744073709551616
theorem stp_lt (v c : Nat) : stp v c < 18446744073709551616 := by unfold stp; exact Nat.mod_lt _ (Nat.zero_lt_succ _)
theorem stp_dig {v c : Nat} (h : 48 ≤ c) (hl : v * 10 + (c - 48) < 18446744073709551616) : stp v c = v * 10 + (c - 48) := by unfold stp; omega
theorem stp_int (v c : Nat) (hc : c < 256) : IntKind.u64.wrap (IntKind.u64.wrap (IntKind.u64.wrap (10 * (v : Int)) + IntKind.u64.wrap (c : Int)) - 48) = ((stp v c : Nat) : Int) := by
  rw [IntKind.wrap_u64, IntKind.wrap_u64, IntKind.wrap_u64, IntKind.wrap_u64]
  unfold stp
  omega
def dv (a : Nat) (m : List Nat) : Nat := m.foldl stp a
theorem dv_cons (a x : Nat) (r : List Nat) : dv a (x :: r) = dv (stp a x) r := by unfold dv; rw [List.foldl_cons]
theorem dv_snoc (a : Nat) (m : List Nat) (c : Nat) : dv a (m ++ [c]) = stp (dv a m) c := by unfold dv; rw [List.foldl_append, List.foldl_cons, List.foldl_nil]
theorem dv_lt (m : List Nat) : ∀ a, a < 18446744073709551616 → dv a m < 18446744073709551616 := by
  induction m with
  | nil => intro a h; exact h
  | cons x r ih => intro a h; rw [dv_cons]; exact ih _ (stp_lt _ _)
def fd (a : Nat) (m : List Nat) : Nat := m.foldl (fun a d => a * 10 + (d - 48)) a
theorem fd_cons (a x : Nat) (r : List Nat) : fd a (x :: r) = fd (a * 10 + (x - 48)) r := by unfold fd; rw [List.foldl_cons]
theorem fd_ge (m : List Nat) : ∀ a, a ≤ fd a m := by
  induction m with
  | nil => intro a; exact Nat.le_refl _
  | cons x r ih => intro a; rw [fd_cons]; exact Nat.le_trans (by omega) (ih _)
theorem dv_fold (m : List Nat) : ∀ a, (∀ x ∈ m, 48 ≤ x) → fd a m < 18446744073709551616 → dv a m = fd a m := by
  induction m with
  | nil => intro a _ _; unfold dv fd; rw [List.foldl_nil, List.foldl_nil]
  | cons x r ih =>
    intro a hx hl
    rw [fd_cons] at hl ⊢
    have h1 := fd_ge r (a * 10 + (x - 48))
    rw [dv_cons, stp_dig (hx x (by simp)) (Nat.lt_of_le_of_lt h1 hl)]
    exact ih _ (fun y hy => hx y (by simp [hy])) hl
theorem dv_name {u : Nat} (hu : u < 18446744073709551616) : dv 0 ((nmL u).drop 4) = u := by
  have h0 : (nmL u).drop 4 = dgs 20 u := by unfold nmL; simp
  have h1 : fd 0 (dgs 20 u) = u := by
    have h2 := dval_dgs 20 u
    rw [Nat.mod_eq_of_lt (Nat.lt_of_lt_of_le hu (by decide))] at h2
    exact h2
  rw [h0, dv_fold _ 0 (fun x hx => (dgs_dig 20 u x hx).1) (by rw [h1]; exact hu)]
  exact h1

set_option maxRecDepth 100000 in
set_option maxHeartbeats 2000000 in
theorem docNumber_any (l : List Nat) (w : World) (hb : ∀ x ∈ l, x < 256) (hl : l.length ≤ 140737488355328) (U E : Nat)
    (hy : l = nmL (dv 0 (l.drop 4)) → U = dv 0 (l.drop 4) ∧ E = 0) (hn : l ≠ nmL (dv 0 (l.drop 4)) → U = 0 ∧ E = 3) :
    Calls Tryz.prog 13 #[.string (strB l)] w fun e w' => e = .returned (.tuple #[.int .u64 U, .int .i64 E]) ∧ Kept [] w w' := by
  have HY := hide hy
  have HN := hide hn
  have HB := hide hb
  have hsz : ((strB l).size : Int) = l.length := by rw [strB_size]
  have HAT := hide (fun i (hi : i < l.length) (h : i < (strB l).size) => by
    have h2 := hb _ (List.getElem_mem hi)
    have h3 : (strB l)[i] = UInt8.ofNat l[i] := by
      show (strB l).data[i] = _
      simp [strB]
    rw [h3]
    simp [Nat.mod_eq_of_lt h2] : ∀ i (hi : i < l.length) (h : i < (strB l).size), ((strB l)[i]'h).toNat = l[i])
  clear hy hn hb
  go_enter Tryz.func13, Tryz.ntmps13
  go_wp2_with fail
  go_loopw [4, 5] (fun t4 t5 wr => ∃ (k v : Nat), t5 = .int .i64 ((4 + k : Nat) : Int) ∧ t4 = .int .u64 (v : Int) ∧ Hid (k ≤ l.length - 4) ∧ Hid (v = dv 0 ((l.drop 4).take k)) ∧ wr = w) (fun _ t _ => l.length - (intOf t).toNat)
  case atStart => exact ⟨0, 0, rfl, rfl, hide (Nat.zero_le _), hide rfl, rfl⟩
  case round =>
    obtain ⟨k, v, rfl, rfl, HK, HV, hw⟩ := hrel
    subst hw
    by_cases hlt : 4 + k < l.length
    · have h1 : (4 + (k : Int)) < (l.length : Int) := by omega
      go_wp2_with fail
      have hci : l[4 + k] < 256 := unhide HB _ (List.getElem_mem hlt)
      refine ⟨⟨k + 1, stp v l[4 + k], ?_, ?_, hide (by omega), hide ?_, trivial⟩, ?_⟩
      · simp; omega
      · rw [unhide HAT (4 + k) hlt]
        rw [stp_int v _ hci]
      · rw [unhide HV]
        have hk : k < (l.drop 4).length := by simp; omega
        rw [List.take_succ_eq_append_getElem hk, dv_snoc]
        simp
      · simp [intOf]; omega
    · have h1 : ¬ (4 + (k : Int)) < (l.length : Int) := by omega
      have hvd : v = dv 0 (l.drop 4) := by
        have h9 := unhide HV
        rw [List.take_of_length_le (by simp; omega)] at h9
        exact h9
      have hv64 : v < 18446744073709551616 := by rw [hvd]; exact dv_lt _ 0 (by omega)
      have HVD := hide hvd
      clear hvd
      go_wp2_with fail
      refine Calls.mono (docName_any v _ hv64) ?_
      rintro e w3 ⟨rfl, k3⟩
      have HK3 := hide k3
      clear k3
      by_cases hq : l = nmL v
      · obtain ⟨rfl, rfl⟩ := unhide HY (by rw [← unhide HVD]; exact hq)
        have heq : ((strB (nmL v)).toList == (strB l).toList) = true := by rw [← hq]; simp
        clear hq
        generalize strB (nmL v) = S at heq ⊢
        go_wp2
        go_ret2
        exact ⟨by rw [← unhide HVD]; rfl, unhide HK3⟩
      · obtain ⟨rfl, rfl⟩ := unhide HN (by rw [← unhide HVD]; exact hq)
        have heq : ((strB (nmL v)).toList == (strB l).toList) = false := str_ne (fun e => hq (strB_inj (nmL_byte v) (unhide HB) e).symm)
        generalize strB (nmL v) = S at heq ⊢
        go_wp2
        go_ret2
        exact ⟨rfl, unhide HK3⟩
end Go.Proofs.YtckkalmhekfnhaaGreatDoor
namespace Go.Proofs.YtckkalmhekfnhaaGreatDoor
open Go.RowKit
set_option linter.unusedVariables false
set_option linter.unusedSimpArgs false

/-- A literal of an array, as a row that is known. -/
theorem f_build_as {P : Program} {ops : Array Oper} {rest : List Oper} {o : Oper} {a : Act} {w : World} {Q : Exit → Act → World → Prop} (hg : o.guard = none) (t : TypeId) (parts : Array (Nat × Operand)) (ho : o.op = .build t parts) (cs : Array Value)
    (hb : P.built t (parts.map fun (i, x) => (i, a.eval x)).toList = some cs) (h : wpList P ops Q rest (a.put o.dst (.agg cs)) w) : wpList P ops Q (o :: rest) a w :=
  wpList_build hg t parts ho (by rw [hb]; rfl) (by rw [hb]; exact h)
theorem Kept.setRow {L : List Nat} {a w : World} (h : Kept L a w) {g : Nat} (hg : g ∈ L ∨ a.heap.size ≤ g) (cs : Array Value) : Kept L a (w.setRow g cs) :=
  h.trans (M := [g]) ⟨rfl, rfl, rfl, by simp [World.setRow], fun k _ hn => setRow_other w g k _ (by simpa using hn)⟩ (by simpa using hg)
theorem f_results_cell_tmp {P : Program} {fn : Func} {p q : Tmp} {ty : TypeId} (h : fn.results = #[.cell p ty, .tmp q]) (tmps : Array Value) (w : World) (g : Nat) (t : TypeId) (cs : Array Value) (fr : Nat × Nat) (d : TypeDesc)
    (hp : tmps.getD p undef = .pointer (some ⟨g, 0, none⟩)) (hg : w.heap[g]? = some (.cells cs t fr))
    (hu : P.underlying ty = some d) (hd : (match d with | .struct _ | .array _ _ => true | _ => false) = true) (hi : (P.info? ty).map (·.size) = some cs.size) (v : Value) (hq : tmps.getD q undef = v) :
    (results fn tmps).run P w = .ok (.tuple #[.agg cs, v]) w := by
  have hp' : tmps[p]?.getD undef = .pointer (some ⟨g, 0, none⟩) := by simpa using hp
  have hq' : tmps[q]?.getD undef = v := by simpa using hq
  simp [results, h, hp', hq', asAddr, run_loadVar_row w g t ty cs fr d hg hu hd hi]
theorem put2_heap {w : World} {g : Nat} {a b : Value} {t : TypeId} (h : w.heap[g]? = some (.cells #[a, b] t (0, 0))) (x y : Value) : ((w.setCell ⟨g, 0, none⟩ x).setCell ⟨g, 1, none⟩ y).heap[g]? = some (.cells #[x, y] t (0, 0)) := by
  rw [heap_setCell_same _ g 1 _ t _ (heap_setCell_same w g 0 _ t _ h)]; rfl
theorem put2_kept {w0 w : World} (k : Kept [] w0 w) (g : Nat) (hg : w0.heap.size ≤ g) (x y : Value) : Kept [] w0 ((w.setCell ⟨g, 0, none⟩ x).setCell ⟨g, 1, none⟩ y) := (k.setCell (Or.inr hg) x).setCell (Or.inr hg) y
theorem put2_kept' (w : World) (g : Nat) (x y : Value) : Kept [g] w ((w.setCell ⟨g, 0, none⟩ x).setCell ⟨g, 1, none⟩ y) := ((Kept.refl [g] w).setCell (Or.inl (by simp)) x).setCell (Or.inl (by simp)) y
theorem Tryz.size_frame : (Tryz.prog.info? 83).map (·.size) = some 2 := by kernel_rfl

set_option maxRecDepth 100000 in
set_option maxHeartbeats 1000000 in
theorem ru32_any (b : Nat) (gv : Value) (p : List Nat) (i e : Nat) (w : World) (h : ReAt w b gv p i e) :
    Calls Tryz.prog 137 #[.pointer (some ⟨b, 0, none⟩)] w fun r w' => r = .returned (.int .u32 ((rNum p i e 4).1 % 4294967296 : Nat)) ∧ ReAt w' b gv p (rNum p i e 4).2.1 (rNum p i e 4).2.2 ∧ Kept [b] w w' := by
  have HR := hide h
  have hlt := ru_lt p i e 4
  obtain ⟨x, hx⟩ : ∃ x, (rNum p i e 4).1 = x := ⟨_, rfl⟩
  rw [hx] at hlt ⊢
  have Hx := hide hx
  clear h hx
  go_enter Tryz.func137, Tryz.ntmps137
  go_wp2_with (go_at_call 148; go_must (refine (rnum_any b gv p i e 4 _ (unhide HR) (by omega)).mono ?_; rintro r w1 ⟨rfl, h1, h2⟩; rw [unhide Hx]; have H1 := hide h1; have H2 := hide h2; clear h1 h2))
  go_ret
  exact ⟨by simp, unhide H1, unhide H2⟩

set_option maxRecDepth 100000 in
set_option maxHeartbeats 1000000 in
theorem ru64_any (b : Nat) (gv : Value) (p : List Nat) (i e : Nat) (w : World) (h : ReAt w b gv p i e) :
    Calls Tryz.prog 138 #[.pointer (some ⟨b, 0, none⟩)] w fun r w' => r = .returned (.int .u64 ((rNum p i e 8).1 : Nat)) ∧ ReAt w' b gv p (rNum p i e 8).2.1 (rNum p i e 8).2.2 ∧ Kept [b] w w' := by
  have HR := hide h
  have hlt := ru_lt p i e 8
  obtain ⟨x, hx⟩ : ∃ x, (rNum p i e 8).1 = x := ⟨_, rfl⟩
  rw [hx] at hlt ⊢
  have Hx := hide hx
  clear h hx
  go_enter Tryz.func138, Tryz.ntmps138
  go_wp2_with (go_at_call 148; go_must (refine (rnum_any b gv p i e 8 _ (unhide HR) (by omega)).mono ?_; rintro r w1 ⟨rfl, h1, h2⟩; rw [unhide Hx]; have H1 := hide h1; have H2 := hide h2; clear h1 h2))
  go_ret
  exact ⟨by simp, unhide H1, unhide H2⟩

theorem rNum_at {p : List Nat} {i n m : Nat} (hm : i + n ≤ m) (hl : m ≤ p.length) : rNum (p.take m) i 0 n = (beL ((p.drop i).take n), i + n, 0) := by
  have e : ((p.take m).drop i).take n = (p.drop i).take n := by rw [List.drop_take, List.take_take, Nat.min_eq_left (by omega)]
  unfold rNum
  rw [if_neg (by simp), if_neg (by rw [List.length_take]; omega), e]
theorem Rd.take0 {w : World} {ao : Option Addr} {cap n : Nat} {p : List Nat} (h : Rd w (.slice ao p.length cap) p) (hn : n ≤ p.length) : Rd w (.slice ao n cap) (p.take n) := by
  obtain ⟨ao', len', cap', he, _, h2, ⟨h3, h3'⟩, h4, h5, h6⟩ := h
  cases he
  refine ⟨_, _, _, rfl, by rw [List.length_take]; omega, by omega, ⟨by omega, by omega⟩, h4, fun x hx => h5 x (List.mem_of_mem_take hx), fun hp => ?_⟩
  obtain ⟨b, off, rfl, hc⟩ := h6 (by omega)
  refine ⟨b, off, rfl, fun i hi => ?_⟩
  rw [hc i (by omega), List.getD_eq_getElem?_getD, List.getD_eq_getElem?_getD, List.getElem?_take, if_pos hi]
theorem Rd.drop17 {w : World} {b off cap : Nat} {p : List Nat} (h : Rd w (.slice (some ⟨b, off, none⟩) p.length cap) p) (n : Nat) (hn : 17 + n ≤ p.length) : Rd w (.slice (some ⟨b, off + 17, none⟩) n (cap - 17)) ((p.drop 17).take n) := by
  obtain ⟨ao', len', cap', he, _, h2, ⟨h3, h3'⟩, h4, h5, h6⟩ := h
  cases he
  refine ⟨_, _, _, rfl, by rw [List.length_take, List.length_drop]; omega, by omega, ⟨by omega, by omega⟩, fun h => by simp at h, fun x hx => h5 x (List.mem_of_mem_drop (List.mem_of_mem_take hx)), fun hp => ?_⟩
  obtain ⟨b', off', e, hc⟩ := h6 (by omega)
  cases e
  refine ⟨b, off + 17, rfl, fun i hi => ?_⟩
  have := hc (17 + i) (by omega)
  rw [Nat.add_assoc, this, List.getD_eq_getElem?_getD, List.getD_eq_getElem?_getD, List.getElem?_take, if_pos hi, List.getElem?_drop]
/-- What first tells. -/
def fstPl (p : List Nat) : Nat := (firstF p).elim 0 (·.1)
def fstPay (p : List Nat) : List Nat := (firstF p).elim [] (·.2)
theorem Tryz.lt_of_beL {p : List Nat} (h : ∀ x ∈ p, x < 256) (i n : Nat) (hn : n ≤ 8) : beL ((p.drop i).take n) < 256 ^ n := by
  have := (f_wide_beL (r := (p.drop i).take n) (fun y hy => h y (List.mem_of_mem_drop (List.mem_of_mem_take hy))) (by rw [List.length_take]; omega)).2
  exact Nat.lt_of_lt_of_le this (Nat.pow_le_pow_right (by omega) (by rw [List.length_take]; omega))
theorem firstF_short {p : List Nat} (h : p.length < 18) : firstF p = none := by
  unfold firstF
  rw [if_neg]
  rintro ⟨_, h1, _, h2, _⟩
  omega

theorem getD_drop0 (p : List Nat) (h : ∀ x ∈ p, x < 256) (hp : 0 < p.length) : beL ((p.drop 0).take 1) = p.getD 0 0 := by
  cases p with
  | nil => simp at hp
  | cons a r =>
    have := h a (by simp)
    simp [beL]
    omega

set_option maxRecDepth 100000 in
set_option maxHeartbeats 1000000 in
theorem clone_any (v : Value) (p : List Nat) (w : World) (h : Rd w v p) (hp : 0 < p.length) :
    Calls Tryz.prog 139 #[v] w fun e w' => ∃ v', e = .returned v' ∧ Rd w' v' p ∧ (∀ x ∈ blk v', w.heap.size ≤ x) ∧ Kept [] w w' := by
  have H := hide h
  obtain ⟨a1, n1, c1, rfl, hn1, hc1, ⟨hc2, hc3⟩, hc4, hc5, hc6⟩ := id h
  subst hn1
  obtain ⟨b, off, rfl, _⟩ := hc6 hp
  clear h hc6 hc5 hc4
  have HO := hide (World.ownsRow_made (base := w.heap.size) (e := 5) (size := 1) w #[] 0 (Nat.le_refl _) (by unfold maxLen; omega) (by simp))
  go_enter Tryz.func139, Tryz.ntmps139
  have hq : ∀ W : World, (binOp .eql 36 (.slice (some ⟨b, off, none⟩) p.length c1) (.slice none 0 0)).run Tryz.prog W = .ok (.bool false) W := by
    intro W
    simp only [binOp]
    simp [run_equal_slice_nil W 36 5 (some ⟨b, off, none⟩) p.length c1 Tryz.underlying36]
  go_wp2_with (at_builtin; refine wpList_appendAll rfl (.tmp 5) (.tmp 6) rfl rfl _ w.heap.size (.slice (some ⟨w.heap.size, 0, none⟩) 0 0) [] p (some ⟨b, off, none⟩) p.length c1 (unhide HO) ((unhide H).old ((Kept.refl [] w).alloc _) (by simp)) (by simp; omega) (by simp) rfl rfl ?_; intro ao1 cap1 w1 HO1 HG1 HA1; simp only [List.nil_append, List.length_nil, Nat.zero_add] at HO1 HA1; have HK1 := hide (((Kept.refl [] w).alloc _).grown (unhide HG1) (by intro k hk; right; simp [Value.ownBlock] at hk; omega)); clear HG1)
  go_ret
  refine ⟨_, rfl, rd_owns (unhide HO1) (unhide H).byte hc3, ?_, unhide HK1⟩
  intro x hx
  cases ao1 with
  | none => simp [blk] at hx
  | some a => simp [blk] at hx; subst hx; exact ((unhide HO1).lt a.block rfl).1

/-- What first's payload is: new memory. -/
def NewP (w w' : World) (v : Value) (bs : List Nat) : Prop := Rd w' v bs ∧ ∀ x ∈ blk v, w.heap.size ≤ x
theorem NewP.nil (w w' : World) : NewP w w' (.slice none 0 0) [] := ⟨Rd.nil _, by simp [blk]⟩

set_option maxRecDepth 100000 in
set_option maxHeartbeats 2000000 in
theorem first_any (v : Value) (p : List Nat) (w : World) (h : Rd w v p) :
    Calls Tryz.prog 112 #[v] w fun e w' => ∃ v', e = .returned (.tuple #[.agg #[.int .u64 (fstPl p), v'], .bool (firstF p).isSome]) ∧ NewP w w' v' (fstPay p) ∧ Kept [] w w' := by
  have H := hide h
  obtain ⟨a1, n1, c1, rfl, hn1, hc1, ⟨hc2, hc3⟩, _, _, hcell⟩ := id h
  subst hn1
  clear h
  by_cases h18 : p.length < 18
  · have h18' : (p.length : Int) < 18 := by omega
    have HF := hide (firstF_short h18)
    have e1 : fstPl p = 0 := by simp [fstPl, unhide HF]
    have e2 : fstPay p = [] := by simp [fstPay, unhide HF]
    rw [e1, e2, unhide HF]
    clear e1 e2 hcell
    go_enter Tryz.func112, Tryz.ntmps112
    go_wp2
    refine bodyPost_ret (v := .tuple #[.agg #[.int .u64 0, .slice none 0 0], .bool false]) ?_ rfl ⟨_, rfl, NewP.nil _ _, (Kept.refl [] w).alloc _⟩
    exact f_results_cell_tmp rfl _ _ w.heap.size _ #[.int .u64 0, .slice none 0 0] (0, 0) _ rfl (heap_alloc_new _ _) Tryz.underlying83 rfl Tryz.size_frame _ rfl
  have h18' : ¬ (p.length : Int) < 18 := by omega
  obtain ⟨bb, off, rfl, hcl⟩ := hcell (by omega)
  have HCL := hide hcl
  clear hcell hcl
  have hb := (unhide H).byte
  have t17 := (unhide H).take0 (n := 17) (by omega)
  have HT := hide t17
  have Hn1 := hide (rNum_at (p := p) (i := 0) (n := 1) (m := 17) (by omega) (by omega))
  have Hn4 := hide (rNum_at (p := p) (i := 1) (n := 4) (m := 17) (by omega) (by omega))
  have Hn8 := hide (rNum_at (p := p) (i := 5) (n := 8) (m := 17) (by omega) (by omega))
  have Hns := hide (rNum_at (p := p) (i := 13) (n := 4) (m := 17) (by omega) (by omega))
  have ln := Tryz.lt_of_beL hb 1 4 (by omega)
  have lpl := Tryz.lt_of_beL hb 5 8 (by omega)
  have ls := Tryz.lt_of_beL hb 13 4 (by omega)
  rw [getD_drop0 p hb (by omega)] at Hn1
  have HFF := hide (rfl : firstF p = firstF p)
  unfold Hid at HFF
  conv at HFF => rhs; unfold firstF
  have lb : p.getD 0 0 < 256 := hb _ (by rw [List.getD_eq_getElem?_getD, List.getElem?_eq_getElem (show 0 < p.length by omega)]; exact List.getElem_mem _)
  obtain ⟨b0, hb0⟩ : ∃ x, p.getD 0 0 = x := ⟨_, rfl⟩
  obtain ⟨n, hn⟩ : ∃ x, beL ((p.drop 1).take 4) = x := ⟨_, rfl⟩
  obtain ⟨pl, hpl⟩ : ∃ x, beL ((p.drop 5).take 8) = x := ⟨_, rfl⟩
  obtain ⟨s, hs⟩ : ∃ x, beL ((p.drop 13).take 4) = x := ⟨_, rfl⟩
  rw [hn] at Hn4 HFF ln
  rw [hpl] at Hn8 HFF lpl
  rw [hs] at Hns HFF ls
  rw [hb0] at Hn1 HFF lb
  have HF := hide HFF
  clear HFF t17 hb0 hn hpl hs hb
  obtain ⟨X, hX⟩ : ∃ x, fstPl p = x := ⟨_, rfl⟩
  obtain ⟨Y, hY⟩ : ∃ x, fstPay p = x := ⟨_, rfl⟩
  obtain ⟨Z, hZ⟩ : ∃ x, (firstF p).isSome = x := ⟨_, rfl⟩
  rw [hX, hY, hZ]
  have HX := hide hX
  have HY := hide hY
  have HZ := hide hZ
  clear hX hY hZ
  go_enter Tryz.func112, Tryz.ntmps112
  have HZ0 := hide (heap_alloc_new w (.cells #[.int .u64 0, .slice none 0 0] 83))
  have HK0 := hide ((Kept.refl [] w).alloc (.cells #[.int .u64 0, .slice none 0 0] 83))
  go_wp2_with fail
  obtain ⟨W, hW⟩ : ∃ W, w.alloc (.cells #[.int .u64 0, .slice none 0 0] 83) = W := ⟨_, rfl⟩
  rw [hW] at HK0 HZ0 ⊢
  clear hW
  refine Calls.mono (newReader_any _ (p.take 17) W ((unhide HT).old (unhide HK0) (by simp))) ?_
  rintro e w1 ⟨b, gv, rfl, hb1, r1, hg1, k1⟩
  have HR1 := hide r1
  have HK1 := hide k1
  have Hb := hide hb1
  clear r1 k1 hg1 hb1
  go_wp2_with fail
  refine Calls.mono (ru8_any b gv (p.take 17) 0 0 w1 (unhide HR1)) ?_
  rintro e w2 ⟨rfl, r2, k2⟩
  rw [unhide Hn1] at r2 ⊢
  rw [show (b0, 0 + 1, 0).1 % 256 = b0 from Nat.mod_eq_of_lt lb]
  have HR2 := hide r2
  have HK2 := hide (((unhide HK1).trans k2 (by have := unhide Hb; simp; omega)))
  clear r2 k2 HR1 HK1
  go_wp2_with fail
  refine Calls.mono (ru32_any b gv (p.take 17) 1 0 w2 (unhide HR2)) ?_
  rintro e w3 ⟨rfl, r3, k3⟩
  rw [unhide Hn4] at r3 ⊢
  rw [show (n, 1 + 4, 0).1 % 4294967296 = n from Nat.mod_eq_of_lt ln]
  have HR3 := hide r3
  have HK3 := hide (((unhide HK2).trans k3 (by have := unhide Hb; simp; omega)))
  clear r3 k3 HR2 HK2
  go_wp2_with fail
  refine Calls.mono (ru64_any b gv (p.take 17) 5 0 w3 (unhide HR3)) ?_
  rintro e w4 ⟨rfl, r4, k4⟩
  rw [unhide Hn8] at r4 ⊢
  have HR4 := hide r4
  have HK4 := hide (((unhide HK3).trans k4 (by have := unhide Hb; simp; omega)))
  clear r4 k4 HR3 HK3
  go_wp2_with fail
  refine Calls.mono (ru32_any b gv (p.take 17) 13 0 w4 (unhide HR4)) ?_
  rintro e w5 ⟨rfl, r5, k5⟩
  rw [unhide Hns]
  rw [show (s, 13 + 4, 0).1 % 4294967296 = s from Nat.mod_eq_of_lt ls]
  have HK5 := hide (((unhide HK4).trans k5 (by have := unhide Hb; simp; omega)))
  clear r5 k5 HR4 HK4
  simp only
  have HZ5 := hide ((unhide HK5).heap (unhide HZ0) (by simp))
  have HKW := hide ((unhide HK0).trans (unhide HK5) (by simp))
  have HNO := hide (fun (h : firstF p = none) => by
    rw [← unhide HX, ← unhide HY, ← unhide HZ]
    exact ⟨by simp [fstPl, h], by simp [fstPay, h], by rw [h]; rfl⟩ : firstF p = none → X = 0 ∧ Y = [] ∧ Z = false)
  have HQ0 := hide (put2_heap (unhide HZ5) (.int .u64 0) (.slice none 0 0))
  have HKQ := hide (put2_kept (unhide HKW) w.heap.size (Nat.le_refl _) (.int .u64 0) (.slice none 0 0))
  have d0 : w5.cell? ⟨w.heap.size, 0, none⟩ = some (.int .u64 0) := by rw [cell_of_row _ _ _ _ _ _ (unhide HZ5)]; rfl
  have d1 : w5.cell? ⟨w.heap.size, 1, none⟩ = some (.slice none 0 0) := by rw [cell_of_row _ _ _ _ _ _ (unhide HZ5)]; rfl
  have f0 : w5.frozen? ⟨w.heap.size, 0, none⟩ = false := frozen_of_row _ _ _ _ _ (unhide HZ5)
  have f1 : w5.frozen? ⟨w.heap.size, 1, none⟩ = false := frozen_of_row _ _ _ _ _ (unhide HZ5)
  by_cases hA0 : b0 = 245
  · subst hA0
    by_cases hA1 : n = 0
    · have HFn := hide (unhide HNO (by rw [unhide HF, if_neg]; rintro ⟨_, h, _⟩; omega))
      subst hA1
      go_wp2
      refine bodyPost_ret (v := .tuple #[.agg #[.int .u64 0, .slice none 0 0], .bool false]) ?_ rfl ⟨_, by rw [(unhide HFn).1, (unhide HFn).2.2]; rfl, by rw [(unhide HFn).2.1]; exact NewP.nil _ _, unhide HKQ⟩
      exact f_results_cell_tmp rfl _ _ w.heap.size _ #[.int .u64 0, .slice none 0 0] (0, 0) _ rfl (unhide HQ0) Tryz.underlying83 rfl Tryz.size_frame _ rfl
    have hA1' : ((n : Int) == 0) = false := by rw [beq_eq_false_iff_ne]; omega
    by_cases hA2 : 65535 < n
    · have HFn := hide (unhide HNO (by rw [unhide HF, if_neg]; rintro ⟨_, _, h, _⟩; omega))
      have hA2' : (65535 : Int) < n := by omega
      go_wp2
      refine bodyPost_ret (v := .tuple #[.agg #[.int .u64 0, .slice none 0 0], .bool false]) ?_ rfl ⟨_, by rw [(unhide HFn).1, (unhide HFn).2.2]; rfl, by rw [(unhide HFn).2.1]; exact NewP.nil _ _, unhide HKQ⟩
      exact f_results_cell_tmp rfl _ _ w.heap.size _ #[.int .u64 0, .slice none 0 0] (0, 0) _ rfl (unhide HQ0) Tryz.underlying83 rfl Tryz.size_frame _ rfl
    have hA2' : ¬ (65535 : Int) < n := by omega
    by_cases hB : 17 + n < p.length
    · have hB' : (17 : Int) + n < p.length := by omega
      have hB2 : ¬ (p.length : Int) ≤ 17 + n := by omega
      have cE := (unhide HKW).cell (unhide HCL (17 + n) hB) (by simp)
      obtain ⟨pe, hpe⟩ : ∃ x, p.getD (17 + n) 0 = x := ⟨_, rfl⟩
      rw [hpe] at cE HF
      clear hpe
      by_cases hE : pe = 95
      · subst hE
        have HPD := hide (((unhide H).drop17 n (by omega)).old (unhide HKW) (by simp))
        go_wp2_with fail
        refine Calls.mono (sumOf_any pl _ ((p.drop 17).take n) w5 (unhide HPD) lpl (by rw [List.length_take]; omega)) ?_
        rintro e w6 ⟨rfl, k6⟩
        have HZ6 := hide (k6.heap (unhide HZ5) (by simp))
        have HKW6 := hide ((unhide HKW).trans k6 (by simp))
        have HPD6 := hide ((unhide HPD).old k6 (by simp))
        have HQ6 := hide (put2_heap (unhide HZ6) (.int .u64 0) (.slice none 0 0))
        have HKQ6 := hide (put2_kept (unhide HKW6) w.heap.size (Nat.le_refl _) (.int .u64 0) (.slice none 0 0))
        clear k6 d0 d1 f0 f1
        have d0 : w6.cell? ⟨w.heap.size, 0, none⟩ = some (.int .u64 0) := by rw [cell_of_row _ _ _ _ _ _ (unhide HZ6)]; rfl
        have d1 : w6.cell? ⟨w.heap.size, 1, none⟩ = some (.slice none 0 0) := by rw [cell_of_row _ _ _ _ _ _ (unhide HZ6)]; rfl
        have f0 : w6.frozen? ⟨w.heap.size, 0, none⟩ = false := frozen_of_row _ _ _ _ _ (unhide HZ6)
        have f1 : w6.frozen? ⟨w.heap.size, 1, none⟩ = false := frozen_of_row _ _ _ _ _ (unhide HZ6)
        obtain ⟨q, hq⟩ : ∃ q, (p.drop 17).take n = q := ⟨_, rfl⟩
        have hql : q.length = n := by rw [← hq, List.length_take, List.length_drop]; omega
        rw [hq] at HPD6 HF ⊢
        clear hq
        obtain ⟨t, ht⟩ : ∃ t, sumF pl q = t := ⟨_, rfl⟩
        rw [ht] at HF ⊢
        clear ht
        by_cases hS : t = s
        · subst hS
          have HFs := hide (by rw [unhide HF, if_pos (by simp; omega)] : firstF p = some (pl, q))
          have HV := hide (by
            rw [← unhide HX, ← unhide HY, ← unhide HZ]
            exact ⟨by simp [fstPl, unhide HFs], by simp [fstPay, unhide HFs], by rw [unhide HFs]; rfl⟩ : X = pl ∧ Y = q ∧ Z = true)
          go_wp2_with fail
          refine Calls.mono (clone_any _ q w6 (unhide HPD6) (by omega)) ?_
          rintro e w7 ⟨v7, rfl, r7, b7, k7⟩
          obtain ⟨a7, n7, c7, hv7, _⟩ := id r7
          have HZ7 := hide (k7.heap (unhide HZ6) (by simp))
          have HQ7 := hide (put2_heap (unhide HZ7) (.int .u64 pl) v7)
          have HK7 := hide ((unhide HKW6).trans k7 (by simp))
          have hlt6 : w.heap.size < w6.heap.size := lt_of_block (unhide HZ6)
          have HN7 := hide (⟨r7.kept (put2_kept' w7 w.heap.size (.int .u64 pl) v7) (by intro x hx; have := b7 x hx; simp; omega), fun x hx => by have := b7 x hx; omega⟩ : NewP w _ v7 q)
          have HKQ7 := hide (put2_kept (unhide HK7) w.heap.size (Nat.le_refl _) (.int .u64 pl) v7)
          clear k7 d0 d1 f0 f1 r7 b7
          subst hv7
          have d0 : w7.cell? ⟨w.heap.size, 0, none⟩ = some (.int .u64 0) := by rw [cell_of_row _ _ _ _ _ _ (unhide HZ7)]; rfl
          have d1 : w7.cell? ⟨w.heap.size, 1, none⟩ = some (.slice none 0 0) := by rw [cell_of_row _ _ _ _ _ _ (unhide HZ7)]; rfl
          have f0 : w7.frozen? ⟨w.heap.size, 0, none⟩ = false := frozen_of_row _ _ _ _ _ (unhide HZ7)
          have f1 : w7.frozen? ⟨w.heap.size, 1, none⟩ = false := frozen_of_row _ _ _ _ _ (unhide HZ7)
          go_wp2
          refine bodyPost_ret (v := .tuple #[.agg #[.int .u64 pl, .slice a7 n7 c7], .bool true]) ?_ rfl ⟨.slice a7 n7 c7, by rw [(unhide HV).1, (unhide HV).2.2], by rw [(unhide HV).2.1]; exact unhide HN7, unhide HKQ7⟩
          exact f_results_cell_tmp rfl _ _ w.heap.size _ #[.int .u64 pl, .slice a7 n7 c7] (0, 0) _ rfl (unhide HQ7) Tryz.underlying83 rfl Tryz.size_frame _ rfl
        · have hS' : ((t : Int) != s) = true := by rw [bne_iff_ne]; omega
          have HFn := hide (unhide HNO (by rw [unhide HF, if_neg]; rintro ⟨_, _, _, _, _, h⟩; exact hS h))
          go_wp2
          refine bodyPost_ret (v := .tuple #[.agg #[.int .u64 0, .slice none 0 0], .bool false]) ?_ rfl ⟨_, by rw [(unhide HFn).1, (unhide HFn).2.2]; rfl, by rw [(unhide HFn).2.1]; exact NewP.nil _ _, unhide HKQ6⟩
          exact f_results_cell_tmp rfl _ _ w.heap.size _ #[.int .u64 0, .slice none 0 0] (0, 0) _ rfl (unhide HQ6) Tryz.underlying83 rfl Tryz.size_frame _ rfl
      · have hE' : ((pe : Int) != 95) = true := by rw [bne_iff_ne]; omega
        have HFn := hide (unhide HNO (by rw [unhide HF, if_neg]; rintro ⟨_, _, _, _, h, _⟩; exact hE h))
        go_wp2
        refine bodyPost_ret (v := .tuple #[.agg #[.int .u64 0, .slice none 0 0], .bool false]) ?_ rfl ⟨_, by rw [(unhide HFn).1, (unhide HFn).2.2]; rfl, by rw [(unhide HFn).2.1]; exact NewP.nil _ _, unhide HKQ⟩
        exact f_results_cell_tmp rfl _ _ w.heap.size _ #[.int .u64 0, .slice none 0 0] (0, 0) _ rfl (unhide HQ0) Tryz.underlying83 rfl Tryz.size_frame _ rfl
    · have hB' : (p.length : Int) ≤ 17 + n := by omega
      have HFn := hide (unhide HNO (by rw [unhide HF, if_neg]; rintro ⟨_, _, _, h, _⟩; exact hB h))
      go_wp2
      refine bodyPost_ret (v := .tuple #[.agg #[.int .u64 0, .slice none 0 0], .bool false]) ?_ rfl ⟨_, by rw [(unhide HFn).1, (unhide HFn).2.2]; rfl, by rw [(unhide HFn).2.1]; exact NewP.nil _ _, unhide HKQ⟩
      exact f_results_cell_tmp rfl _ _ w.heap.size _ #[.int .u64 0, .slice none 0 0] (0, 0) _ rfl (unhide HQ0) Tryz.underlying83 rfl Tryz.size_frame _ rfl
  · have hA0' : ((b0 : Int) != 245) = true := by rw [bne_iff_ne]; omega
    have HFn := hide (unhide HNO (by rw [unhide HF, if_neg]; rintro ⟨h, _⟩; exact hA0 h))
    go_wp2
    refine bodyPost_ret (v := .tuple #[.agg #[.int .u64 0, .slice none 0 0], .bool false]) ?_ rfl ⟨_, by rw [(unhide HFn).1, (unhide HFn).2.2]; rfl, by rw [(unhide HFn).2.1]; exact NewP.nil _ _, unhide HKQ⟩
    exact f_results_cell_tmp rfl _ _ w.heap.size _ #[.int .u64 0, .slice none 0 0] (0, 0) _ rfl (unhide HQ0) Tryz.underlying83 rfl Tryz.size_frame _ rfl
end Go.Proofs.YtckkalmhekfnhaaGreatDoor
