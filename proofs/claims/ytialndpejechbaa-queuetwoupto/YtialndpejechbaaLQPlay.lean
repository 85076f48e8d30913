import Derived.Test.YtialndpejechbaaQAw
namespace Go.Proofs.Ytialndpejechbaa
open Go.RowKit Go.MuLone Go.BigFrame
set_option linter.unusedVariables false
set_option linter.unusedSimpArgs false

/-- The slice value v reads as the calls ops. -/
def RdOp (w : World) (v : Value) (ops : List (Int × Int)) : Prop :=
  ∃ (ao : Option Addr) (cap : Nat), v = .slice ao ops.length cap ∧ ops.length ≤ cap ∧ cap ≤ 9223372036854775807 ∧
    (0 < ops.length → ∃ b off, ao = some ⟨b, off, none⟩ ∧ ∀ i, i < ops.length → w.cell? ⟨b, off + i * 2, none⟩ = some (.int .i64 (ops.getD i (0, 0)).1) ∧ w.cell? ⟨b, off + i * 2 + 1, none⟩ = some (.int .i64 (ops.getD i (0, 0)).2))

/-- The values, and whether it is closed, behind the calls. -/
def playV : List (Int × Int) → List Int × Bool → List Int × Bool
  | [], s => s
  | o :: r, s => playV r (stepV o.1 o.2 s.1 s.2, stepC o.1 s.2)
theorem stepV_len (k x : Int) (xs : List Int) (cl : Bool) : (stepV k x xs cl).length ≤ xs.length + 1 := by
  unfold stepV
  split
  · split <;> simp
  · split
    · simp; omega
    · omega

set_option maxRecDepth 100000 in
set_option maxHeartbeats 2000000 in
theorem queuePlays_walk (pl : Int) (v : Value) (ops : List (Int × Int)) (w : World) (hx : -9223372036854775808 ≤ pl ∧ pl ≤ 9223372036854775807) (h : RdOp w v ops) (hl : ops.length ≤ 1048576) :
    Calls Try.prog 3 #[.int .i64 pl, v] w fun e w' => e = .returned (.bool true) ∧ Below w.heap.size w w' := by
  obtain ⟨ao, cap, rfl, h1, h2, h3⟩ := h
  have H3 := hide h3
  clear h3
  by_cases hp : 1 ≤ pl ∧ pl ≤ 64
  · go_enter Try.func3, Try.ntmps3
    go_wp2_with (first
      | (go_at_call 8; refine (qawake_any _).mono ?_; rintro e w1 ⟨rfl, k1⟩; have HK := hide k1; clear k1)
      | (go_at_call 9; refine (newI_any pl _ hp).mono ?_; rintro e w2 ⟨q, rfl, g1, g2, g3⟩; have hq := Nat.le_trans (unhide HK).size g1; replace HK := hide ((unhide HK).trans g3 (by simp)); have HQ := hide g2; clear g1 g2 g3)
      | (go_at_call 10; refine (newR_any pl _ hp).mono ?_; rintro e w3 ⟨p, rfl, g1, g2, g3⟩; have hp' := Nat.le_trans (unhide HK).size g1; replace HK := hide ((unhide HK).trans g3 (by simp)); have HT := hide (Two.mk ((unhide HQ).kept g3 (by simp) (by simp)) g2 (by simp [blk])); clear g1 g2 g3 HQ))
    go_loopw [35] (fun t35 wr => ∃ (i : Nat) (xs : List Int) (cl : Bool) (vq vp : Value), i ≤ ops.length ∧ t35 = .int .i64 i ∧ xs.length ≤ i ∧ Hid (Two wr q p pl vq (xs.map iv) cl vp (xs.map iv) cl) ∧ Hid (Kept [] w wr) ∧ Hid (∀ b, b ∈ blk vq ∨ b ∈ blk vp → w.heap.size ≤ b)) (fun t _ => ops.length - (intOf t).toNat)
    case atStart => exact ⟨0, [], false, _, _, Nat.zero_le _, rfl, Nat.zero_le _, HT, HK, hide (by simp [blk])⟩
    case round =>
      obtain ⟨i, xs, cl, vq, vp, hi, rfl, hxi, HT, HK, HB⟩ := hrel
      by_cases hlt : i < ops.length
      · have hlt' : (i : Int) < ops.length := by omega
        obtain ⟨b, off, rfl, hcc⟩ := unhide H3 (by omega)
        have c1 := (unhide HK).cell (hcc i hlt).1 (by simp)
        have c2 := (unhide HK).cell (hcc i hlt).2 (by simp)
        clear hcc
        generalize ops.getD i (0, 0) = o at c1 c2
        obtain ⟨k, x⟩ := o
        simp only at c1 c2
        go_wp2_with fail
        refine (one_any k x _ q p pl vq vp xs cl ((unhide HT).pass ((Kept.refl [] wr).alloc (.cells #[.int .i64 k, .int .i64 x] 32)) (by simp)) hp (by omega)).mono ?_
        rintro e w5 ⟨rfl, vq', vp', g1, g2, g3⟩
        have hsz : w.heap.size ≤ (wr.alloc (.cells #[.int .i64 k, .int .i64 x] 32)).heap.size := by have := (unhide HK).size; simp; omega
        have HK5 := hide (((unhide HK).alloc (.cells #[.int .i64 k, .int .i64 x] 32)).trans g2 (by
          intro y hy
          simp at hy
          rcases hy with rfl | rfl | hy | hy
          · exact .inr hq
          · exact .inr hp'
          · exact .inr (unhide HB y (.inl hy))
          · exact .inr (unhide HB y (.inr hy))))
        have HB5 := hide (fun y (hy : y ∈ blk vq' ∨ y ∈ blk vp') => (by rcases g3 y hy with h | h | h; exact unhide HB y (.inl h); exact unhide HB y (.inr h); exact Nat.le_trans hsz h : w.heap.size ≤ y))
        have HT5 := hide g1
        have hlen := stepV_len k x xs cl
        clear g1 g2 g3
        go_wp2_with fail
        refine ⟨⟨i + 1, _, _, vq', vp', by omega, by go_num, by omega, HT5, HK5, HB5⟩, ?_⟩
        simp [intOf]; omega
      · have hlt' : ¬ (i : Int) < ops.length := by omega
        go_wp2_with fail
        go_ret
        exact ⟨rfl, (unhide HK).below (Nat.le_refl _) (by simp)⟩
  · go_enter Try.func3, Try.ntmps3
    go_wp2_with (first
      | (go_at_call 8; refine (qawake_any _).mono ?_; rintro e w1 ⟨rfl, k1⟩; have HK := hide k1; clear k1)
      | (go_at_call 9; refine (newI_bad pl _ hp).mono ?_; rintro e w2 ⟨rfl, g3⟩; replace HK := hide ((unhide HK).trans g3 (by simp)); clear g3)
      | (go_at_call 10; refine (newR_bad pl _ hp).mono ?_; rintro e w3 ⟨rfl, g3⟩; replace HK := hide ((unhide HK).trans g3 (by simp)); clear g3))
    go_loopw [35] (fun t35 wr => ∃ (i : Nat), i ≤ ops.length ∧ t35 = .int .i64 i ∧ Hid (Kept [] w wr)) (fun t _ => ops.length - (intOf t).toNat)
    case atStart => exact ⟨0, Nat.zero_le _, rfl, HK⟩
    case round =>
      obtain ⟨i, hi, rfl, HK⟩ := hrel
      by_cases hlt : i < ops.length
      · have hlt' : (i : Int) < ops.length := by omega
        obtain ⟨b, off, rfl, hcc⟩ := unhide H3 (by omega)
        have c1 := (unhide HK).cell (hcc i hlt).1 (by simp)
        have c2 := (unhide HK).cell (hcc i hlt).2 (by simp)
        clear hcc
        generalize ops.getD i (0, 0) = o at c1 c2
        obtain ⟨k, x⟩ := o
        simp only at c1 c2
        go_wp2_with fail
        refine (one_nil k x _).mono ?_
        rintro e w5 ⟨rfl, g2⟩
        have HK5 := hide (((unhide HK).alloc (.cells #[.int .i64 k, .int .i64 x] 32)).trans g2 (by simp))
        clear g2
        go_wp2_with fail
        refine ⟨⟨i + 1, by omega, by go_num, HK5⟩, ?_⟩
        simp [intOf]; omega
      · have hlt' : ¬ (i : Int) < ops.length := by omega
        go_wp2_with fail
        go_ret
        exact ⟨rfl, (unhide HK).below (Nat.le_refl _) (by simp)⟩

end Go.Proofs.Ytialndpejechbaa
