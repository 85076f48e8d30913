import Derived.Test.YtialndpejechbaaLQPlay
namespace Go.Proofs.Ytialndpejechbaa
open Go.RowKit Go.MuLone Go.BigFrame
set_option linter.unusedVariables false
set_option linter.unusedSimpArgs false

/-- A queue and the document's, or none of both, in the blocks F. -/
def PT (w : World) (qv pv : Value) (F : List Nat) (n : Nat) : Prop :=
  (qv = .pointer none ∧ pv = .pointer none ∧ F = []) ∨ ∃ (q p : Nat) (pl : Int) (vq vp : Value) (xs : List Int) (cl : Bool), qv = .pointer (some ⟨q, 0, none⟩) ∧ pv = .pointer (some ⟨p, 0, none⟩) ∧ F = q :: p :: (blk vq ++ blk vp) ∧ (1 ≤ pl ∧ pl ≤ 64) ∧ xs.length ≤ n ∧ Two w q p pl vq (xs.map iv) cl vp (xs.map iv) cl
theorem PT.kept {L : List Nat} {w w' : World} {qv pv : Value} {F : List Nat} {n : Nat} (h : PT w qv pv F n) (k : Kept L w w') (hn : ∀ b ∈ F, b ∉ L) : PT w' qv pv F n := by
  rcases h with h | ⟨q, p, pl, vq, vp, xs, cl, h1, h2, h3, h4, h5, h6⟩
  · exact .inl h
  · subst h3
    exact .inr ⟨q, p, pl, vq, vp, xs, cl, h1, h2, rfl, h4, h5, h6.pass k (by rintro b (rfl | rfl | hb | hb) <;> exact hn _ (by simp [*]))⟩
theorem PT.lt {w : World} {qv pv : Value} {F : List Nat} {n : Nat} (h : PT w qv pv F n) : ∀ b ∈ F, b < w.heap.size := by
  intro b hb
  rcases h with ⟨_, _, rfl⟩ | ⟨q, p, pl, vq, vp, xs, cl, h1, h2, rfl, h4, h5, h6⟩
  · cases hb
  · simp at hb
    rcases hb with rfl | rfl | hb | hb
    · exact lt_of_block h6.qa.row
    · exact lt_of_block h6.ra.row
    · exact h6.qa.vals.lt b hb
    · exact h6.ra.vals.lt b hb
theorem one_pt (k x : Int) (w : World) (qv pv : Value) (F : List Nat) (n : Nat) (h : PT w qv pv F n) (hn : n ≤ 1000000000000) :
    Calls Try.prog 11 #[qv, pv, .agg #[.int .i64 k, .int .i64 x]] w fun e w' => e = .returned (.bool true) ∧ ∃ F', PT w' qv pv F' (n + 1) ∧ Kept F w w' ∧ ∀ b ∈ F', b ∈ F ∨ w.heap.size ≤ b := by
  rcases h with ⟨rfl, rfl, rfl⟩ | ⟨q, p, pl, vq, vp, xs, cl, rfl, rfl, rfl, h4, h5, h6⟩
  · refine (one_nil k x w).mono ?_
    rintro e w' ⟨rfl, h⟩
    exact ⟨rfl, [], .inl ⟨rfl, rfl, rfl⟩, h, by simp⟩
  · refine (one_any k x w q p pl vq vp xs cl h6 h4 (by omega)).mono ?_
    rintro e w' ⟨rfl, vq', vp', g1, g2, g3⟩
    have := stepV_len k x xs cl
    refine ⟨rfl, _, .inr ⟨q, p, pl, vq', vp', _, _, rfl, rfl, rfl, h4, by omega, g1⟩, g2, fun b hb => ?_⟩
    simp at hb ⊢
    rcases hb with rfl | rfl | hb | hb
    · exact .inl (.inl rfl)
    · exact .inl (.inr (.inl rfl))
    · rcases g3 b (.inl hb) with h | h | h
      · exact .inl (.inr (.inr (.inl h)))
      · exact .inl (.inr (.inr (.inr h)))
      · exact .inr h
    · rcases g3 b (.inr hb) with h | h | h
      · exact .inl (.inr (.inr (.inl h)))
      · exact .inl (.inr (.inr (.inr h)))
      · exact .inr h
/-- What New says of its places. -/
def nerr (a : Int) : Int := if 1 ≤ a ∧ a ≤ 64 then 0 else 1
def NQ (w0 w : World) (a : Int) (qv : Value) : Prop := (¬ (1 ≤ a ∧ a ≤ 64) ∧ qv = .pointer none) ∨ ((1 ≤ a ∧ a ≤ 64) ∧ ∃ q, qv = .pointer (some ⟨q, 0, none⟩) ∧ w0.heap.size ≤ q ∧ QAt 70 3 w q a (.slice none 0 0) [] false)
def NR (w0 w : World) (a : Int) (pv : Value) : Prop := (¬ (1 ≤ a ∧ a ≤ 64) ∧ pv = .pointer none) ∨ ((1 ≤ a ∧ a ≤ 64) ∧ ∃ p, pv = .pointer (some ⟨p, 0, none⟩) ∧ w0.heap.size ≤ p ∧ RAt w p a (.slice none 0 0) [] false)
theorem NQ.old {w0 w w' : World} {a : Int} {qv : Value} (h : NQ w0 w a qv) (k : Kept [] w w') : NQ w0 w' a qv := by
  rcases h with h | ⟨h1, q, h2, h3, h4⟩
  · exact .inl h
  · exact .inr ⟨h1, q, h2, h3, h4.kept k (by simp) (by simp)⟩
theorem NR.old {w0 w w' : World} {a : Int} {qv : Value} (h : NR w0 w a qv) (k : Kept [] w w') : NR w0 w' a qv := by
  rcases h with h | ⟨h1, q, h2, h3, h4⟩
  · exact .inl h
  · exact .inr ⟨h1, q, h2, h3, h4.kept k (by simp) (by simp)⟩
theorem newI_gen (a : Int) (w : World) : Calls Try.prog 9 #[.int .i64 a] w fun e w' => ∃ qv, e = .returned (.tuple #[qv, .int .i64 (nerr a)]) ∧ NQ w w' a qv ∧ Kept [] w w' := by
  by_cases h : 1 ≤ a ∧ a ≤ 64
  · refine (newI_any a w h).mono ?_
    rintro e w' ⟨q, rfl, g1, g2, g3⟩
    exact ⟨_, by rw [nerr, if_pos h], .inr ⟨h, q, rfl, g1, g2⟩, g3⟩
  · refine (newI_bad a w h).mono ?_
    rintro e w' ⟨rfl, g3⟩
    exact ⟨_, by rw [nerr, if_neg h], .inl ⟨h, rfl⟩, g3⟩
theorem newR_gen (a : Int) (w : World) : Calls Try.prog 10 #[.int .i64 a] w fun e w' => ∃ qv, e = .returned (.tuple #[qv, .int .i64 (nerr a)]) ∧ NR w w' a qv ∧ Kept [] w w' := by
  by_cases h : 1 ≤ a ∧ a ≤ 64
  · refine (newR_any a w h).mono ?_
    rintro e w' ⟨q, rfl, g1, g2, g3⟩
    exact ⟨_, by rw [nerr, if_pos h], .inr ⟨h, q, rfl, g1, g2⟩, g3⟩
  · refine (newR_bad a w h).mono ?_
    rintro e w' ⟨rfl, g3⟩
    exact ⟨_, by rw [nerr, if_neg h], .inl ⟨h, rfl⟩, g3⟩
theorem pt_new {w0 w1 w : World} {a : Int} {qv pv : Value} (h : NQ w0 w a qv) (g : NR w1 w a pv) : ∃ F, PT w qv pv F 0 ∧ ∀ b ∈ F, (∃ c, qv = .pointer (some ⟨c, 0, none⟩) ∧ w0.heap.size ≤ c ∧ b = c) ∨ (∃ c, pv = .pointer (some ⟨c, 0, none⟩) ∧ w1.heap.size ≤ c ∧ b = c) := by
  rcases h with ⟨h1, h2⟩ | ⟨h1, q, h2, h3, h4⟩
  · rcases g with ⟨g1, g2⟩ | ⟨g1, p, g2, g3, g4⟩
    · exact ⟨[], .inl ⟨h2, g2, rfl⟩, by simp⟩
    · exact absurd g1 h1
  · rcases g with ⟨g1, g2⟩ | ⟨g1, p, g2, g3, g4⟩
    · exact absurd h1 g1
    · refine ⟨_, .inr ⟨q, p, a, _, _, [], false, h2, g2, rfl, h1, Nat.le_refl _, ⟨h4, g4, by simp [blk]⟩⟩, ?_⟩
      intro b hb
      simp [blk] at hb
      rcases hb with rfl | rfl
      · exact .inl ⟨b, h2, h3, rfl⟩
      · exact .inr ⟨b, g2, g3, rfl⟩

theorem PT.more {w : World} {qv pv : Value} {F : List Nat} {n m : Nat} (h : PT w qv pv F n) (hn : n ≤ m) : PT w qv pv F m := by
  rcases h with h | ⟨q, p, pl, vq, vp, xs, cl, h1, h2, h3, h4, h5, h6⟩
  · exact .inl h
  · exact .inr ⟨q, p, pl, vq, vp, xs, cl, h1, h2, h3, h4, by omega, h6⟩
/-- Two such pairs, in memory apart that is new since w0. -/
def BT (w0 w : World) (qv pv sv tv : Value) (n : Nat) : Prop := ∃ F G, PT w qv pv F n ∧ PT w sv tv G n ∧ (∀ b ∈ F, b ∉ G) ∧ (∀ b ∈ F, w0.heap.size ≤ b) ∧ (∀ b ∈ G, w0.heap.size ≤ b) ∧ Kept [] w0 w
theorem BT.swap {w0 w : World} {qv pv sv tv : Value} {n : Nat} (h : BT w0 w qv pv sv tv n) : BT w0 w sv tv qv pv n := by
  obtain ⟨F, G, h1, h2, h3, h4, h5, h6⟩ := h
  exact ⟨G, F, h2, h1, fun b hb hm => h3 b hm hb, h5, h4, h6⟩
theorem one_bt (k x : Int) (w0 w : World) (qv pv sv tv : Value) (n : Nat) (h : BT w0 w qv pv sv tv n) (hn : n ≤ 1000000000000) :
    Calls Try.prog 11 #[qv, pv, .agg #[.int .i64 k, .int .i64 x]] w fun e w' => e = .returned (.bool true) ∧ BT w0 w' qv pv sv tv (n + 1) := by
  obtain ⟨F, G, h1, h2, h3, h4, h5, h6⟩ := h
  refine (one_pt k x w qv pv F n h1 hn).mono ?_
  rintro e w' ⟨rfl, F', g1, g2, g3⟩
  refine ⟨rfl, F', G, g1, (h2.kept g2 (fun b hb hm => h3 b hm hb)).more (by omega), fun b hb hm => ?_, fun b hb => ?_, h5, h6.trans g2 (fun b hb => .inr (h4 b hb))⟩
  · rcases g3 b hb with h | h
    · exact h3 b h hm
    · have := h2.lt b hm; omega
  · rcases g3 b hb with h | h
    · exact h4 b h
    · exact Nat.le_trans h6.size h
theorem NQ.lt {w0 w : World} {a : Int} {c : Nat} (h : NQ w0 w a (.pointer (some ⟨c, 0, none⟩))) : c < w.heap.size := by
  rcases h with ⟨_, h⟩ | ⟨h1, q, h2, h3, h4⟩
  · cases h
  · cases h2; exact lt_of_block h4.row
theorem NR.lt {w0 w : World} {a : Int} {c : Nat} (h : NR w0 w a (.pointer (some ⟨c, 0, none⟩))) : c < w.heap.size := by
  rcases h with ⟨_, h⟩ | ⟨h1, q, h2, h3, h4⟩
  · cases h
  · cases h2; exact lt_of_block h4.row
theorem bt_new {w0 w1 w2 w3 w4 w5 : World} {a b : Int} {qv pv sv tv : Value} (k1 : Kept [] w0 w1) (k2 : Kept [] w1 w2) (k3 : Kept [] w2 w3) (k4 : Kept [] w3 w4) (k5 : Kept [] w4 w5) (n1 : NQ w1 w2 a qv) (n2 : NQ w2 w3 b sv) (n3 : NR w3 w4 a pv) (n4 : NR w4 w5 b tv) : BT w0 w5 qv pv sv tv 0 := by
  obtain ⟨F, f1, f2⟩ := pt_new (((n1.old k3).old k4).old k5) (n3.old k5)
  obtain ⟨G, g1, g2⟩ := pt_new ((n2.old k4).old k5) n4
  have s1 := k1.size
  have s2 := k2.size
  have s3 := k3.size
  have s4 := k4.size
  have hF : ∀ b ∈ F, (w1.heap.size ≤ b ∧ b < w2.heap.size) ∨ (w3.heap.size ≤ b ∧ b < w4.heap.size) := fun b hb => by
    rcases f2 b hb with ⟨c, h1, h2, rfl⟩ | ⟨c, h1, h2, rfl⟩
    · subst h1; exact .inl ⟨h2, n1.lt⟩
    · subst h1; exact .inr ⟨h2, n3.lt⟩
  have hG : ∀ b ∈ G, (w2.heap.size ≤ b ∧ b < w3.heap.size) ∨ w4.heap.size ≤ b := fun b hb => by
    rcases g2 b hb with ⟨c, h1, h2, rfl⟩ | ⟨c, h1, h2, rfl⟩
    · subst h1; exact .inl ⟨h2, n2.lt⟩
    · exact .inr h2
  refine ⟨F, G, f1, g1, fun b h h' => ?_, fun b h => ?_, fun b h => ?_, (((k1.trans k2 (by simp)).trans k3 (by simp)).trans k4 (by simp)).trans k5 (by simp)⟩
  · have := hF b h; have := hG b h'; omega
  · have := hF b h; omega
  · have := hG b h; omega

set_option maxRecDepth 100000 in
set_option maxHeartbeats 2000000 in
theorem queueTwo_walk (a b : Int) (v : Value) (ops : List (Int × Int)) (v2 : Value) (ops2 : List (Int × Int)) (w : World) (ha : -9223372036854775808 ≤ a ∧ a ≤ 9223372036854775807) (hb : -9223372036854775808 ≤ b ∧ b ≤ 9223372036854775807) (h : RdOp w v ops) (hl : ops.length ≤ 1048576) (h' : RdOp w v2 ops2) (hl' : ops2.length ≤ 1048576) :
    Calls Try.prog 4 #[.int .i64 a, .int .i64 b, v, v2] w fun e w' => e = .returned (.bool true) ∧ Below w.heap.size w w' := by
  obtain ⟨ao, cap, rfl, h1, h2, h3⟩ := h
  obtain ⟨ao2, cap2, rfl, h1', h2', h3'⟩ := h'
  have H3 := hide h3
  have H4 := hide h3'
  clear h3 h3' ha hb
  generalize hea : nerr a = ea
  generalize heb : nerr b = eb
  go_enter Try.func4, Try.ntmps4
  go_wp2_with fail
  refine (qawake_any _).mono ?_
  rintro e w1 ⟨rfl, k1⟩
  have HK := hide k1
  clear k1
  go_wp2_with fail
  refine (newI_gen a _).mono ?_
  rintro e w2 ⟨qv, rfl, n1, k2⟩
  rw [hea]
  have N1 := hide n1
  have K2 := hide k2
  clear n1 k2
  go_wp2_with fail
  refine (newI_gen b _).mono ?_
  rintro e w3 ⟨sv, rfl, n2, k3⟩
  rw [heb]
  have N2 := hide n2
  have K3 := hide k3
  clear n2 k3
  go_wp2_with fail
  refine (newR_gen a _).mono ?_
  rintro e w4 ⟨pv, rfl, n3, k4⟩
  rw [hea]
  have N3 := hide n3
  have K4 := hide k4
  clear n3 k4
  go_wp2_with fail
  refine (newR_gen b _).mono ?_
  rintro e w5 ⟨tv, rfl, n4, k5⟩
  rw [heb]
  have N4 := hide n4
  have K5 := hide k5
  clear n4 k5
  go_wp2_with fail
  have HT := hide (bt_new (unhide HK) (unhide K2) (unhide K3) (unhide K4) (unhide K5) (unhide N1) (unhide N2) (unhide N3) (unhide N4))
  clear N1 N2 N3 N4 K2 K3 K4 K5 HK
  go_loopw [17] (fun t17 wr => ∃ (i : Nat), i ≤ 1048576 ∧ t17 = .int .i64 i ∧ Hid (BT w wr qv pv sv tv (2 * i))) (fun t _ => 1048576 - (intOf t).toNat)
  case atStart => exact ⟨0, Nat.zero_le _, rfl, HT⟩
  case round =>
    obtain ⟨i, hi, rfl, HT⟩ := hrel
    by_cases hA : i < ops.length
    · have hA' : (i : Int) < ops.length := by omega
      obtain ⟨b1, off1, rfl, hcc⟩ := unhide H3 (by omega)
      obtain ⟨_, _, _, _, _, _, _, kk⟩ := unhide HT
      have c1 := kk.cell (hcc i hA).1 (by simp)
      have c2 := kk.cell (hcc i hA).2 (by simp)
      clear hcc kk
      generalize ops.getD i (0, 0) = o at c1 c2
      obtain ⟨k, x⟩ := o
      simp only at c1 c2
      by_cases hB : i < ops2.length
      · have hB' : (i : Int) < ops2.length := by omega
        go_wp2_with fail
        refine (one_bt k x w wr qv pv sv tv (2 * i) (unhide HT) (by omega)).mono ?_
        rintro e w6 ⟨rfl, g⟩
        have HT6 := hide g
        clear g c1 c2
        obtain ⟨b2, off2, rfl, hcc⟩ := unhide H4 (by omega)
        obtain ⟨_, _, _, _, _, _, _, kk⟩ := unhide HT6
        have d1 := kk.cell (hcc i hB).1 (by simp)
        have d2 := kk.cell (hcc i hB).2 (by simp)
        clear hcc kk
        generalize ops2.getD i (0, 0) = o at d1 d2
        obtain ⟨k2, x2⟩ := o
        simp only at d1 d2
        go_wp2_with fail
        refine (one_bt k2 x2 w w6 sv tv qv pv (2 * i + 1) (unhide HT6).swap (by omega)).mono ?_
        rintro e w7 ⟨rfl, g⟩
        have HT7 := hide g.swap
        clear g d1 d2
        go_wp2_with fail
        refine ⟨⟨i + 1, by omega, by go_num, HT7⟩, ?_⟩
        simp [intOf]; omega
      · have hB' : ¬ (i : Int) < ops2.length := by omega
        go_wp2_with fail
        refine (one_bt k x w wr qv pv sv tv (2 * i) (unhide HT) (by omega)).mono ?_
        rintro e w6 ⟨rfl, g⟩
        have HT6 := hide (by obtain ⟨F, G, h1, h2, h3⟩ := g; exact ⟨F, G, h1.more (by omega), h2.more (by omega), h3⟩ : BT w w6 qv pv sv tv (2 * (i + 1)))
        clear g c1 c2
        go_wp2_with fail
        refine ⟨⟨i + 1, by omega, by go_num, HT6⟩, ?_⟩
        simp [intOf]; omega
    · have hA' : ¬ (i : Int) < ops.length := by omega
      by_cases hB : i < ops2.length
      · have hB' : (i : Int) < ops2.length := by omega
        obtain ⟨b2, off2, rfl, hcc⟩ := unhide H4 (by omega)
        obtain ⟨_, _, _, _, _, _, _, kk⟩ := unhide HT
        have d1 := kk.cell (hcc i hB).1 (by simp)
        have d2 := kk.cell (hcc i hB).2 (by simp)
        clear hcc kk
        generalize ops2.getD i (0, 0) = o at d1 d2
        obtain ⟨k2, x2⟩ := o
        simp only at d1 d2
        go_wp2_with fail
        refine (one_bt k2 x2 w wr sv tv qv pv (2 * i) (unhide HT).swap (by omega)).mono ?_
        rintro e w6 ⟨rfl, g⟩
        have HT6 := hide (by obtain ⟨F, G, h1, h2, h3⟩ := g.swap; exact ⟨F, G, h1.more (by omega), h2.more (by omega), h3⟩ : BT w w6 qv pv sv tv (2 * (i + 1)))
        clear g d1 d2
        go_wp2_with fail
        refine ⟨⟨i + 1, by omega, by go_num, HT6⟩, ?_⟩
        simp [intOf]; omega
      · have hB' : ¬ (i : Int) < ops2.length := by omega
        go_wp2_with fail
        go_ret
        obtain ⟨_, _, _, _, _, _, _, kk⟩ := unhide HT
        exact ⟨rfl, kk.below (Nat.le_refl _) (by simp)⟩

end Go.Proofs.Ytialndpejechbaa
