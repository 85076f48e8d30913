import Derived.Test.YtdnacefdihipnabWritten
namespace Go.Proofs.Ytdnacefdihipnab
open Go.RowKit
set_option linter.unusedVariables false
set_option linter.unusedSimpArgs false

theorem div_step (A n : Nat) : A / 256 ^ n = A / 256 ^ (n + 1) * 256 + A / 256 ^ n % 256 := by
  rw [Nat.pow_succ, ← Nat.div_div_eq_div_mul]; omega
theorem wide_lex (n : Nat) : ∀ A B i, A / 256 ^ n = B / 256 ^ n → i < n → (wide A n).take i = (wide B n).take i → (wide A n).getD i 0 ≠ (wide B n).getD i 0 →
    ((wide A n).getD i 0 < (wide B n).getD i 0 ↔ A < B) := by
  induction n with
  | zero => intro A B i h hi; omega
  | succ n ih =>
    intro A B i h hi ht hd
    have hA := div_step A n
    have hB := div_step B n
    simp only [wide] at ht hd ⊢
    cases i with
    | zero =>
      simp only [List.getD_cons_zero] at hd ⊢
      have hlt : ∀ X Y : Nat, X / 256 ^ n < Y / 256 ^ n → X < Y := fun X Y hh => by
        rcases Nat.lt_or_ge X Y with h1 | h1
        · exact h1
        · have := Nat.div_le_div_right (c := 256 ^ n) h1; omega
      constructor
      · intro h1; exact hlt A B (by omega)
      · intro h1
        rcases Nat.lt_or_ge (A / 256 ^ n % 256) (B / 256 ^ n % 256) with h2 | h2
        · exact h2
        · have := hlt B A (by omega); omega
    | succ i =>
      simp only [List.getD_cons_succ, List.take_succ_cons, List.cons.injEq] at ht hd ⊢
      exact ih A B i (by omega) (by omega) ht.2 hd
theorem wide_inj (n : Nat) : ∀ A B, A / 256 ^ n = B / 256 ^ n → wide A n = wide B n → A = B := by
  induction n with
  | zero => intro A B h _; simpa using h
  | succ n ih =>
    intro A B h hw
    have hA := div_step A n
    have hB := div_step B n
    simp only [wide, List.cons.injEq] at hw
    exact ih A B (by omega) hw.2

/-- What a kind with a width lays. -/
theorem layB_wide {k : Int} {x : Nat} (hx : x < 18446744073709551616) (h : widthN k ≠ 0) : layB k x [] = wide (cutN k x) (widthN k) ∧ cutN k x / 256 ^ widthN k = 0 ∧ widthN k ≤ 8 ∧ cutN k x < 18446744073709551616 := by
  rcases kinds4 k with rfl | rfl | rfl | rfl | ⟨h1, h2, h3, h4⟩
  · refine ⟨rfl, ?_, by decide, ?_⟩ <;> simp [cutN, widthN] <;> omega
  · refine ⟨rfl, ?_, by decide, ?_⟩ <;> simp [cutN, widthN] <;> omega
  · refine ⟨rfl, ?_, by decide, ?_⟩ <;> simp [cutN, widthN] <;> omega
  · refine ⟨rfl, ?_, by decide, ?_⟩ <;> simp [cutN, widthN] <;> omega
  · exact absurd (by simp [widthN, h1, h2, h3, h4]) h

/-- A script of one Op without bytes, as the law builds it. -/
theorem SRd.one (w : World) (k : Int) (x : Nat) (hx : x < 18446744073709551616) (hk : -9223372036854775808 ≤ k ∧ k ≤ 9223372036854775807) :
    SRd (w.alloc (.cells #[.int .i64 k, .int .u64 x, .int .i64 0, .slice none 0 0] 33)) (.slice (some ⟨w.heap.size, 0, none⟩) 1 1) [⟨k, x, 0, .slice none 0 0, []⟩] := by
  refine ⟨_, 1, rfl, by simp, by omega, by simp, ?_, fun _ => ⟨w.heap.size, 0, rfl, ?_⟩⟩
  · intro o ho; simp at ho; subst ho; exact ⟨hx, hk.1, hk.2, by simp, by simp, Rd.nil _⟩
  · intro i o ho
    have : i = 0 := by
      rcases Nat.lt_or_ge i 1 with h | h
      · omega
      · rw [List.getElem?_eq_none (by simpa using h)] at ho; cases ho
    subst this
    simp at ho
    subst ho
    have hh := heap_alloc_new w (.cells #[.int .i64 k, .int .u64 x, .int .i64 0, .slice none 0 0] 33)
    refine ⟨?_, ?_, ?_, ?_⟩ <;> (rw [cell_of_row _ _ _ _ _ _ hh]; simp)
theorem scriptB_one (k : Int) (x : Nat) (n : Int) (pv : Value) (p : List Nat) : scriptB [⟨k, x, n, pv, p⟩] = layB k x p := by simp [scriptB]

/-- The cells of a row that was just made. -/
theorem cells_fresh {w : World} {g : Nat} {bs : List Nat} (h : w.heap[g]? = some (.cells (bs.map u8).toArray 5 (0, 0))) : ∀ j, j < bs.length → w.cell? ⟨g, j, none⟩ = some (u8 (bs.getD j 0)) := fun j hj => by
  rw [cell_of_row w _ j _ 5 (0, 0) h]; simp [List.getD_eq_getElem?_getD, List.getElem?_eq_getElem hj]
theorem getD_byte {bs : List Nat} (h : ∀ x ∈ bs, x < 256) (j : Nat) : bs.getD j 0 < 256 := by
  rw [List.getD_eq_getElem?_getD]
  rcases Nat.lt_or_ge j bs.length with hj | hj
  · rw [List.getElem?_eq_getElem hj]; exact h _ (List.getElem_mem hj)
  · rw [List.getElem?_eq_none hj]; decide

set_option maxRecDepth 100000 in
set_option maxHeartbeats 4000000 in
theorem wireOrder_walk (k : Int) (x y : Nat) (w : World) (hk : -9223372036854775808 ≤ k ∧ k ≤ 9223372036854775807) (hx : x < 18446744073709551616) (hy : y < 18446744073709551616) :
    Calls Try.prog 4 #[.int .i64 k, .int .u64 x, .int .u64 y] w fun e w' => e = .returned (.bool true) ∧ Below w.heap.size w w' := by
  have hx' : (x : Int) ≤ 18446744073709551615 := by omega
  have hy' : (y : Int) ≤ 18446744073709551615 := by omega
  have Hk := hide hk
  clear hk
  by_cases hn0 : widthN k = 0
  · go_enter Try.func4, Try.ntmps4
    go_wp2_with fail
    refine (awake_any _).mono ?_
    rintro e w1 ⟨rfl, k1⟩
    have HK1 := hide k1
    clear k1
    go_wp2_with fail
    refine (width_any k _).mono ?_
    rintro e w2 ⟨rfl, hw2⟩
    subst w2
    rw [hn0]
    go_wp2
    go_ret
    exact ⟨rfl, (unhide HK1).below (Nat.le_refl _) (by simp)⟩
  · obtain ⟨ex, dx, hn8, cx⟩ := layB_wide hx hn0
    obtain ⟨ey, dy, _, cy⟩ := layB_wide hy hn0
    have lx := wide_len (cutN k x) (widthN k)
    have ly := wide_len (cutN k y) (widthN k)
    have bx := wide_byte (cutN k x) (widthN k)
    have bY := wide_byte (cutN k y) (widthN k)
    have hlex := wide_lex (widthN k) (cutN k x) (cutN k y)
    have hinj := wide_inj (widthN k) (cutN k x) (cutN k y) (by rw [dx, dy])
    rw [dx, dy] at hlex
    obtain ⟨n, hn⟩ : ∃ n, widthN k = n := ⟨_, rfl⟩
    obtain ⟨A, hA⟩ : ∃ A, cutN k x = A := ⟨_, rfl⟩
    obtain ⟨B, hB⟩ : ∃ B, cutN k y = B := ⟨_, rfl⟩
    rw [hn] at ex ey hn8 hn0 lx ly hlex hinj bx bY
    rw [hA] at ex lx hlex hinj cx bx
    rw [hB] at ey ly hlex hinj cy bY
    obtain ⟨X, hX⟩ : ∃ X, wide A n = X := ⟨_, rfl⟩
    obtain ⟨Y, hY⟩ : ∃ Y, wide B n = Y := ⟨_, rfl⟩
    rw [hX] at ex lx hlex hinj bx
    rw [hY] at ey ly hlex hinj bY
    have Hex := hide ex
    have Hey := hide ey
    have Hlex := hide hlex
    have Hinj := hide hinj
    have Hn := hide hn
    have HA := hide hA
    have HB := hide hB
    have Hlx := hide lx
    have Hly := hide ly
    have Hbx := hide bx
    have HbY := hide bY
    clear ex ey dx dy hlex hinj hn hA hB hX hY lx ly bx bY
    have tn : ((n : Int) == 0) = false := by simp; omega
    have cx' : (A : Int) ≤ 18446744073709551615 := by omega
    have cy' : (B : Int) ≤ 18446744073709551615 := by omega
    go_enter Try.func4, Try.ntmps4
    go_wp2_with fail
    refine (awake_any _).mono ?_
    rintro e w1 ⟨rfl, k1⟩
    have HK1 := hide k1
    clear k1
    go_wp2_with fail
    refine (width_any k _).mono ?_
    rintro e w2 ⟨rfl, hw2⟩
    subst w2
    rw [unhide Hn]
    go_wp2_with fail
    refine (written_any _ [⟨k, x, 0, .slice none 0 0, []⟩] _ (by exact SRd.one w1 k x hx (unhide Hk)) (by rw [scriptB_one, unhide Hex, unhide Hlx]; omega) (by simp)).mono ?_
    rintro e w3 ⟨g, rfl, hg, h3, k3⟩
    rw [scriptB_one, unhide Hex] at h3 ⊢
    have hcx := cells_fresh h3
    rw [unhide Hlx] at hcx ⊢
    have H3 := hide h3
    have HK3 := hide (((unhide HK1).alloc _).trans k3 (by simp))
    have hgl := lt_of_block h3
    clear h3 k3 hg hcx
    go_wp2_with fail
    refine (written_any _ [⟨k, y, 0, .slice none 0 0, []⟩] _ (by exact SRd.one w3 k y hy (unhide Hk)) (by rw [scriptB_one, unhide Hey, unhide Hly]; omega) (by simp)).mono ?_
    rintro e w4 ⟨g2, rfl, hg2, h4, k4⟩
    rw [scriptB_one, unhide Hey] at h4 ⊢
    rw [unhide Hly]
    have H4 := hide h4
    have HK4 := hide (((Kept.refl [] w3).alloc _).trans k4 (by simp))
    clear h4 k4 hg2
    go_wp2_with fail
    refine (cut_any k x 0 _ _ hx).mono ?_
    rintro e w5 ⟨rfl, k5⟩
    rw [unhide HA]
    have HK5 := hide k5
    clear k5
    go_wp2_with fail
    refine (cut_any k y 0 _ _ hy).mono ?_
    rintro e w6 ⟨rfl, k6⟩
    rw [unhide HB]
    have HK6 := hide k6
    clear k6
    have HX := hide (fun j hj => (unhide HK6).cell ((unhide HK5).cell ((unhide HK4).cell (cells_fresh (unhide H3) j hj) (by simp)) (by simp)) (by simp) : ∀ j, j < X.length → w6.cell? ⟨g, j, none⟩ = some (u8 (X.getD j 0)))
    have HY := hide (fun j hj => (unhide HK6).cell ((unhide HK5).cell (cells_fresh (unhide H4) j hj) (by simp)) (by simp) : ∀ j, j < Y.length → w6.cell? ⟨g2, j, none⟩ = some (u8 (Y.getD j 0)))
    have HAll := hide ((((unhide HK3).trans (unhide HK4) (by simp)).trans (unhide HK5) (by simp)).trans (unhide HK6) (by simp))
    clear HK3 HK4 HK5 HK6 H3 H4 HK1
    go_wp2_with fail
    go_loopw [10, 47] (fun t i wr => ∃ k : Nat, k ≤ n ∧ i = .int .i64 k ∧ Hid (X.take k = Y.take k) ∧ ∃ m, wr = w6.drewN m) (fun _ i _ => n - (intOf i).toNat)
    case atStart => exact ⟨0, Nat.zero_le _, rfl, hide (by simp), 0, rfl⟩
    case round =>
      obtain ⟨q, hq, rfl, Ht, m, rfl⟩ := hrel
      by_cases hlt : q < n
      · have ca := unhide HX q (by rw [unhide Hlx]; exact hlt)
        have cb := unhide HY q (by rw [unhide Hly]; exact hlt)
        have b1 := getD_byte (unhide Hbx) q
        have b2 := getD_byte (unhide HbY) q
        have hq0 : (0 : Int) ≤ q := by omega
        have hqn : (q : Int) < n := by omega
        by_cases e : X.getD q 0 = Y.getD q 0
        · have Hn2 := hide (take_succ_eq (unhide Ht) (by rw [unhide Hlx]; exact hlt) (by rw [unhide Hly]; exact hlt) e)
          rw [← e] at cb
          obtain ⟨z, hz⟩ : ∃ z, X.getD q 0 = z := ⟨_, rfl⟩
          rw [hz] at ca cb
          clear e hz b1 b2
          go_wp2_with fail
          go_quiet (fail)
          go_wp2
          go_roundw
          case rel => exact ⟨q + 1, by omega, by go_num, Hn2, _, rfl⟩
          case measure => simp [intOf]; omega
        · have hiff := unhide Hlex q trivial hlt (unhide Ht) e
          obtain ⟨z1, hz1⟩ : ∃ z1, X.getD q 0 = z1 := ⟨_, rfl⟩
          obtain ⟨z2, hz2⟩ : ∃ z2, Y.getD q 0 = z2 := ⟨_, rfl⟩
          rw [hz1] at ca hiff e b1
          rw [hz2] at cb hiff e b2
          have hne : ((z1 : Int) != (z2 : Int)) = true := by rw [bne_iff_ne]; omega
          clear hz1 hz2
          have T := (show ((z1 : Int) < z2 ∧ (A : Int) < B) ∨ (¬ (z1 : Int) < z2 ∧ ¬ (A : Int) < B) from by
            rcases Nat.lt_or_ge A B with hAB | hAB
            · left; have := hiff.2 hAB; omega
            · right
              have : ¬ z1 < z2 := fun h => by have := hiff.1 h; omega
              omega)
          have HE := hide (by simp only [hiff, beq_self_eq_true] : (decide (z1 < z2) == decide (A < B)) = true)
          clear hiff e
          rcases T with ⟨t1, t2⟩ | ⟨t1, t2⟩
          all_goals
            go_wp2_with fail
            go_quiet (fail)
            go_wp2_with fail
            go_quiet (fail)
            go_wp2
            go_ret
            exact ⟨congrArg (fun b => Ending.returned (.bool b)) (by first | rfl | exact unhide HE), (((unhide HAll).drewN _).drewN _).drewN _ |>.below (Nat.le_refl _) (by simp)⟩
      · have hAB : A = B := unhide Hinj (by
          have h1 := unhide Ht
          rwa [List.take_of_length_le (by rw [unhide Hlx]; omega), List.take_of_length_le (by rw [unhide Hly]; omega)] at h1)
        subst hAB
        go_wp2
        go_ret
        exact ⟨rfl, ((unhide HAll).drewN _).below (Nat.le_refl _) (by simp)⟩
end Go.Proofs.Ytdnacefdihipnab
