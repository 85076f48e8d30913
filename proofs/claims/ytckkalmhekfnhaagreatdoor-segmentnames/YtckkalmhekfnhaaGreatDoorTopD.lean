import Derived.Test.YtckkalmhekfnhaaGreatDoorTopC
import Derived.Test.YtckkalmhekfnhaaGreatDoorTopA
import Derived.Test.YtckkalmhekfnhaaGreatDoorRBlob
import Derived.Test.YtckkalmhekfnhaaGreatDoorEBat2
import Derived.Test.YtckkalmhekfnhaaGreatDoorFEnc
namespace Go.Proofs.YtckkalmhekfnhaaGreatDoor
open Go.RowKit Go.BigFrame
set_option linter.unusedVariables false
set_option linter.unusedSimpArgs false

/-- Does a frame stand at z whose batch has the index i? -/
def rbOk (p : List Nat) (z : Int) (i : Nat) : Bool := decide ((nextF p z).kind = 1 ∧ (nextF p z).pl = i ∧ (decB (nextF p z).pay).2.2 = 0 ∧ (decB (nextF p z).pay).1 = i)
def rbF (p : List Nat) (z : Int) (i : Nat) : Nat := if rbOk p z i then i else 0
def rbN (p : List Nat) (z : Int) (i : Nat) : Int := if rbOk p z i then (nextF p z).next else 0
def rbE (p : List Nat) (z : Int) (i : Nat) : List En := if rbOk p z i then (decB (nextF p z).pay).2.1 else []
theorem bcells {w : World} {b : Nat} {x0 x1 : Value} {t : TypeId} (h : w.heap[b]? = some (.cells #[x0, x1] t (0, 0))) : w.cell? ⟨b, 0, none⟩ = some x0 ∧ w.cell? ⟨b, 1, none⟩ = some x1 := by
  refine ⟨?_, ?_⟩ <;> rw [cell_of_row _ _ _ _ _ _ h] <;> rfl
theorem bfroz {w : World} {b : Nat} {cs : Array Value} {t : TypeId} (h : w.heap[b]? = some (.cells cs t (0, 0))) : w.frozen? ⟨b, 0, none⟩ = false ∧ w.frozen? ⟨b, 1, none⟩ = false :=
  ⟨frozen_of_row _ _ _ _ _ h, frozen_of_row _ _ _ _ _ h⟩
theorem Tryz.size_batch9 : (Tryz.prog.info? 35).map (·.size) = some 2 := by kernel_rfl

set_option maxRecDepth 100000 in
set_option maxHeartbeats 4000000 in
theorem readBatch_any (v : Value) (p : List Nat) (z : Int) (i : Nat) (w : World) (h : Rd w v p) (hz : -9223372036854775808 ≤ z ∧ z ≤ 9223372036854775807) :
    Calls Tryz.prog 43 #[v, .int .i64 z, .int .u64 i] w fun e w' => ∃ bv, e = .returned (.tuple #[.agg #[.int .u64 (rbF p z i), bv], .int .i64 (rbN p z i), .bool (rbOk p z i)]) ∧ NewN w.heap.size w' bv (rbE p z i) ∧ Kept [] w w' := by
  have H := hide h
  obtain ⟨a1, n1, c1, rfl, hn1, _⟩ := id h
  subst hn1
  clear h
  have HZ0 := hide (heap_alloc_new w (.cells #[.int .u64 0, .slice none 0 0] 35))
  have HK0 := hide ((Kept.refl [] w).alloc (.cells #[.int .u64 0, .slice none 0 0] 35))
  obtain ⟨X, hX⟩ : ∃ X, rbF p z i = X := ⟨_, rfl⟩
  obtain ⟨Y, hY⟩ : ∃ Y, rbN p z i = Y := ⟨_, rfl⟩
  obtain ⟨E, hE⟩ : ∃ E, rbE p z i = E := ⟨_, rfl⟩
  obtain ⟨Z, hZ⟩ : ∃ Z, rbOk p z i = Z := ⟨_, rfl⟩
  rw [hX, hY, hZ, hE]
  have HNO := hide (fun (h0 : rbOk p z i = false) => by
    rw [← hX, ← hY, ← hZ, ← hE]
    exact ⟨by simp [rbF, h0], by simp [rbN, h0], by simp [rbE, h0], h0⟩ : rbOk p z i = false → X = 0 ∧ Y = 0 ∧ E = [] ∧ Z = false)
  have HYE := hide (fun (h0 : rbOk p z i = true) => by
    rw [← hX, ← hY, ← hZ, ← hE]
    exact ⟨by simp [rbF, h0], by simp [rbN, h0], by simp [rbE, h0], h0⟩ : rbOk p z i = true → X = i ∧ Y = (nextF p z).next ∧ E = (decB (nextF p z).pay).2.1 ∧ Z = true)
  have HOK := hide (by unfold rbOk; rfl : rbOk p z i = decide ((nextF p z).kind = 1 ∧ (nextF p z).pl = i ∧ (decB (nextF p z).pay).2.2 = 0 ∧ (decB (nextF p z).pay).1 = i))
  clear hX hY hZ hE
  go_enter Tryz.func43, Tryz.ntmps43
  go_wp2_with fail
  refine Calls.mono (next_any _ p z _ ((unhide H).old (unhide HK0) (by simp)) hz) ?_
  rintro e w1 ⟨v1, rfl, n1, k1⟩
  obtain ⟨av, nv, cv, rfl, hnv, _⟩ := id n1.1
  obtain ⟨N, hN⟩ : ∃ N, nextF p z = N := ⟨_, rfl⟩
  rw [hN] at n1 HYE HOK hnv ⊢
  clear hN
  have HN1 := hide n1.1
  have HZ1 := hide (k1.heap (unhide HZ0) (by simp))
  have HK1 := hide ((unhide HK0).trans k1 (by simp))
  clear n1 k1 hnv
  have HZW := hide (((Kept.refl [] w1).alloc (.cells #[.int .u64 (N.pl : Int), .slice av nv cv] 83)).heap (unhide HZ1) (by simp))
  have HKW := hide ((unhide HK1).alloc (.cells #[.int .u64 (N.pl : Int), .slice av nv cv] 83))
  have HFW := hide (heap_alloc_new w1 (.cells #[.int .u64 (N.pl : Int), .slice av nv cv] 83))
  have HNW := hide ((unhide HN1).old ((Kept.refl [] w1).alloc (.cells #[.int .u64 (N.pl : Int), .slice av nv cv] 83)) (by simp))
  obtain ⟨W1, hW1⟩ : ∃ W, w1.alloc (.cells #[.int .u64 (N.pl : Int), .slice av nv cv] 83) = W := ⟨_, rfl⟩
  rw [hW1] at HZW HKW HFW HNW
  have HW1 := hide hW1
  clear hW1
  obtain ⟨d0, d1⟩ := bcells (unhide HZW)
  obtain ⟨f0, f1⟩ := bfroz (unhide HZW)
  obtain ⟨g0, g1⟩ := bcells (unhide HFW)
  rw [← unhide HW1] at d0 d1 f0 f1 g0 g1
  by_cases hkd : N.kind = 1
  · by_cases hpl : N.pl = i
    · have hkd' : ((N.kind : Int) != 1) = false := by simp [hkd]
      have hpl' : ((N.pl : Int) != (i : Int)) = false := by simp [hpl]
      have HPL := hide hpl
      have HKD := hide hkd
      clear hpl hkd
      go_wp2_with fail
      rw [unhide HW1]
      clear d0 d1 f0 f1 g0 g1
      refine Calls.mono (decodeBatch_any _ N.pay W1 (unhide HNW)) ?_
      rintro e w2 ⟨bv, rfl, nb, k2⟩
      obtain ⟨D, hD⟩ : ∃ D, decB N.pay = D := ⟨_, rfl⟩
      rw [hD] at nb HYE HOK ⊢
      clear hD
      obtain ⟨ab, nbl, cb, _, _, hbv, _⟩ := id nb.rdN
      subst hbv
      have HNB := hide nb
      have HZ2 := hide (k2.heap (unhide HZW) (by simp))
      have HK2 := hide ((unhide HKW).trans k2 (by simp))
      have HL2 := hide (Nat.le_trans (unhide HKW).size (Nat.le_refl _) : w.heap.size ≤ W1.heap.size)
      clear nb k2
      have HZX := hide (((Kept.refl [] w2).alloc (.cells #[.int .u64 (D.1 : Int), .slice ab nbl cb] 35)).heap (unhide HZ2) (by simp))
      have HKX := hide ((unhide HK2).alloc (.cells #[.int .u64 (D.1 : Int), .slice ab nbl cb] 35))
      have HBX := hide (heap_alloc_new w2 (.cells #[.int .u64 (D.1 : Int), .slice ab nbl cb] 35))
      have HNX := hide (((unhide HNB).kept ((Kept.refl [] w2).alloc (.cells #[.int .u64 (D.1 : Int), .slice ab nbl cb] 35)) (by simp)).weak (unhide HL2))
      obtain ⟨W2, hW2⟩ : ∃ W, w2.alloc (.cells #[.int .u64 (D.1 : Int), .slice ab nbl cb] 35) = W := ⟨_, rfl⟩
      rw [hW2] at HZX HKX HBX HNX
      have HW2 := hide hW2
      clear hW2
      obtain ⟨d0, d1⟩ := bcells (unhide HZX)
      obtain ⟨f0, f1⟩ := bfroz (unhide HZX)
      obtain ⟨g0, g1⟩ := bcells (unhide HBX)
      rw [← unhide HW2] at d0 d1 f0 f1 g0 g1
      by_cases he : D.2.2 = 0
      · by_cases hfi : D.1 = i
        · have he' : ((D.2.2 : Int) != 0) = false := by simp [he]
          have hfi' : ((D.1 : Int) != (i : Int)) = false := by simp [hfi]
          have HV := hide (unhide HYE (by rw [unhide HOK]; simp [unhide HKD, unhide HPL, he, hfi]))
          have HFI := hide hfi
          clear hfi he
          go_wp2
          rw [unhide HW2]
          refine bodyPost_ret (v := .tuple #[.agg #[.int .u64 (D.1 : Int), .slice ab nbl cb], .int .i64 N.next, .bool true]) ?_ rfl ⟨.slice ab nbl cb, by rw [(unhide HV).1, (unhide HV).2.1, (unhide HV).2.2.2, unhide HFI], ?_, put2_kept (unhide HKX) w.heap.size (Nat.le_refl _) _ _⟩
          · exact results_cell_tmp2 rfl _ _ w.heap.size _ #[.int .u64 (D.1 : Int), .slice ab nbl cb] (0, 0) _ rfl (put2_heap (unhide HZX) _ _) Tryz.underlying35 rfl Tryz.size_batch9 _ _ rfl rfl
          · rw [(unhide HV).2.2.1]
            refine (unhide HNB).kept (M := [w.heap.size]) ?_ ?_ |>.weak (unhide HL2)
            · rw [← unhide HW2]
              exact (((Kept.refl [w.heap.size] w2).alloc _).setCell (Or.inl (by simp)) _).setCell (Or.inl (by simp)) _
            · have := lt_of_block (unhide HZW); simpa using this
        · have he' : ((D.2.2 : Int) != 0) = false := by simp [he]
          have hfi' : ((D.1 : Int) != (i : Int)) = true := by rw [bne_iff_ne]; omega
          have HV := hide (unhide HNO (by rw [unhide HOK]; simp [hfi]))
          clear hfi he
          go_wp2
          rw [unhide HW2]
          refine bodyPost_ret (v := .tuple #[.agg #[.int .u64 0, .slice none 0 0], .int .i64 0, .bool false]) ?_ rfl ⟨.slice none 0 0, by rw [(unhide HV).1, (unhide HV).2.1, (unhide HV).2.2.2]; rfl, by rw [(unhide HV).2.2.1]; exact (NewN.nil _ _ (put2_kept (unhide HKX) w.heap.size (Nat.le_refl _) _ _).size), put2_kept (unhide HKX) w.heap.size (Nat.le_refl _) _ _⟩
          exact results_cell_tmp2 rfl _ _ w.heap.size _ #[.int .u64 0, .slice none 0 0] (0, 0) _ rfl (put2_heap (unhide HZX) _ _) Tryz.underlying35 rfl Tryz.size_batch9 _ _ rfl rfl
      · have he' : ((D.2.2 : Int) != 0) = true := by rw [bne_iff_ne]; omega
        have HV := hide (unhide HNO (by rw [unhide HOK]; simp [he]))
        clear he
        go_wp2
        rw [unhide HW2]
        refine bodyPost_ret (v := .tuple #[.agg #[.int .u64 0, .slice none 0 0], .int .i64 0, .bool false]) ?_ rfl ⟨.slice none 0 0, by rw [(unhide HV).1, (unhide HV).2.1, (unhide HV).2.2.2]; rfl, by rw [(unhide HV).2.2.1]; exact (NewN.nil _ _ (put2_kept (unhide HKX) w.heap.size (Nat.le_refl _) _ _).size), put2_kept (unhide HKX) w.heap.size (Nat.le_refl _) _ _⟩
        exact results_cell_tmp2 rfl _ _ w.heap.size _ #[.int .u64 0, .slice none 0 0] (0, 0) _ rfl (put2_heap (unhide HZX) _ _) Tryz.underlying35 rfl Tryz.size_batch9 _ _ rfl rfl
    · have hkd' : ((N.kind : Int) != 1) = false := by simp [hkd]
      have hpl' : ((N.pl : Int) != (i : Int)) = true := by rw [bne_iff_ne]; omega
      have HV := hide (unhide HNO (by rw [unhide HOK]; simp [hpl]))
      clear hpl hkd
      go_wp2
      rw [unhide HW1]
      refine bodyPost_ret (v := .tuple #[.agg #[.int .u64 0, .slice none 0 0], .int .i64 0, .bool false]) ?_ rfl ⟨.slice none 0 0, by rw [(unhide HV).1, (unhide HV).2.1, (unhide HV).2.2.2]; rfl, by rw [(unhide HV).2.2.1]; exact (NewN.nil _ _ (put2_kept (unhide HKW) w.heap.size (Nat.le_refl _) _ _).size), put2_kept (unhide HKW) w.heap.size (Nat.le_refl _) _ _⟩
      exact results_cell_tmp2 rfl _ _ w.heap.size _ #[.int .u64 0, .slice none 0 0] (0, 0) _ rfl (put2_heap (unhide HZW) _ _) Tryz.underlying35 rfl Tryz.size_batch9 _ _ rfl rfl
  · have hkd' : ((N.kind : Int) != 1) = true := by rw [bne_iff_ne]; omega
    have HV := hide (unhide HNO (by rw [unhide HOK]; simp [hkd]))
    clear hkd
    go_wp2
    rw [unhide HW1]
    refine bodyPost_ret (v := .tuple #[.agg #[.int .u64 0, .slice none 0 0], .int .i64 0, .bool false]) ?_ rfl ⟨.slice none 0 0, by rw [(unhide HV).1, (unhide HV).2.1, (unhide HV).2.2.2]; rfl, by rw [(unhide HV).2.2.1]; exact (NewN.nil _ _ (put2_kept (unhide HKW) w.heap.size (Nat.le_refl _) _ _).size), put2_kept (unhide HKW) w.heap.size (Nat.le_refl _) _ _⟩
    exact results_cell_tmp2 rfl _ _ w.heap.size _ #[.int .u64 0, .slice none 0 0] (0, 0) _ rfl (put2_heap (unhide HZW) _ _) Tryz.underlying35 rfl Tryz.size_batch9 _ _ rfl rfl

end Go.Proofs.YtckkalmhekfnhaaGreatDoor
namespace Go.Proofs.YtckkalmhekfnhaaGreatDoor
set_option linter.unusedVariables false
set_option linter.unusedSimpArgs false
theorem fuv_short (x : Nat) : ∀ k a n, n < (uv x).length → (fuv ((uv x).take n) k a).2 = 0 := by
  induction x using uv.induct with
  | case1 x h => intro k a n hn; rw [uv_lt h] at hn ⊢; simp at hn; subst hn; simp [fuv]
  | case2 x h ih =>
    intro k a n hn
    rw [uv_ge (by omega)] at hn ⊢
    cases n with
    | zero => simp [fuv]
    | succ n =>
      simp only [List.take_succ_cons, List.length_cons] at hn ⊢
      rw [fuv]
      split
      · rfl
      · rw [if_pos (by omega)]
        exact ih _ _ n (by omega)

theorem fuv_back (x : Nat) : ∀ k a r, x * 128 ^ k < 18446744073709551616 → k ≤ 9 → (0 < k → 0 < x) → fuv (uv x ++ r) k a = (a + x * 128 ^ k, k + (uv x).length) := by
  have h9 : (128 : Nat) ^ 9 = 9223372036854775808 := (by decide)
  induction x using uv.induct with
  | case1 x h =>
    intro k a r hx hk h0
    rw [uv_lt h]
    simp only [List.cons_append, List.nil_append, List.length_cons, List.length_nil]
    rw [fuv, if_neg, if_neg (by omega), if_neg (by omega), Nat.mod_eq_of_lt h]
    rintro ⟨rfl, h1⟩
    rw [h9] at hx
    have := h0 (by omega); omega
  | case2 x h ih =>
    intro k a r hx hk h0
    rw [uv_ge (by omega)]
    simp only [List.cons_append, List.length_cons]
    have hk9 : k ≠ 9 := by
      rintro rfl
      rw [h9] at hx
      omega
    have hpow : 128 ^ (k + 1) = 128 ^ k * 128 := Nat.pow_succ ..
    have hsum : x % 128 * 128 ^ k + x / 128 * 128 ^ (k + 1) = x * 128 ^ k := by
      rw [hpow, show x / 128 * (128 ^ k * 128) = (x / 128 * 128) * 128 ^ k from by rw [Nat.mul_comm (128 ^ k) 128, Nat.mul_assoc], ← Nat.add_mul]
      congr 1; omega
    rw [fuv, if_neg (by omega), if_pos (by omega), ih (k + 1) _ r (by omega) (by omega) (by omega)]
    have hm : (x % 128 + 128) % 128 = x % 128 := by omega
    rw [hm]
    simp only [Prod.mk.injEq]
    omega

theorem beL_wide (v : Nat) : ∀ n a, n ≤ 8 → a * 256 ^ n + v % 256 ^ n < 18446744073709551616 → (wide v n).foldl (fun a c => (a * 256 + c) % 18446744073709551616) a = a * 256 ^ n + v % 256 ^ n := by
  intro n
  induction n with
  | zero => intro a _ _; simp [wide, Nat.mod_one]
  | succ n ih =>
    intro a hn h
    have hpow : 256 ^ (n + 1) = 256 ^ n * 256 := Nat.pow_succ ..
    have hv : v % 256 ^ (n + 1) = v / 256 ^ n % 256 * 256 ^ n + v % 256 ^ n := by
      rw [hpow, Nat.mod_mul]
      rw [Nat.mul_comm (256 ^ n)]; omega
    have hpos : 0 < 256 ^ n := Nat.pow_pos (by omega)
    have e1 : a * 256 ^ (n + 1) = a * 256 * 256 ^ n := by rw [hpow, Nat.mul_comm (256 ^ n) 256, Nat.mul_assoc]
    have e2 : (a * 256 + v / 256 ^ n % 256) * 256 ^ n = a * 256 * 256 ^ n + v / 256 ^ n % 256 * 256 ^ n := Nat.add_mul ..
    have hle : a * 256 + v / 256 ^ n % 256 ≤ (a * 256 + v / 256 ^ n % 256) * 256 ^ n := Nat.le_mul_of_pos_right _ hpos
    simp only [wide, List.foldl_cons]
    rw [Nat.mod_eq_of_lt (by omega), ih _ (by omega) (by omega)]
    omega

theorem rNum_back {P : List Nat} {i v n : Nat} {r : List Nat} (hd : P.drop i = wide v n ++ r) (hn : n ≤ 8) (hv : v < 256 ^ n) : rNum P i 0 n = (v, i + n, 0) := by
  have h1 := congrArg List.length hd
  simp [wide_len] at h1
  have h2 : (P.drop i).take n = wide v n := by rw [hd]; simp [wide_len, List.take_append]
  have h3 : 256 ^ n ≤ 256 ^ 8 := Nat.pow_le_pow_right (by omega) hn
  have h4 : (256 : Nat) ^ 8 = 18446744073709551616 := (by decide)
  have h5 := beL_wide v n 0 hn (by rw [Nat.mod_eq_of_lt hv]; omega)
  simp only [Nat.zero_mul, Nat.zero_add, Nat.mod_eq_of_lt hv] at h5
  simp only [rNum, ne_eq, not_true_eq_false, if_false]
  rw [if_neg (by omega), h2]
  simp only [beL, h5]
theorem rNum_short {P : List Nat} {i n : Nat} (hd : (P.drop i).length < n) : rNum P i 0 n = (0, i, 3) := by
  simp at hd
  simp [rNum, hd]

theorem rUvar_back {P : List Nat} {i x : Nat} {r : List Nat} (hd : P.drop i = uv x ++ r) (hx : x < 18446744073709551616) : rUvar P i 0 = (x, i + (uv x).length, 0) := by
  have h := fuv_back x 0 0 r (by omega) (by omega) (by omega)
  have hp := uv_pos x
  simp only [rUvar, hd, h, ne_eq, not_true_eq_false, if_false]
  rw [if_neg (by omega)]; simp
theorem rRaw_back {P : List Nat} {i : Nat} {p r : List Nat} (hd : P.drop i = p ++ r) (hi : i ≤ P.length) : rRaw P i 0 p.length = (p, i + p.length, 0) := by
  have h1 := congrArg List.length hd
  simp at h1
  simp only [rRaw, ne_eq, not_true_eq_false, if_false]
  rw [if_neg (by omega), if_neg (by omega), hd]
  simp
theorem rBlob_back {P : List Nat} {i : Nat} {p r : List Nat} {m : Int} (hd : P.drop i = uv p.length ++ p ++ r) (hm : (p.length : Int) ≤ m) (hp : p.length < 18446744073709551616) : rBlob P i 0 m = (p, i + ((uv p.length).length + p.length), 0) := by
  have h := fuv_back p.length 0 0 (p ++ r) (by omega) (by omega) (by omega)
  rw [← List.append_assoc] at h
  have hq := uv_pos p.length
  simp only [rBlob, hd, h, ne_eq, not_true_eq_false, if_false, Nat.zero_add, Nat.pow_zero, Nat.mul_one]
  rw [if_neg (by omega), if_neg (by omega), if_neg (by omega), if_neg (by simp)]
  simp
theorem fold_form (r : List Nat) : ∀ a, (∀ y ∈ r, y < 256) → ∃ s, s < 256 ^ r.length ∧ r.foldl (fun a c => a * 256 + c) a = a * 256 ^ r.length + s := by
  induction r with
  | nil => intro a _; exact ⟨0, by simp, by simp⟩
  | cons c r ih =>
    intro a hb
    obtain ⟨s, hs, e⟩ := ih (a * 256 + c) (fun y hy => hb y (by simp [hy]))
    have hc := hb c (by simp)
    refine ⟨c * 256 ^ r.length + s, ?_, ?_⟩
    · simp only [List.length_cons]
      rw [Nat.pow_succ]
      have : c * 256 ^ r.length ≤ 255 * 256 ^ r.length := Nat.mul_le_mul (by omega) (Nat.le_refl _)
      omega
    · simp only [List.foldl_cons, List.length_cons]
      rw [e, Nat.pow_succ, Nat.add_mul, Nat.mul_comm (256 ^ r.length) 256, ← Nat.mul_assoc]; omega
theorem wide_fold (r : List Nat) : ∀ a, (∀ y ∈ r, y < 256) → wide (r.foldl (fun a c => a * 256 + c) a) r.length = r := by
  induction r with
  | nil => intro a _; rfl
  | cons c r ih =>
    intro a hb
    have hb' : ∀ y ∈ r, y < 256 := fun y hy => hb y (by simp [hy])
    have hc := hb c (by simp)
    obtain ⟨s, hs, e⟩ := fold_form r (a * 256 + c) hb'
    have h2 := ih (a * 256 + c) hb'
    simp only [List.foldl_cons, List.length_cons, wide]
    rw [h2, e]
    have hp : 0 < 256 ^ r.length := Nat.pow_pos (by omega)
    have : ((a * 256 + c) * 256 ^ r.length + s) / 256 ^ r.length = a * 256 + c := by
      rw [Nat.add_comm, Nat.add_mul_div_right _ _ hp, Nat.div_eq_of_lt hs, Nat.zero_add]
    rw [this]
    congr 1; omega
theorem fold_mod (r : List Nat) : ∀ a, (∀ y ∈ r, y < 256) → (a + 1) * 256 ^ r.length ≤ 18446744073709551616 → r.foldl (fun a c => (a * 256 + c) % 18446744073709551616) a = r.foldl (fun a c => a * 256 + c) a := by
  induction r with
  | nil => intro a _ _; rfl
  | cons c r ih =>
    intro a hb h
    have hc := hb c (by simp)
    simp only [List.foldl_cons]
    have hp : 0 < 256 ^ r.length := Nat.pow_pos (by omega)
    simp only [List.length_cons, Nat.pow_succ] at h
    have h2 : (a * 256 + c + 1) * 256 ^ r.length ≤ (a + 1) * (256 ^ r.length * 256) := by
      rw [Nat.mul_comm (256 ^ r.length) 256, ← Nat.mul_assoc]
      exact Nat.mul_le_mul (by omega) (Nat.le_refl _)
    have h3 : a * 256 + c + 1 ≤ (a * 256 + c + 1) * 256 ^ r.length := Nat.le_mul_of_pos_right _ hp
    rw [Nat.mod_eq_of_lt (by omega)]
    exact ih _ (fun y hy => hb y (by simp [hy])) (by omega)
theorem wide_beL {r : List Nat} (hb : ∀ y ∈ r, y < 256) (hl : r.length ≤ 8) : wide (beL r) r.length = r ∧ beL r < 256 ^ r.length := by
  have hpow : 256 ^ r.length ≤ 256 ^ 8 := Nat.pow_le_pow_right (by omega) hl
  have h8 : (256 : Nat) ^ 8 = 18446744073709551616 := (by decide)
  have e : beL r = r.foldl (fun a c => a * 256 + c) 0 := fold_mod r 0 hb (by omega)
  obtain ⟨s, hs, e2⟩ := fold_form r 0 hb
  rw [e]
  exact ⟨wide_fold r 0 hb, by rw [e2]; omega⟩

theorem rNum_one {P : List Nat} {i n v j : Nat} (h : rNum P i 0 n = (v, j, 0)) (hb : ∀ y ∈ P, y < 256) (hn : n ≤ 8) (hi : i ≤ P.length) : wide v n = (P.drop i).take n ∧ j = i + n ∧ j ≤ P.length ∧ v < 256 ^ n := by
  simp only [rNum, ne_eq, not_true_eq_false, if_false] at h
  split at h
  · simp at h
  · rename_i h1
    simp only [Prod.mk.injEq] at h
    obtain ⟨rfl, rfl, _⟩ := h
    have hl : ((P.drop i).take n).length = n := by simp; omega
    have := wide_beL (r := (P.drop i).take n) (fun y hy => hb y (List.mem_of_mem_drop (List.mem_of_mem_take hy))) (by omega)
    rw [hl] at this
    exact ⟨this.1, rfl, by omega, this.2⟩

theorem fuv_one (q : List Nat) : ∀ k a x s, (∀ y ∈ q, y < 256) → fuv q k a = (x, s) → s ≠ 0 → ∃ y, x = a + y * 128 ^ k ∧ k < s ∧ uv y = q.take (s - k) ∧ (0 < k → 0 < y) := by
  induction q with
  | nil => intro k a x s _ h hs; simp [fuv] at h; omega
  | cons c r ih =>
    intro k a x s hb h hs
    have hc := hb c (by simp)
    rw [fuv] at h
    split at h
    · simp at h; omega
    · split at h
      · rename_i h1 h2
        obtain ⟨y, hx, hk, hu, hy⟩ := ih (k + 1) _ x s (fun y hy => hb y (by simp [hy])) h hs
        have hy' := hy (by omega)
        refine ⟨y * 128 + c % 128, ?_, by omega, ?_, fun _ => by omega⟩
        · rw [hx, Nat.pow_succ, Nat.add_mul, Nat.mul_assoc, Nat.mul_comm 128 (128 ^ k)]; omega
        · rw [uv_ge (by omega)]
          have e1 : (y * 128 + c % 128) % 128 + 128 = c := by omega
          have e2 : (y * 128 + c % 128) / 128 = y := by omega
          rw [e1, e2, hu]
          rw [show s - k = (s - (k + 1)) + 1 from by omega, List.take_succ_cons]
      · split at h
        · simp at h; omega
        · rename_i h1 h2 h3
          simp only [Prod.mk.injEq] at h
          obtain ⟨rfl, rfl⟩ := h
          refine ⟨c, by rw [Nat.mod_eq_of_lt (by omega)], by omega, ?_, fun _ => by omega⟩
          rw [uv_lt (by omega), show k + 1 - k = 1 from by omega]
          simp

theorem rUvar_one {P : List Nat} {i v j : Nat} (h : rUvar P i 0 = (v, j, 0)) (hb : ∀ y ∈ P, y < 256) (hi : i ≤ P.length) : uv v = (P.drop i).take (j - i) ∧ i ≤ j ∧ j ≤ P.length ∧ v < 18446744073709551616 := by
  simp only [rUvar, ne_eq, not_true_eq_false, if_false] at h
  split at h
  · simp at h
  · rename_i h1
    simp only [Prod.mk.injEq] at h
    obtain ⟨rfl, rfl, _⟩ := h
    have hle := fuv_le (P.drop i) 0 0
    have hlt := fuv_lt (P.drop i) 0 0 (by decide) (by decide)
    obtain ⟨y, hx, hk, hu, _⟩ := fuv_one (P.drop i) 0 0 _ _ (fun y hy => hb y (List.mem_of_mem_drop hy)) (rfl : fuv (P.drop i) 0 0 = ((fuv (P.drop i) 0 0).1, (fuv (P.drop i) 0 0).2)) h1
    simp only [Nat.pow_zero, Nat.mul_one, Nat.zero_add, Nat.sub_zero] at hx hu
    simp at hle
    exact ⟨by rw [hx, hu]; congr 1; omega, by omega, by omega, hlt⟩

theorem rRaw_one {P : List Nat} {i j : Nat} {n : Int} {q : List Nat} (h : rRaw P i 0 n = (q, j, 0)) (hi : i ≤ P.length) : q = (P.drop i).take (j - i) ∧ i ≤ j ∧ j ≤ P.length := by
  simp only [rRaw, ne_eq, not_true_eq_false, if_false] at h
  split at h
  · simp at h
  · split at h
    · simp at h
    · rename_i h1 h2
      simp only [Prod.mk.injEq] at h
      obtain ⟨rfl, rfl, _⟩ := h
      exact ⟨by congr 1; omega, by omega, by omega⟩

theorem rBlob_one {P : List Nat} {i j : Nat} {n : Int} {q : List Nat} (h : rBlob P i 0 n = (q, j, 0)) (hb : ∀ y ∈ P, y < 256) (hi : i ≤ P.length) : uv q.length ++ q = (P.drop i).take (j - i) ∧ i ≤ j ∧ j ≤ P.length := by
  simp only [rBlob, ne_eq, not_true_eq_false, if_false] at h
  have hle := fuv_le (P.drop i) 0 0
  have hone := fuv_one (P.drop i) 0 0 _ _ (fun y hy => hb y (List.mem_of_mem_drop hy)) (rfl : fuv (P.drop i) 0 0 = ((fuv (P.drop i) 0 0).1, (fuv (P.drop i) 0 0).2))
  obtain ⟨x, s, hf⟩ : ∃ x s, fuv (P.drop i) 0 0 = (x, s) := ⟨_, _, rfl⟩
  rw [hf] at h hle hone
  simp only at h hle hone
  split at h
  · simp at h
  · split at h
    · simp at h
    · split at h
      · simp at h
      · split at h
        · simp at h
        · rename_i h1 h2 h3 h4
          simp only [Prod.mk.injEq] at h
          obtain ⟨rfl, rfl, _⟩ := h
          obtain ⟨y, hx, hk, hu, _⟩ := hone h2
          simp only [Nat.pow_zero, Nat.mul_one, Nat.zero_add, Nat.sub_zero] at hx hu
          subst hx
          simp only [List.length_drop] at hle h4
          have hl : (((P.drop i).drop s).take x).length = x := by simp; omega
          rw [hl, hu, show i + (s + x) - i = s + x from by omega]
          exact ⟨(List.take_add).symm, by omega, by omega⟩
end Go.Proofs.YtckkalmhekfnhaaGreatDoor
namespace Go.Proofs.YtckkalmhekfnhaaGreatDoor
open Go.RowKit
set_option linter.unusedVariables false
set_option linter.unusedSimpArgs false

theorem drop_next {P : List Nat} {i : Nat} {a r : List Nat} (h : P.drop i = a ++ r) : P.drop (i + a.length) = r := by
  rw [← List.drop_drop, h, List.drop_left]
theorem rBlob_len {P : List Nat} {i e j : Nat} {m : Nat} {q : List Nat} (h : rBlob P i e m = (q, j, 0)) : q.length ≤ m := by
  unfold rBlob at h
  split at h
  · rename_i h1; injection h with h2 h3; injection h3 with h3 h4; exact absurd h4 h1
  split at h
  · injection h with h2 h3; injection h3 with h3 h4; omega
  split at h
  · injection h with h2 h3; injection h3 with h3 h4; omega
  split at h
  · injection h with h2 h3; injection h3 with h3 h4; omega
  split at h
  · injection h with h2 h3; injection h3 with h3 h4; omega
  · rename_i h1 h2 h3 h4 h5
    injection h with h2 h3
    rw [← h2, List.length_take]; omega
theorem rBlob_held {P : List Nat} {i e : Nat} {m : Int} {q : List Nat} {j : Nat} (h : rBlob P i e m = (q, j, 0)) : e = 0 := by
  unfold rBlob at h
  split at h
  · rename_i h1; injection h with h2 h3; injection h3 with h3 h4
  · rename_i h1; exact Decidable.not_not.1 h1
theorem rUvar_held {P : List Nat} {i e v j : Nat} (h : rUvar P i e = (v, j, 0)) : e = 0 := by
  unfold rUvar at h
  split at h
  · rename_i h1; injection h with h2 h3; injection h3 with h3 h4
  · rename_i h1; exact Decidable.not_not.1 h1
theorem wide1 (k : Nat) (h : k < 256) : wide k 1 = [k] := by simp [wide, Nat.mod_eq_of_lt h]

theorem takeE_back {P : List Nat} {i : Nat} {e : En} {r : List Nat} (hd : P.drop i = enB e ++ r) (hc : chkE e = 0) : takeE P i = (e, i + (enB e).length, 0) := by
  obtain ⟨k, key, val⟩ := e
  unfold chkE at hc
  simp only at hc
  split at hc
  · omega
  rename_i hl
  split at hc
  · omega
  rename_i hk
  have hk' : k = 1 ∨ (k = 2 ∧ val = []) := by
    rcases (by omega : k = 1 ∨ (k = 2 ∧ val.length = 0)) with h | ⟨h, h0⟩
    · exact Or.inl h
    · exact Or.inr ⟨h, List.eq_nil_of_length_eq_zero h0⟩
  rcases hk' with rfl | ⟨rfl, rfl⟩
  · simp only [enB, if_true] at hd ⊢
    have n1 : rNum P i 0 1 = (1, i + 1, 0) := rNum_back (v := 1) (n := 1) (r := uv key.length ++ key ++ (uv val.length ++ val) ++ r) (by rw [hd]; simp [wide1]) (by decide) (by decide)
    have hd1 : P.drop (i + 1) = uv key.length ++ key ++ (uv val.length ++ val ++ r) := by
      have := drop_next (a := [1]) (r := uv key.length ++ key ++ (uv val.length ++ val) ++ r) (P := P) (i := i) (by rw [hd]; simp)
      rw [show i + 1 = i + [1].length from rfl, this]; simp
    have n2 : rBlob P (i + 1) 0 64 = (key, i + 1 + ((uv key.length).length + key.length), 0) := rBlob_back hd1 (by omega) (by omega)
    have hd2 : P.drop (i + 1 + ((uv key.length).length + key.length)) = uv val.length ++ val ++ r := by
      have := drop_next hd1
      rw [List.length_append] at this
      exact this
    have n3 : rBlob P (i + 1 + ((uv key.length).length + key.length)) 0 256 = (val, i + 1 + ((uv key.length).length + key.length) + ((uv val.length).length + val.length), 0) := rBlob_back hd2 (by omega) (by omega)
    unfold takeE
    simp only [n1, n2, n3]
    simp only [Nat.reduceMod, true_or, if_true, List.length_cons, List.length_append, Prod.mk.injEq, true_and, and_true]
    omega
  · simp only [enB] at hd ⊢
    rw [if_neg (by decide)] at hd ⊢
    have n1 : rNum P i 0 1 = (2, i + 1, 0) := rNum_back (v := 2) (n := 1) (r := uv key.length ++ key ++ r) (by rw [hd]; simp [wide1]) (by decide) (by decide)
    have hd1 : P.drop (i + 1) = uv key.length ++ key ++ r := by
      have := drop_next (a := [2]) (r := uv key.length ++ key ++ r) (P := P) (i := i) (by rw [hd]; simp)
      rw [show i + 1 = i + [2].length from rfl, this]
    have n2 : rBlob P (i + 1) 0 64 = (key, i + 1 + ((uv key.length).length + key.length), 0) := rBlob_back hd1 (by omega) (by omega)
    unfold takeE
    simp only [n1, n2]
    simp only [Nat.reduceMod, List.length_cons, List.length_append, List.length_nil]
    simp
    omega

theorem takeN_back {P : List Nat} : ∀ (es : List En) (i : Nat) (r : List Nat), P.drop i = entB es ++ r → (∀ e ∈ es, chkE e = 0) → takeN P i es.length = (es, i + (entB es).length, 0)
  | [], i, r, _, _ => by simp [takeN, entB]
  | e :: es, i, r, hd, hc => by
    have hd1 : P.drop i = enB e ++ (entB es ++ r) := by rw [hd]; simp [entB]
    have h1 := takeE_back hd1 (hc e (by simp))
    have h2 := takeN_back es _ r (drop_next hd1) (fun x hx => hc x (by simp [hx]))
    simp only [List.length_cons, takeN, h1, h2]
    simp [entB]
    omega
theorem fold_zero : ∀ es : List En, (∀ e ∈ es, chkE e = 0) → es.foldl (fun a e => leastE a (chkE e)) 0 = 0
  | [], _ => rfl
  | x :: xs, h => by
    rw [List.foldl_cons, h x (by simp)]
    exact fold_zero xs (fun e he => h e (by simp [he]))
theorem chkB_iff {f : Nat} {es : List En} : chkB f es = 0 ↔ cntE f es.length = 0 ∧ ∀ e ∈ es, chkE e = 0 := by
  refine ⟨fun h => foldl_zero es _ h, fun ⟨h1, h2⟩ => ?_⟩
  unfold chkB
  rw [h1]
  exact fold_zero es h2
theorem takeB_back {P : List Nat} {f : Nat} {es : List En} {r : List Nat} (hd : P = batB f es ++ r) (hc : chkB f es = 0) (hf : f < 18446744073709551616) : takeB P 0 = (f, es, (batB f es).length, 0) := by
  obtain ⟨c1, c2⟩ := chkB_iff.1 hc
  have hn : es.length ≤ 64 := by unfold cntE at c1; split at c1 <;> omega
  have hd0 : P.drop 0 = uv f ++ (uv es.length ++ (entB es ++ r)) := by rw [List.drop_zero, hd]; simp [batB]
  have n1 := rUvar_back hd0 hf
  have hd1 := drop_next hd0
  have n2 := rUvar_back hd1 (by omega)
  have n3 := takeN_back es _ r (drop_next hd1) c2
  unfold takeB
  simp only [n1, n2, n3, c1]
  simp [batB]
  omega

theorem rNum1_one {P : List Nat} {i x j : Nat} (h : rNum P i 0 1 = (x, j, 0)) (hb : ∀ y ∈ P, y < 256) (hi : i ≤ P.length) : [x] = (P.drop i).take 1 ∧ j = i + 1 ∧ j ≤ P.length ∧ x < 256 := by
  obtain ⟨h1, h2, h3, h4⟩ := rNum_one h hb (by decide) hi
  have h4' : x < 256 := by simpa using h4
  rw [wide1 x h4'] at h1
  exact ⟨h1, h2, h3, h4'⟩
theorem take_join (P : List Nat) {i j k : Nat} (h1 : i ≤ j) (h2 : j ≤ k) : (P.drop i).take (k - i) = (P.drop i).take (j - i) ++ (P.drop j).take (k - j) := by
  rw [show k - i = (j - i) + (k - j) by omega, List.take_add, List.drop_drop, show i + (j - i) = j by omega]
theorem takeE_one {P : List Nat} {i : Nat} {e : En} {j : Nat} (h : takeE P i = (e, j, 0)) (hb : ∀ y ∈ P, y < 256) (hi : i ≤ P.length) : enB e = (P.drop i).take (j - i) ∧ i ≤ j ∧ j ≤ P.length ∧ chkE e = 0 := by
  unfold takeE at h
  obtain ⟨⟨x, i1, e1⟩, hx⟩ : ∃ t, rNum P i 0 1 = t := ⟨_, rfl⟩
  rw [hx] at h
  simp only at h
  obtain ⟨⟨key, i2, e2⟩, hy⟩ : ∃ t, rBlob P i1 e1 64 = t := ⟨_, rfl⟩
  rw [hy] at h
  simp only at h
  split at h
  · split at h
    · rename_i h12 hk1
      obtain ⟨⟨val, i3, e3⟩, hz⟩ : ∃ t, rBlob P i2 e2 256 = t := ⟨_, rfl⟩
      rw [hz] at h
      simp only at h
      injection h with h1 h2
      injection h2 with h2 h3
      subst h2
      subst h3
      have he2 := rBlob_held hz
      subst he2
      have he1 := rBlob_held hy
      subst he1
      obtain ⟨a1, a2, a3, a4⟩ := rNum1_one hx hb hi
      obtain ⟨b1, b2, b3⟩ := rBlob_one hy hb a3
      obtain ⟨c1, c2, c3⟩ := rBlob_one hz hb b3
      have l1 := rBlob_len (m := 64) hy
      have l2 := rBlob_len (m := 256) hz
      have hx1 : x = 1 := by omega
      subst hx1
      subst h1
      refine ⟨?_, by omega, c3, ?_⟩
      · rw [take_join P (by omega : i ≤ i1) (by omega : i1 ≤ i3), take_join P b2 c2, show i1 - i = 1 by omega, ← a1, ← b1, ← c1]
        simp [enB]
      · unfold chkE
        simp only
        rw [if_neg (by omega), if_neg (by omega)]
    · rename_i h12 hk1
      injection h with h1 h2
      injection h2 with h2 h3
      subst h2
      subst h3
      have he1 := rBlob_held hy
      subst he1
      obtain ⟨a1, a2, a3, a4⟩ := rNum1_one hx hb hi
      obtain ⟨b1, b2, b3⟩ := rBlob_one hy hb a3
      have l1 := rBlob_len (m := 64) hy
      have hx1 : x = 2 := by omega
      subst hx1
      subst h1
      refine ⟨?_, by omega, b3, ?_⟩
      · rw [take_join P (by omega : i ≤ i1) (by omega : i1 ≤ i2), show i1 - i = 1 by omega, ← a1, ← b1]
        simp [enB]
      · unfold chkE
        simp only [List.length_nil]
        rw [if_neg (by omega), if_neg (by omega)]
  · injection h with h1 h2
    injection h2 with h2 h3
    omega

theorem takeN_one {P : List Nat} (hb : ∀ y ∈ P, y < 256) : ∀ (n i : Nat) (es : List En) (j : Nat), takeN P i n = (es, j, 0) → i ≤ P.length → entB es = (P.drop i).take (j - i) ∧ i ≤ j ∧ j ≤ P.length ∧ es.length = n ∧ ∀ e ∈ es, chkE e = 0
  | 0, i, es, j, h, hi => by
    simp only [takeN, Prod.mk.injEq, and_true] at h
    obtain ⟨rfl, rfl⟩ := h
    simp [entB, hi]
  | n + 1, i, es, j, h, hi => by
    obtain ⟨⟨e, i1, f1⟩, hx⟩ : ∃ t, takeE P i = t := ⟨_, rfl⟩
    simp only [takeN, hx] at h
    split at h
    · rename_i hf
      injection h with h1 h2
      injection h2 with h2 h3
      exact absurd h3 hf
    · rename_i hf
      have hf0 : f1 = 0 := Decidable.not_not.1 hf
      subst hf0
      obtain ⟨a1, a2, a3, a4⟩ := takeE_one hx hb hi
      obtain ⟨⟨es', j', f'⟩, hy⟩ : ∃ t, takeN P i1 n = t := ⟨_, rfl⟩
      rw [hy] at h
      injection h with h1 h2
      injection h2 with h2 h3
      simp only at h1 h2 h3
      subst h2
      subst h3
      obtain ⟨b1, b2, b3, b4, b5⟩ := takeN_one hb n i1 es' j' hy a3
      subst h1
      refine ⟨?_, by omega, b3, by simp [b4], ?_⟩
      · rw [take_join P a2 b2, ← a1, ← b1]; simp [entB]
      · intro x hx'
        rcases List.mem_cons.1 hx' with rfl | hx'
        · exact a4
        · exact b5 x hx'
theorem takeB_one {P : List Nat} {f j : Nat} {es : List En} (h : takeB P 0 = (f, es, j, 0)) (hb : ∀ y ∈ P, y < 256) : batB f es = P.take j ∧ j ≤ P.length ∧ chkB f es = 0 ∧ f < 18446744073709551616 := by
  unfold takeB at h
  obtain ⟨⟨x, i1, e1⟩, hx⟩ : ∃ t, rUvar P 0 0 = t := ⟨_, rfl⟩
  rw [hx] at h
  simp only at h
  obtain ⟨⟨n, i2, e2⟩, hy⟩ : ∃ t, rUvar P i1 e1 = t := ⟨_, rfl⟩
  rw [hy] at h
  simp only at h
  split at h
  · rename_i h1
    injection h with h2 h3; injection h3 with h3 h4; injection h4 with h4 h5
    exact absurd h5 h1
  rename_i he
  split at h
  · rename_i h1
    injection h with h2 h3; injection h3 with h3 h4; injection h4 with h4 h5
    exact absurd h5 h1
  rename_i hc
  have he0 : e2 = 0 := Decidable.not_not.1 he
  subst he0
  have he1 := rUvar_held hy
  subst he1
  injection h with h2 h3
  subst h2
  obtain ⟨a1, a2, a3, a4⟩ := rUvar_one hx hb (Nat.zero_le _)
  obtain ⟨b1, b2, b3, b4⟩ := rUvar_one hy hb a3
  obtain ⟨c1, c2, c3, c4, c5⟩ := takeN_one hb n i2 es j h3 b3
  refine ⟨?_, c3, chkB_iff.2 ⟨?_, c5⟩, a4⟩
  · have e0 := take_join P (Nat.zero_le i1) (by omega : i1 ≤ j)
    rw [List.drop_zero] at e0
    rw [show j = j - 0 by omega, e0, take_join P b2 c2, ← b1, ← c1]
    rw [List.drop_zero] at a1
    rw [← a1, ← c4]
    rfl
  · rw [c4]; exact Decidable.not_not.1 hc

theorem decB_one {P : List Nat} {f : Nat} {es : List En} (h : decB P = (f, es, 0)) (hb : ∀ y ∈ P, y < 256) : P = batB f es ∧ chkB f es = 0 ∧ f < 18446744073709551616 := by
  unfold decB at h
  obtain ⟨⟨f', es', j, e⟩, hx⟩ : ∃ t, takeB P 0 = t := ⟨_, rfl⟩
  rw [hx] at h
  simp only at h
  split at h
  · rename_i h1
    injection h with h2 h3; injection h3 with h3 h4
    exact absurd h4 h1
  rename_i he
  have he0 : e = 0 := Decidable.not_not.1 he
  subst he0
  obtain ⟨a1, a2, a3, a4⟩ := takeB_one hx hb
  split at h
  · rename_i h1
    injection h with h2 h3; injection h3 with h3 h4
    exact absurd h4 h1
  rename_i hd
  injection h with h2 h3; injection h3 with h3 h4
  subst h2
  subst h3
  refine ⟨?_, a3, a4⟩
  have hj : ¬ j < P.length := fun h9 => hd (by unfold doneE; rw [if_pos ⟨rfl, h9⟩]; decide)
  rw [a1, List.take_of_length_le (by omega)]
theorem decB_back {f : Nat} {es : List En} (hc : chkB f es = 0) (hf : f < 18446744073709551616) : decB (batB f es) = (f, es, 0) := by
  have h := takeB_back (P := batB f es) (r := []) (by simp) hc hf
  unfold decB
  rw [h]
  simp [doneE]
theorem decB_more {f : Nat} {es : List En} {r : List Nat} (hc : chkB f es = 0) (hf : f < 18446744073709551616) (hr : r ≠ []) : (decB (batB f es ++ r)).2.2 = 3 := by
  have h := takeB_back (P := batB f es ++ r) (r := r) rfl hc hf
  have hl : 0 < r.length := List.length_pos_iff.2 hr
  unfold decB
  rw [h]
  simp [doneE, hl]
theorem decB_less {f : Nat} {es : List En} {n : Nat} (hc : chkB f es = 0) (hf : f < 18446744073709551616) (hb : ∀ y ∈ batB f es, y < 256) (hn : n < (batB f es).length) : (decB ((batB f es).take n)).2.2 ≠ 0 := by
  intro h
  obtain ⟨⟨f', es', e⟩, hx⟩ : ∃ t, decB ((batB f es).take n) = t := ⟨_, rfl⟩
  rw [hx] at h
  simp only at h
  subst h
  obtain ⟨a1, a2, a3⟩ := decB_one hx (fun y hy => hb y (List.mem_of_mem_take hy))
  have h1 := takeB_back (P := batB f es) (r := []) (by simp) hc hf
  have h2 := takeB_back (P := batB f es) (r := (batB f es).drop n) (by rw [← a1, List.take_append_drop]) a2 a3
  rw [h1] at h2
  injection h2 with h3 h4; injection h4 with h4 h5; injection h5 with h5 h6
  have h7 := congrArg List.length a1
  rw [List.length_take] at h7
  omega

theorem decE_one {P : List Nat} {e : En} (h : decE P = (e, 0)) (hb : ∀ y ∈ P, y < 256) : P = enB e ∧ chkE e = 0 := by
  unfold decE at h
  obtain ⟨⟨e', j, f⟩, hx⟩ : ∃ t, takeE P 0 = t := ⟨_, rfl⟩
  rw [hx] at h
  simp only at h
  split at h
  · rename_i h1
    injection h with h2 h3
    exact absurd h3 h1
  rename_i he
  have he0 : f = 0 := Decidable.not_not.1 he
  subst he0
  obtain ⟨a1, a2, a3, a4⟩ := takeE_one hx hb (Nat.zero_le _)
  split at h
  · rename_i h1
    injection h with h2 h3
    exact absurd h3 h1
  rename_i hd
  injection h with h2 h3
  subst h2
  refine ⟨?_, a4⟩
  have hj : ¬ j < P.length := fun h9 => hd (by unfold doneE; rw [if_pos ⟨rfl, h9⟩]; decide)
  rw [a1, List.drop_zero, List.take_of_length_le (by omega)]
theorem decE_back {e : En} (hc : chkE e = 0) : decE (enB e) = (e, 0) := by
  have h := takeE_back (P := enB e) (i := 0) (r := []) (by simp) hc
  unfold decE
  rw [h]
  simp [doneE]
theorem decE_more {e : En} {r : List Nat} (hc : chkE e = 0) (hr : r ≠ []) : (decE (enB e ++ r)).2 = 3 := by
  have h := takeE_back (P := enB e ++ r) (i := 0) (r := r) rfl hc
  have hl : 0 < r.length := List.length_pos_iff.2 hr
  unfold decE
  rw [h]
  simp [doneE, hl]
theorem decE_less {e : En} {n : Nat} (hc : chkE e = 0) (hb : ∀ y ∈ enB e, y < 256) (hn : n < (enB e).length) : (decE ((enB e).take n)).2 ≠ 0 := by
  intro h
  obtain ⟨⟨e', f⟩, hx⟩ : ∃ t, decE ((enB e).take n) = t := ⟨_, rfl⟩
  rw [hx] at h
  simp only at h
  subst h
  obtain ⟨a1, a2⟩ := decE_one hx (fun y hy => hb y (List.mem_of_mem_take hy))
  have h1 := takeE_back (P := enB e) (i := 0) (r := []) (by simp) hc
  have h2 := takeE_back (P := enB e) (i := 0) (r := (enB e).drop n) (by rw [List.drop_zero, ← a1, List.take_append_drop]) a2
  rw [h1] at h2
  injection h2 with h3 h4; injection h4 with h4 h5
  have h7 := congrArg List.length a1
  rw [List.length_take] at h7
  omega
end Go.Proofs.YtckkalmhekfnhaaGreatDoor
namespace Go.Proofs.YtckkalmhekfnhaaGreatDoor
open Go.RowKit Go.BigFrame
set_option linter.unusedVariables false
set_option linter.unusedSimpArgs false

theorem batB_lenS {f : Nat} {es : List En} (h : chkB f es = 0) (hf : f < 18446744073709551616) : 0 < (batB f es).length ∧ (batB f es).length ≤ 30000 := by
  obtain ⟨h1, h2, _, h4⟩ := chkB_zero h
  have h5 := entB_len es h4
  have h6 := uv_len f hf
  have h7 := uv_len es.length (by omega)
  have h8 : 0 < (uv f).length := uv_pos f
  unfold batB
  simp only [List.length_append]
  omega
/-- The frame of a batch. -/
def sbB (f : Nat) (es : List En) : List Nat := if chkB f es = 0 then frB f (batB f es) else []

set_option maxRecDepth 100000 in
set_option maxHeartbeats 2000000 in
theorem segBatch_any (f : Nat) (v : Value) (es : List En) (w : World) (hf : f < 18446744073709551616) (h : RdN w v es) :
    Calls Tryz.prog 17 #[.agg #[.int .u64 f, v]] w fun r w' => ∃ v', r = .returned (.tuple #[v', .int .i64 (chkB f es)]) ∧ NewB w w' v' (sbB f es) ∧ Kept [] w w' := by
  have H := hide h
  obtain ⟨a1, n1, c1, _, _, rfl, _⟩ := id h
  clear h
  obtain ⟨B, hB⟩ : ∃ B, sbB f es = B := ⟨_, rfl⟩
  have HBB := hide hB.symm
  rw [hB]
  clear hB
  have HK0 := hide ((Kept.refl [] w).alloc (.cells #[.int .u64 f, .slice a1 n1 c1] 35))
  have HB0 := hide (heap_alloc_new w (.cells #[.int .u64 f, .slice a1 n1 c1] 35))
  obtain ⟨W1, hW1⟩ : ∃ W, w.alloc (.cells #[.int .u64 f, .slice a1 n1 c1] 35) = W := ⟨_, rfl⟩
  rw [hW1] at HK0 HB0
  have HW1 := hide hW1
  clear hW1
  obtain ⟨d0, d1⟩ := bcells (unhide HB0)
  rw [← unhide HW1] at d0 d1
  go_enter Tryz.func17, Tryz.ntmps17
  go_wp2_with fail
  rw [unhide HW1]
  clear d0 d1
  refine Calls.mono (encodeBatch_any f _ es W1 hf ((unhide H).old (unhide HK0))) ?_
  rintro e w2 ⟨v2, rfl, n2, k2⟩
  obtain ⟨a2, l2, c2, rfl, _⟩ := id n2.1
  have HN2 := hide n2
  have HK2 := hide ((unhide HK0).trans k2 (by simp))
  have HB2 := hide (k2.heap (unhide HB0) (by simp))
  clear n2 k2
  by_cases hc : chkB f es = 0
  · have HB := hide (by simp [sbB, hc] : sbB f es = frB f (batB f es))
    have HL := hide (batB_lenS hc hf)
    rw [if_pos hc] at HN2
    rw [hc]
    obtain ⟨d0, d1⟩ := bcells (unhide HB2)
    go_wp2_with fail
    refine Calls.mono (encode_any f _ (batB f es) w2 (unhide HN2).1 hf) ?_
    rintro e w3 ⟨v3, rfl, n3, k3⟩
    rw [encE_good (by have := (unhide HL).1; omega) (by have := (unhide HL).2; omega)]
    rw [encB_good (by have := (unhide HL).1; omega) (by have := (unhide HL).2; omega)] at n3
    have HN3 := hide n3
    have HK3 := hide ((unhide HK2).trans k3 (by simp))
    obtain ⟨a3, l3, c3, rfl, _⟩ := id n3.1
    clear n3 k3 d0 d1
    go_wp2
    go_ret2
    exact ⟨_, by rw [hc]; rfl, by rw [unhide HBB, unhide HB]; exact (unhide HN3).weak (unhide HK2).size, unhide HK3⟩
  · have HB := hide (by simp [sbB, hc] : sbB f es = [])
    have hc' : ((chkB f es : Int) != 0) = true := by rw [bne_iff_ne]; omega
    go_wp2
    go_ret2
    exact ⟨_, rfl, by rw [unhide HBB, unhide HB]; exact NewB.nil _ _, unhide HK2⟩
end Go.Proofs.YtckkalmhekfnhaaGreatDoor
