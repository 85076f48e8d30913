import Derived.Test.YtkcanelboloihaaEMathR
import Derived.Laws.StructEq
namespace Go.Proofs.Ytkcanelboloihaa
open Go.RowKit Go.BigFrame
set_option linter.unusedVariables false
set_option linter.unusedSimpArgs false

theorem dig_eqd (d : Nat) (w : World) (a b : List Nat) (ha : a.length = 32) (hb : b.length = 32) : (Op.equalIn (d + 2) 29 (.agg (brow a)) (.agg (brow b))).run Try.prog w = .ok (decide (a = b)) w := by
  obtain ⟨i, hi, _⟩ := Option.map_eq_some_iff.1 Try.info5
  rw [run_equalIn_array w (d + 1) _ _ Try.underlying29 hi, List.range_eq_range', show Try.prog.cellsOf 5 = 1 from by kernel_rfl]
  exact eqItems_dig Try.prog w (by unfold Program.plainKey; rw [Try.underlying5]) Try.underlying5 d a b 32 ha hb 32 0 rfl

theorem Try.infoDig : (Try.prog.info? 29).map (·.size) = some 32 := by kernel_rfl
theorem part_dig (w : World) (xs : Array Value) (off : Nat) : (part 29 xs off).run Try.prog w = .ok (.agg (xs.extract off (off + 32))) w := by
  obtain ⟨i, hi, hs⟩ := Option.map_eq_some_iff.1 Try.infoDig
  have hc : Try.prog.cellsOf 29 = 32 := by kernel_rfl
  simp [part, isAgg, run_underlying Try.underlying29, run_sizeOf w hi, hs]
theorem root_parts (s : Nat) (l m : List Nat) (hl : l.length = 32) (hm : m.length = 32) : (rootC s l m).toArray[0]? = some (.int .u64 (s : Int)) ∧ (rootC s l m).toArray.extract 1 (1 + 32) = brow l ∧ (rootC s l m).toArray.extract 33 (33 + 32) = brow m := by
  refine ⟨rfl, ?_, ?_⟩
  · unfold rootC brow
    apply Array.toList_inj.1
    rw [Array.toList_extract]
    simp [List.extract, hl]
  · unfold rootC brow
    apply Array.toList_inj.1
    rw [Array.toList_extract]
    simp [List.extract, hl]
    rw [List.take_of_length_le (by simp [hm])]
theorem Try.rootFields : (Try.prog.fieldsOf 31).toList.map (fun f => (f.name, f.type, f.offset)) = [("Size", 27, 0), ("Log", 29, 1), ("Map", 29, 33)] := by kernel_rfl
theorem eqFields_three (d : Nat) (xs ys : Array Value) (fs : List Field) (n1 n2 n3 : String) (t1 t2 t3 : TypeId) (o1 o2 o3 : Nat) (h : fs.map (fun f => (f.name, f.type, f.offset)) = [(n1, t1, o1), (n2, t2, o2), (n3, t3, o3)]) : ∃ f1 f2 f3, fs = [f1, f2, f3] ∧ (f1.name = n1 ∧ f1.type = t1 ∧ f1.offset = o1) ∧ (f2.name = n2 ∧ f2.type = t2 ∧ f2.offset = o2) ∧ (f3.name = n3 ∧ f3.type = t3 ∧ f3.offset = o3) := by
  match fs, h with
  | [f1, f2, f3], h =>
    simp at h
    exact ⟨f1, f2, f3, rfl, h.1, h.2.1, h.2.2⟩
theorem root_eq (w : World) (s s' : Nat) (l m l' m' : List Nat) (hl : l.length = 32) (hm : m.length = 32) (hl' : l'.length = 32) (hm' : m'.length = 32) :
    (Op.equalIn 10000 31 (.agg (rootC s l m).toArray) (.agg (rootC s' l' m').toArray)).run Try.prog w = .ok (decide (s = s' ∧ l = l' ∧ m = m')) w := by
  obtain ⟨p0, p1, p2⟩ := root_parts s l m hl hm
  obtain ⟨q0, q1, q2⟩ := root_parts s' l' m' hl' hm'
  rw [run_equalIn_struct w 9999 31 _ _ (by kernel_rfl) (by kernel_rfl)]
  obtain ⟨f1, f2, f3, hf, ⟨a1, a2, a3⟩, ⟨b1, b2, b3⟩, ⟨c1, c2, c3⟩⟩ := eqFields_three 9999 #[] #[] _ _ _ _ _ _ _ _ _ _ Try.rootFields
  rw [hf]
  simp only [Op.eqFields, a1, a2, a3, b1, b2, b3, c1, c2, c3]
  rw [if_pos (by decide), if_pos (by decide), if_pos (by decide)]
  have hpl : Try.prog.plainKey 27 = true := by kernel_rfl
  simp only [Sem.run_bind, run_part_plain w hpl p0, run_part_plain w hpl q0, Result.andThen_ok, part_dig, p1, p2, q1, q2]
  rw [run_equalIn_int w 9998 27 _ _ _ _ Try.underlying27, Result.andThen_ok]
  by_cases hs : s = s'
  · have e1 : ((s : Int) == (s' : Int)) = true := by rw [hs]; simp
    rw [e1]
    simp only [Bool.not_true, Bool.false_eq_true, if_false, Sem.run_bind, part_dig, p1, p2, q1, q2, Result.andThen_ok]
    rw [dig_eqd 9997 w l l' hl hl', Result.andThen_ok]
    by_cases h2 : l = l'
    · rw [decide_eq_true h2]
      simp only [Bool.not_true, Bool.false_eq_true, if_false, Sem.run_bind, part_dig, p1, p2, q1, q2, Result.andThen_ok]
      rw [dig_eqd 9997 w m m' hm hm', Result.andThen_ok]
      by_cases h3 : m = m'
      · rw [decide_eq_true h3]; simp [hs, h2, h3]
      · rw [decide_eq_false h3]; simp [hs, h2, h3]
    · rw [decide_eq_false h2]; simp [hs, h2]
  · have e1 : ((s : Int) == (s' : Int)) = false := by rw [beq_eq_false_iff_ne]; omega
    rw [e1]; simp [hs]

theorem form_pad {z : Int} {l : List Nat} (h : formB z l = true) (hl : l.length = 32) : 1 ≤ z ∧ z ≤ 32 ∧ pad32 (l.take z.toNat) = l := by
  unfold formB at h
  simp only [Bool.and_eq_true, decide_eq_true_eq] at h
  have hw : 1 ≤ z ∧ z ≤ 32 := by simpa [widthB] using h.1
  refine ⟨hw.1, hw.2, ?_⟩
  have h2 := h.2
  unfold cutL at h2
  unfold pad32
  rw [List.length_take, hl, Nat.min_eq_left (by omega)]
  exact h2
theorem decR_back {z : Int} {s : Nat} {l m : List Nat} (hs : s < 18446744073709551616) (hl : l.length = 32) (hm : m.length = 32) (h : rootE z l m = 0) : decR z (rootW z.toNat s l m) = (s, l, m, 0) ∧ ((rootW z.toNat s l m).length : Int) = 8 + 2 * z := by
  unfold rootE at h
  split at h
  · omega
  split at h
  · omega
  split at h
  · omega
  rename_i h1 h2 h3
  have hw : 1 ≤ z ∧ z ≤ 32 := by simpa [widthB] using h1
  obtain ⟨_, _, p1⟩ := form_pad (z := z) (l := l) (by simpa using h2) hl
  obtain ⟨_, _, p2⟩ := form_pad (z := z) (l := m) (by simpa using h3) hm
  obtain ⟨k, rfl⟩ : ∃ k : Nat, z = k := ⟨z.toNat, by omega⟩
  rw [Int.toNat_natCast] at p1 p2 ⊢
  have l1 : (l.take k).length = k := by rw [List.length_take]; omega
  have l2 : (m.take k).length = k := by rw [List.length_take]; omega
  have hlen : (rootW k s l m).length = 8 + 2 * k := by unfold rootW; rw [List.length_append, List.length_append, wide_len, l1, l2]; omega
  refine ⟨?_, by rw [hlen]; omega⟩
  unfold decR
  rw [if_neg h1, if_neg (by rw [hlen]; simp), Int.toNat_natCast]
  have e1 : (rootW k s l m).take 8 = wide s 8 := by unfold rootW; rw [List.take_left' (wide_len s 8)]
  have e2 : (rootW k s l m).drop 8 = l.take k ++ m.take k := by unfold rootW; rw [List.drop_left' (wide_len s 8)]
  have e3 : (rootW k s l m).drop (8 + k) = m.take k := by rw [← List.drop_drop, e2, List.drop_left' l1]
  rw [e1, e2, e3, List.take_left' l1, List.take_of_length_le (l := m.take k) (by omega), p1, p2]
  have hbe : beL (wide s 8) = s := by
    have h9 := beL_wide s 8 0 (by decide) (by omega)
    unfold beL
    rw [h9]; omega
  rw [hbe]
end Go.Proofs.Ytkcanelboloihaa
