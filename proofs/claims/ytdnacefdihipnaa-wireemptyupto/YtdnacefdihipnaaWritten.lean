import Derived.Test.YtdnacefdihipnaaLay
namespace Go.Proofs.Ytdnacefdihipnaa
open Go.RowKit
set_option linter.unusedVariables false
set_option linter.unusedSimpArgs false

/-- An Op, as data: its slice's value and the bytes that it reads as. -/
structure OpD where
  k : Int
  x : Nat
  n : Int
  pv : Value
  p : List Nat

/-- The bytes of a script. -/
def scriptB (ops : List OpD) : List Nat := ops.flatMap fun o => layB o.k o.x o.p

/-- A slice of Ops, as it lies in w. -/
def SRd (w : World) (v : Value) (ops : List OpD) : Prop :=
  ∃ (ao : Option Addr) (cap : Nat), v = .slice ao ops.length cap ∧ ops.length ≤ cap ∧ cap ≤ 9223372036854775807 ∧ ops.length ≤ 140737488355328 ∧
    (∀ o ∈ ops, o.x < 18446744073709551616 ∧ -9223372036854775808 ≤ o.k ∧ o.k ≤ 9223372036854775807 ∧ -9223372036854775808 ≤ o.n ∧ o.n ≤ 9223372036854775807 ∧ Rd w o.pv o.p) ∧
    (0 < ops.length → ∃ b off, ao = some ⟨b, off, none⟩ ∧ ∀ i o, ops[i]? = some o →
      w.cell? ⟨b, off + i * 4, none⟩ = some (.int .i64 o.k) ∧ w.cell? ⟨b, off + i * 4 + 1, none⟩ = some (.int .u64 o.x) ∧ w.cell? ⟨b, off + i * 4 + 2, none⟩ = some (.int .i64 o.n) ∧ w.cell? ⟨b, off + i * 4 + 3, none⟩ = some o.pv)

theorem SRd.old {L : List Nat} {w0 w : World} {v : Value} {ops : List OpD} (h : SRd w0 v ops) (k : Kept L w0 w) (hL : ∀ x ∈ L, w0.heap.size ≤ x) : SRd w v ops := by
  obtain ⟨ao, cap, rfl, h1, h2, h2', h3, h4⟩ := h
  refine ⟨ao, cap, rfl, h1, h2, h2', fun o ho => ?_, fun hp => ?_⟩
  · obtain ⟨a1, a2, a3, a4, a5, a6⟩ := h3 o ho
    exact ⟨a1, a2, a3, a4, a5, a6.old k hL⟩
  · obtain ⟨b, off, rfl, hc⟩ := h4 hp
    refine ⟨b, off, rfl, fun i o ho => ?_⟩
    obtain ⟨c0, c1, c2, c3⟩ := hc i o ho
    have hb : b ∉ L := fun hm => by have h7 := block_lt_of_cell c0; have h8 := hL b hm; simp at h7; omega
    exact ⟨k.cell c0 hb, k.cell c1 hb, k.cell c2 hb, k.cell c3 hb⟩

/-- A Writer that was made behind a turns nothing that was there at a. -/
theorem Kept.wr {b : Nat} {v : Value} {a w w' : World} (k : Kept [] a w) (h : Kept (b :: v.ownBlock.toList) w w') (hb : a.heap.size ≤ b) (hv : ∀ g, v.ownBlock = some g → a.heap.size ≤ g) : Kept [] a w' :=
  k.trans h (by intro x hx; right; simp only [List.mem_cons, Option.mem_toList] at hx; rcases hx with rfl | hx; exact hb; exact hv x hx)

theorem scriptB_append (a b : List OpD) : scriptB (a ++ b) = scriptB a ++ scriptB b := by simp [scriptB]
theorem scriptB_take_succ {ops : List OpD} {k : Nat} {o : OpD} (h : ops[k]? = some o) : scriptB (ops.take (k + 1)) = scriptB (ops.take k) ++ layB o.k o.x o.p := by
  obtain ⟨hk, rfl⟩ := List.getElem?_eq_some_iff.1 h
  rw [List.take_succ_eq_append_getElem hk, scriptB_append]; simp [scriptB]
theorem scriptB_le {ops : List OpD} (k : Nat) : (scriptB (ops.take k)).length ≤ (scriptB ops).length := by
  have h : scriptB ops = scriptB (ops.take k) ++ scriptB (ops.drop k) := by rw [← scriptB_append, List.take_append_drop]
  rw [h]; simp

set_option maxRecDepth 100000 in
set_option maxHeartbeats 2000000 in
theorem written_any (sv : Value) (ops : List OpD) (w : World) (hs : SRd w sv ops) (hl : (scriptB ops).length + 20 ≤ 70368744177664) (hp : ∀ o ∈ ops, o.p.length ≤ 70368744177664) :
    Calls Try.prog 26 #[sv] w fun e w' => ∃ g, e = .returned (.slice (some ⟨g, 0, none⟩) (scriptB ops).length (scriptB ops).length) ∧ w.heap.size ≤ g ∧
      w'.heap[g]? = some (.cells ((scriptB ops).map u8).toArray 5 (0, 0)) ∧ Kept [] w w' := by
  have HS := hide hs
  obtain ⟨ao, cap, rfl, h1, h2, h2', h3, h4⟩ := hs
  have HP := hide hp
  clear h3 h4 hp
  go_enter Try.func26, Try.ntmps26
  go_wp2_with fail
  go_loopw [5, 8] (fun t5 t8 wr => ∃ (k : Nat) (v : Value) (bs : List Nat), k ≤ ops.length ∧ t8 = .int .i64 k ∧ Hid (bs = scriptB (ops.take k)) ∧ Hid (WrAt wr w.heap.size v bs) ∧ Hid (Kept [] w wr) ∧ Hid (∀ g, v.ownBlock = some g → w.heap.size ≤ g)) (fun _ i _ => ops.length - (intOf i).toNat)
  case atStart => exact ⟨0, _, [], Nat.zero_le _, rfl, hide (by simp [scriptB]), WrAt.new w, (Kept.refl [] w).alloc _, hide (by simp [Value.ownBlock])⟩
  case round =>
    obtain ⟨k, v, bs, hk, rfl, Hb, HW, HK, HO⟩ := hrel
    by_cases hlt : k < ops.length
    · obtain ⟨ao', cap', he, _, _, _, h3, h4⟩ := (unhide HS).old (unhide HK) (by simp)
      cases he
      obtain ⟨b, off, rfl, hc⟩ := h4 (by omega)
      have hko : ops[k]? = some ops[k] := List.getElem?_eq_getElem hlt
      obtain ⟨c0, c1, c2, c3⟩ := hc k _ hko
      obtain ⟨a1, a2, a3, a4, a5, a6⟩ := h3 _ (List.getElem_mem hlt)
      have hrd := (unhide HS)
      obtain ⟨_, _, _, _, _, _, h3', _⟩ := hrd
      obtain ⟨_, _, _, _, _, hrd⟩ := h3' _ (List.getElem_mem hlt)
      have hpl := unhide HP _ (List.getElem_mem hlt)
      have hsucc := scriptB_take_succ hko
      have hle := scriptB_le (ops := ops) k
      rw [← unhide Hb] at hsucc hle
      have hm : ops[k] ∈ ops := List.getElem_mem hlt
      generalize ops[k] = o at *
      obtain ⟨ok, ox, on, opv, op⟩ := o
      simp only at c0 c1 c2 c3 a1 a2 a3 a4 a5 a6 hrd hpl hsucc
      obtain ⟨ao2, n2, c2', rfl⟩ : ∃ ao n c, opv = .slice ao n c := by obtain ⟨ao, n, c, rfl, _⟩ := hrd; exact ⟨ao, n, c, rfl⟩
      have HR := hide hrd
      have Hsucc := hide hsucc
      have hlt' : (k : Int) < (ops.length : Int) := by omega
      have a1' : (ox : Int) ≤ 18446744073709551615 := by omega
      have hbl : b < wr.heap.size := block_lt_of_cell c0
      clear h3 h4 hc h3' hrd hsucc hko a6 hm
      go_wp2_with fail
      refine (lay_any w.heap.size v bs ok ox on _ op _ (by exact (unhide HW).alloc _) (by exact fun w' k => (unhide HR).old (((unhide HK).alloc _).wr k (Nat.le_refl _) (unhide HO)) (by simp)) a1 (by omega)).mono ?_
      rintro e w1 ⟨rfl, v1, h1, k1⟩
      rw [← unhide Hsucc] at h1
      have HW1 := hide h1
      have HK1 := hide (((unhide HK).alloc _).wr k1.kept (Nat.le_refl _) (unhide HO))
      have HO1 := hide (k1.fresh (unhide HO) (by have := (unhide HK).size; simp; omega))
      clear h1 k1
      go_wp2
      go_roundw
      case rel => exact ⟨k + 1, v1, _, by omega, by go_num, rfl, HW1, HK1, HO1⟩
      case measure => simp [intOf]; omega
    · have hkn : k = ops.length := by omega
      subst hkn
      have hb := unhide Hb
      rw [List.take_length] at hb
      subst hb
      have hlt' : ¬ (ops.length : Int) < (ops.length : Int) := by omega
      go_wp2_with fail
      refine (wbytes_any w.heap.size v _ _ (unhide HW) (by omega)).mono ?_
      rintro e w1 ⟨rfl, k1, h1⟩
      have HK1 := hide ((unhide HK).trans k1 (by simp))
      have H1 := hide h1
      have hsz := (unhide HK).size
      clear h1 k1
      go_wp2
      go_ret
      exact ⟨wr.heap.size, rfl, hsz, unhide H1, unhide HK1⟩
end Go.Proofs.Ytdnacefdihipnaa
