import Derived.Test.YtejchncdimcdbaaGreatDoorCloned
namespace Go.Proofs.YtejchncdimcdbaaGreatDoor
open Go.RowKit
set_option linter.unusedVariables false
set_option linter.unusedSimpArgs false

/-- A Reader at the block b: over the bytes p, at the place i, with the fault e. -/
structure ReAt (w : World) (b : Nat) (gv : Value) (p : List Nat) (i e : Nat) : Prop where
  at_ : w.heap[b]? = some (.cells #[gv, .int .i64 i, .int .i64 e] 303 (0, 0))
  rd : Rd w gv p
  le : i ≤ p.length
  ne : b ∉ blk gv
theorem ReAt.c0 {w : World} {b : Nat} {gv : Value} {p : List Nat} {i e : Nat} (h : ReAt w b gv p i e) : w.cell? ⟨b, 0, none⟩ = some gv := by simp [World.cell?, h.at_]
theorem ReAt.c1 {w : World} {b : Nat} {gv : Value} {p : List Nat} {i e : Nat} (h : ReAt w b gv p i e) : w.cell? ⟨b, 1, none⟩ = some (.int .i64 i) := by simp [World.cell?, h.at_]
theorem ReAt.c2 {w : World} {b : Nat} {gv : Value} {p : List Nat} {i e : Nat} (h : ReAt w b gv p i e) : w.cell? ⟨b, 2, none⟩ = some (.int .i64 e) := by simp [World.cell?, h.at_]
theorem ReAt.free {w : World} {b : Nat} {gv : Value} {p : List Nat} {i e : Nat} (h : ReAt w b gv p i e) (o : Nat) : w.frozen? ⟨b, o, none⟩ = false := by simp [World.frozen?, h.at_]
theorem ReAt.lt {w : World} {b : Nat} {gv : Value} {p : List Nat} {i e : Nat} (h : ReAt w b gv p i e) : b < w.heap.size := lt_of_block h.at_
theorem ReAt.kept {L : List Nat} {w w' : World} {b : Nat} {gv : Value} {p : List Nat} {i e : Nat} (h : ReAt w b gv p i e) (k : Kept L w w') (hb : b ∉ L) (hv : ∀ x ∈ blk gv, x ∉ L) : ReAt w' b gv p i e :=
  ⟨k.heap h.at_ hb, h.rd.kept k hv, h.le, h.ne⟩
set_option maxRecDepth 100000 in
theorem rerr_any (b : Nat) (gv : Value) (p : List Nat) (i e : Nat) (w : World) (h : ReAt w b gv p i e) :
    Calls Tryz.prog 215 #[.pointer (some ⟨b, 0, none⟩)] w fun r w' => r = .returned (.int .i64 e) ∧ w' = w := by
  have c2 := h.c2
  clear h
  go_enter Tryz.func215, Tryz.ntmps215
  go_wp2
  go_ret
  exact ⟨rfl, rfl⟩
theorem addr_block (x : Addr) (i : Nat) : (x.add i).block = x.block := by unfold Addr.add; split <;> rfl
/-- A cut p[i:] reads as the rest. -/
theorem Rd.drop0 {w : World} {ao : Option Addr} {cap i : Nat} {p : List Nat} (h : Rd w (.slice ao p.length cap) p) (hc : cap = i) (hi : i ≤ p.length) : Rd w (.slice ao (p.length - i) 0) (p.drop i) := by
  obtain ⟨ao', len', cap', he, _, h2, ⟨h3, h3'⟩, h4, h5, h6⟩ := h
  cases he
  have e : p.length = i := by omega
  have ed : p.drop i = [] := List.drop_eq_nil_of_le (by omega)
  rw [ed]
  exact ⟨_, _, _, rfl, by simp; omega, by omega, ⟨by omega, by omega⟩, fun _ => rfl, by simp, fun hp => by omega⟩
theorem Rd.drop {w : World} {ao : Option Addr} {cap i : Nat} {p : List Nat} (h : Rd w (.slice ao p.length cap) p) (hi : i ≤ p.length) :
    Rd w (.slice (Option.map (fun x => x.add i) ao) (p.length - i) (cap - i)) (p.drop i) := by
  obtain ⟨ao', len', cap', he, _, h2, ⟨h3, h3'⟩, h4, h5, h6⟩ := h
  cases he
  refine ⟨_, _, _, rfl, by simp, by omega, ⟨by omega, by omega⟩, fun h => ?_, fun x hx => h5 x (List.mem_of_mem_drop hx), fun hp => ?_⟩
  · have := h4 (by simpa using h); omega
  · obtain ⟨b, off, rfl, hc⟩ := h6 (by omega)
    refine ⟨b, off + i, by simp [Addr.add_mid], fun j hj => ?_⟩
    have := hc (i + j) (by omega)
    rw [Nat.add_assoc, this]
    simp [List.getD_eq_getElem?_getD]
theorem blk_drop {ao : Option Addr} {n c n' c' i : Nat} : ∀ x ∈ blk (.slice (Option.map (fun x => x.add i) ao) n' c'), x ∈ blk (.slice ao n c) := by
  cases ao with
  | none => simp [blk]
  | some a => simp [blk, addr_block]
set_option maxRecDepth 100000 in
theorem rleft_any (b : Nat) (gv : Value) (p : List Nat) (i e : Nat) (w : World) (h : ReAt w b gv p i e) :
    Calls Tryz.prog 217 #[.pointer (some ⟨b, 0, none⟩)] w fun r w' => ∃ lv, r = .returned lv ∧ (∃ n, w' = w.drewN n) ∧ Rd w lv (p.drop i) ∧ ∀ x ∈ blk lv, x ∈ blk gv := by
  have c0 := h.c0
  have c1 := h.c1
  obtain ⟨_, hrd, hle, _⟩ := h
  have HR := hide hrd
  obtain ⟨ao, len, cap, rfl, rfl, h2, ⟨h3, h3'⟩, h4, h5, h6⟩ := hrd
  have i0 : (0 : Int) ≤ (i : Int) := by omega
  have i1 : (i : Int) ≤ (p.length : Int) := by omega
  have i2 : (p.length : Int) ≤ (cap : Int) := by omega
  clear h4 h5 h6
  go_enter Tryz.func217, Tryz.ntmps217
  go_wp2_with fail
  go_quiet (fail)
  all_goals go_wp2
  all_goals go_ret
  · exact ⟨_, rfl, ⟨_, rfl⟩, Rd.drop0 (unhide HR) (by assumption) (by omega), fun x hx => by cases ao <;> exact hx⟩
  · exact ⟨_, rfl, ⟨_, rfl⟩, Rd.drop (unhide HR) (by omega), blk_drop⟩
/-- What Done answers. -/
def doneE (p : List Nat) (i e : Nat) : Nat := if e = 0 ∧ i < p.length then 3 else e
set_option maxRecDepth 100000 in
theorem rdone_any (b : Nat) (gv : Value) (p : List Nat) (i e : Nat) (w : World) (h : ReAt w b gv p i e) :
    Calls Tryz.prog 167 #[.pointer (some ⟨b, 0, none⟩)] w fun r w' => r = .returned (.int .i64 (doneE p i e)) ∧ ∃ n, w' = w.drewN n := by
  have HR := hide h
  clear h
  by_cases he : e = 0
  · subst he
    by_cases hi : i < p.length
    · have hpos : (0 : Int) < (p.drop i).length := by simp; omega
      go_enter Tryz.func167, Tryz.ntmps167
      go_wp2_with (first | (go_at_call 215; go_must (refine (rerr_any b gv p i 0 _ (unhide HR)).mono ?_; rintro r w1 ⟨rfl, rfl⟩)) | (go_at_call 217; go_must (refine (rleft_any b gv p i 0 _ (unhide HR)).mono ?_; rintro r w1 ⟨lv, rfl, ⟨n, rfl⟩, ⟨ao, len, cap, rfl, rfl, _⟩, hb⟩; clear hb)))
      go_ret
      exact ⟨by simp [doneE, hi], _, rfl⟩
    · have hpos : ¬ (0 : Int) < (p.drop i).length := by simp; omega
      go_enter Tryz.func167, Tryz.ntmps167
      go_wp2_with (first | (go_at_call 215; go_must (refine (rerr_any b gv p i 0 _ (unhide HR)).mono ?_; rintro r w1 ⟨rfl, rfl⟩)) | (go_at_call 217; go_must (refine (rleft_any b gv p i 0 _ (unhide HR)).mono ?_; rintro r w1 ⟨lv, rfl, ⟨n, rfl⟩, ⟨ao, len, cap, rfl, rfl, _⟩, hb⟩; clear hb)))
      go_ret
      exact ⟨by simp [doneE, hi], _, rfl⟩
  · have he' : ((e : Int) != 0) = true := by rw [bne_iff_ne]; omega
    have Hn := hide he
    clear he
    go_enter Tryz.func167, Tryz.ntmps167
    go_wp2_with (go_at_call 215; go_must (refine (rerr_any b gv p i e _ (unhide HR)).mono ?_; rintro r w1 ⟨rfl, rfl⟩))
    go_ret
    exact ⟨by simp [doneE, unhide Hn], 0, rfl⟩
end Go.Proofs.YtejchncdimcdbaaGreatDoor
