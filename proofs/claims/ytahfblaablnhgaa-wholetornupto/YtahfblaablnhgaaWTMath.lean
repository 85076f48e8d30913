import Derived.Test.YtahfblaablnhgaaLRun0
namespace Go.Proofs.Ytahfblaablnhgaa
open Go.RowKit Go.BigFrame
set_option linter.unusedVariables false
set_option linter.unusedSimpArgs false

theorem encE_gd {p : List Nat} (h1 : 1 ≤ p.length) (h2 : p.length ≤ 65535) : encE p = 0 := by unfold encE; rw [if_neg (by omega), if_neg (by omega)]
theorem encB_gd {pl : Nat} {p : List Nat} (h1 : 1 ≤ p.length) (h2 : p.length ≤ 65535) : encB pl p = frB pl p := by unfold encB; rw [encE_gd h1 h2]; rfl
/-- A payload as WholeTorn takes it. -/
def fixP (p : List Nat) : List Nat := if p.length = 0 then [0] else p.take 65535
theorem fixP_ok {p : List Nat} (h : ∀ x ∈ p, x < 256) : 1 ≤ (fixP p).length ∧ (fixP p).length ≤ 65535 ∧ ∀ x ∈ fixP p, x < 256 := by
  unfold fixP
  split
  · simp
  · rename_i h0
    refine ⟨by rw [List.length_take]; omega, by rw [List.length_take]; omega, fun x hx => h x (List.mem_of_mem_take hx)⟩
/-- The pieces of payloads, numbered from a on. -/
def pcs : Nat → List (List Nat) → List (Nat × List Nat)
  | _, [] => []
  | a, p :: r => (a, fixP p) :: pcs (a + 1) r
theorem pcs_len : ∀ (ps : List (List Nat)) (a : Nat), (pcs a ps).length = ps.length
  | [], _ => rfl
  | p :: r, a => by rw [pcs, List.length_cons, pcs_len r, List.length_cons]
theorem pcs_app : ∀ (ps qs : List (List Nat)) (a : Nat), pcs a (ps ++ qs) = pcs a ps ++ pcs (a + ps.length) qs
  | [], qs, a => by simp [pcs]
  | p :: r, qs, a => by
    rw [List.cons_append, pcs, pcs, pcs_app r qs (a + 1), List.cons_append, List.length_cons, show a + 1 + r.length = a + (r.length + 1) by omega]
theorem pcs_take (ps : List (List Nat)) (k : Nat) (h : k ≤ ps.length) : (pcs 0 ps).take k = pcs 0 (ps.take k) := by
  have e := pcs_app (ps.take k) (ps.drop k) 0
  rw [List.take_append_drop] at e
  rw [e, List.take_append_of_le_length (by rw [pcs_len, List.length_take]; omega), List.take_of_length_le (by rw [pcs_len, List.length_take]; omega)]
theorem pcs_snoc (ps : List (List Nat)) (i : Nat) (h : i < ps.length) : pcs 0 (ps.take (i + 1)) = pcs 0 (ps.take i) ++ [(i, fixP (ps.getD i []))] := by
  have e : ps.take (i + 1) = ps.take i ++ [ps.getD i []] := by
    rw [List.take_succ_eq_append_getElem h, List.getD_eq_getElem?_getD, List.getElem?_eq_getElem h]; rfl
  rw [e, pcs_app, List.length_take, Nat.min_eq_left (by omega), Nat.zero_add]
  rfl
theorem pcs_ok : ∀ (ps : List (List Nat)) (a : Nat), (∀ p ∈ ps, ∀ x ∈ p, x < 256) → a + ps.length < 18446744073709551616 → okP (pcs a ps)
  | [], _, _, _ => by intro x hx; simp [pcs] at hx
  | p :: r, a, hb, hl => by
    intro x hx
    rw [pcs] at hx
    rcases List.mem_cons.1 hx with rfl | hx
    · have h9 := fixP_ok (hb p (by simp))
      exact ⟨by simp at hl; simp; omega, h9.1, h9.2.1, h9.2.2⟩
    · exact pcs_ok r (a + 1) (fun q hq => hb q (by simp [hq])) (by simp at hl; omega) x hx
theorem run_bound : ∀ (ps : List (List Nat)) (a : Nat), (runB (pcs a ps)).length ≤ 19 * ps.length + ps.flatten.length
  | [], _ => by simp [pcs, runB]
  | p :: r, a => by
    have ih := run_bound r (a + 1)
    have e : runB (pcs a (p :: r)) = frB a (fixP p) ++ runB (pcs (a + 1) r) := by rw [pcs]; unfold runB; rw [List.map_cons, List.flatten_cons]
    have hf : (fixP p).length ≤ p.length + 1 := by
      unfold fixP
      split
      · simp
      · rw [List.length_take]; omega
    rw [e, List.length_append, frB_len, List.length_cons, List.flatten_cons, List.length_append]
    omega
theorem runB_byte {qs : List (Nat × List Nat)} (h : okP qs) : ∀ x ∈ runB qs, x < 256 := by
  intro x hx
  unfold runB at hx
  obtain ⟨l, hl, hxl⟩ := List.mem_flatten.1 hx
  obtain ⟨y, hy, rfl⟩ := List.mem_map.1 hl
  exact frB_byte (h y hy).2.2.2 x hxl
def endsL (ps : List (List Nat)) (i : Nat) : List Nat := (List.range i).map fun j => (runB (pcs 0 (ps.take (j + 1)))).length
theorem endsL_len (ps : List (List Nat)) (i : Nat) : (endsL ps i).length = i := by simp [endsL]
theorem endsL_snoc (ps : List (List Nat)) (i : Nat) : endsL ps (i + 1) = endsL ps i ++ [(runB (pcs 0 (ps.take (i + 1)))).length] := by simp [endsL, List.range_succ]
theorem endsL_get (ps : List (List Nat)) (n i : Nat) (h : i < n) : (endsL ps n).getD i 0 = (runB (pcs 0 (ps.take (i + 1)))).length := by
  unfold endsL
  rw [List.getD_eq_getElem?_getD, List.getElem?_map, List.getElem?_range h]
  rfl
theorem runB_step (ps : List (List Nat)) (i : Nat) (h : i < ps.length) : runB (pcs 0 (ps.take (i + 1))) = runB (pcs 0 (ps.take i)) ++ frB i (fixP (ps.getD i [])) := by
  rw [pcs_snoc ps i h, runB_app, runB_one]
/-- A run cut short, with noughts behind it: its whole frames are told. -/
theorem scan_cut {qs : List (Nat × List Nat)} (ho : okP qs) (left z k : Nat) (hk : k ≤ qs.length) (h1 : (runB (qs.take k)).length ≤ left) (h2 : left ≤ (runB qs).length) (h3 : k < qs.length → left < (runB (qs.take (k + 1))).length) :
    scanF ((runB qs).take left ++ List.replicate z 0) = (qs.take k, (runB (qs.take k)).length) := by
  have e : runB qs = runB (qs.take k) ++ runB (qs.drop k) := by rw [← runB_app, List.take_append_drop]
  have hok : okP (qs.take k) := fun x hx => ho x (List.mem_of_mem_take hx)
  have e2 : (runB qs).take left ++ List.replicate z 0 = runB (qs.take k) ++ ((runB (qs.drop k)).take (left - (runB (qs.take k)).length) ++ List.replicate z 0) := by
    rw [e, List.take_append, List.take_of_length_le h1, List.append_assoc]
  rw [e2]
  refine scanF_run hok ?_
  rcases Nat.lt_or_ge k qs.length with hlt | hge
  · have h4 := h3 hlt
    have e3 : qs.drop k = qs[k] :: qs.drop (k + 1) := List.drop_eq_getElem_cons hlt
    have e4 : runB (qs.take (k + 1)) = runB (qs.take k) ++ frB qs[k].1 qs[k].2 := by
      rw [List.take_succ_eq_append_getElem hlt, runB_app, runB_one]
    have hx := ho qs[k] (List.getElem_mem hlt)
    rw [e4, List.length_append, frB_len] at h4
    have e5 : runB (qs.drop k) = frB qs[k].1 qs[k].2 ++ runB (qs.drop (k + 1)) := by
      rw [e3]; unfold runB; rw [List.map_cons, List.flatten_cons]
    rw [e5, List.take_append_of_le_length (by rw [frB_len]; omega)]
    exact firstF_torn qs[k].1 qs[k].2 _ z hx.1 hx.2.2.1 hx.2.2.2 (by omega)
  · have e3 : qs.drop k = [] := List.drop_eq_nil_of_le hge
    rw [e3]
    have h9 := firstF_torn 0 [0] 0 z (by omega) (by simp) (by simp) (by simp)
    simpa [runB] using h9
end Go.Proofs.Ytahfblaablnhgaa
