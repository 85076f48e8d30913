import Derived.Test.YtgnbigijpneebaaDoorBunH
namespace Go.Proofs.YtgnbigijpneebaaDoor
open Go.RowKit Go.BigFrame
set_option linter.unusedVariables false
set_option linter.unusedSimpArgs false

theorem RdD.digs {w : World} {v : Value} {ds : List (List Nat)} (h : RdD w v ds) : ∀ d ∈ ds, d.length = 32 ∧ ∀ x ∈ d, x < 256 := by
  obtain ⟨_, _, _, _, _, _, _, h4, _⟩ := h; exact h4
theorem uv_pre : ∀ (a b : Nat) (x y : List Nat), uv a ++ x = uv b ++ y → a = b ∧ x = y := by
  intro a
  induction a using Nat.strongRecOn with
  | _ a ih =>
    intro b x y h
    by_cases ha : a < 128
    · by_cases hb : b < 128
      · rw [uv_lt ha, uv_lt hb] at h
        simpa using h
      · rw [uv_lt ha, uv_ge (by omega : 128 ≤ b)] at h
        simp at h
        omega
    · by_cases hb : b < 128
      · rw [uv_ge (by omega : 128 ≤ a), uv_lt hb] at h
        simp at h
        omega
      · rw [uv_ge (by omega : 128 ≤ a), uv_ge (by omega : 128 ≤ b)] at h
        simp only [List.cons_append, List.cons.injEq] at h
        obtain ⟨h1, h2⟩ := h
        obtain ⟨h3, h4⟩ := ih (a / 128) (by omega) (b / 128) x y h2
        exact ⟨by omega, h4⟩
theorem blob_pre (p q x y : List Nat) (h : uv p.length ++ (p ++ x) = uv q.length ++ (q ++ y)) : p = q ∧ x = y := by
  obtain ⟨h1, h2⟩ := uv_pre _ _ _ _ h
  exact List.append_inj h2 h1
theorem pairB_inj : ∀ (ps qs : List (List Nat × List Nat)), ps.length = qs.length → pairB ps = pairB qs → ps = qs := by
  intro ps
  induction ps with
  | nil => intro qs hl _; exact (List.eq_nil_of_length_eq_zero hl.symm).symm
  | cons a ps ih =>
    intro qs hl h
    cases qs with
    | nil => simp at hl
    | cons b qs =>
      have e : ∀ (c : List Nat × List Nat) cs, pairB (c :: cs) = uv c.1.length ++ (c.1 ++ (uv c.2.length ++ (c.2 ++ pairB cs))) := by
        intro c cs; simp [pairB]
      rw [e, e] at h
      obtain ⟨h1, h2⟩ := blob_pre _ _ _ _ h
      obtain ⟨h3, h4⟩ := blob_pre _ _ _ _ h2
      rw [ih qs (by simpa using hl) h4, Prod.ext h1 h3]
theorem buckB_inj (ps qs : List (List Nat × List Nat)) : buckB ps = buckB qs ↔ ps = qs := by
  constructor
  · intro h
    unfold buckB at h
    simp only [List.cons.injEq, true_and] at h
    obtain ⟨h1, h2⟩ := uv_pre _ _ _ _ h
    exact pairB_inj _ _ h1 h2
  · rintro rfl; rfl
theorem wideInj (n : Nat) : ∀ A B, A / 256 ^ n = B / 256 ^ n → wide A n = wide B n → A = B := by
  induction n with
  | zero => intro A B h _; simpa using h
  | succ n ih =>
    intro A B h hw
    simp only [wide, List.cons.injEq] at hw
    refine ih A B ?_ hw.2
    rw [Nat.pow_succ, ← Nat.div_div_eq_div_mul, ← Nat.div_div_eq_div_mul] at h
    have := hw.1
    omega
theorem form_take {z : Int} {l m : List Nat} (hl : formB z l = true) (hm : formB z m = true) (h : l.take z.toNat = m.take z.toNat) : l = m := by
  unfold formB at hl hm
  simp only [Bool.and_eq_true, decide_eq_true_eq] at hl hm
  rw [← hl.2, ← hm.2]
  unfold cutL
  rw [h]
theorem formedE_zero {z : Int} {ds : List (List Nat)} (h : formedE z ds = 0) : widthB z = true ∧ ∀ d ∈ ds, formB z d = true := by
  unfold formedE at h
  cases hw : widthB z with
  | false => rw [hw] at h; simp at h
  | true =>
    rw [hw] at h
    simp only [reduceIte, Bool.true_eq_false] at h
    by_cases ha : ds.all (formB z) = true
    · exact ⟨rfl, fun d hd => List.all_eq_true.1 ha d hd⟩
    · rw [if_neg ha] at h; omega
theorem two_takes {k : Nat} {l m l' m' : List Nat} (h1 : l.length = 32) (h2 : m.length = 32) (h3 : l'.length = 32) (h4 : m'.length = 32) (h : l.take k ++ m.take k = l'.take k ++ m'.take k) : l.take k = l'.take k ∧ m.take k = m'.take k :=
  List.append_inj h (by simp [h1, h3])
theorem kidsB_inj {z : Int} : ∀ (ds es : List (List Nat)), ds.length = es.length → (∀ d ∈ ds, d.length = 32) → (∀ d ∈ es, d.length = 32) → (∀ d ∈ ds, formB z d = true) → (∀ d ∈ es, formB z d = true) → kidsB z.toNat ds = kidsB z.toNat es → ds = es := by
  intro ds
  induction ds with
  | nil => intro es hl _ _ _ _ _; exact (List.eq_nil_of_length_eq_zero hl.symm).symm
  | cons a ds ih =>
    intro es hl l1 l2 f1 f2 h
    cases es with
    | nil => simp at hl
    | cons b es =>
      have e : ∀ (c : List Nat) cs, kidsB z.toNat (c :: cs) = c.take z.toNat ++ kidsB z.toNat cs := by intro c cs; simp [kidsB]
      rw [e, e] at h
      obtain ⟨h1, h2⟩ := List.append_inj h (by simp [l1 a (by simp), l2 b (by simp)])
      rw [ih es (by simpa using hl) (fun d hd => l1 d (by simp [hd])) (fun d hd => l2 d (by simp [hd])) (fun d hd => f1 d (by simp [hd])) (fun d hd => f2 d (by simp [hd])) h2,
        form_take (f1 a (by simp)) (f2 b (by simp)) h1]
theorem branchE_zero {z : Int} {x : Nat} {ds : List (List Nat)} (h : branchE z x ds = 0) : formedE z ds = 0 ∧ x ≠ 0 ∧ ones x = ds.length := by
  unfold branchE at h
  by_cases hf : formedE z ds = 0
  · rw [if_pos hf] at h
    by_cases hx : x = 0 ∨ ones x ≠ ds.length
    · rw [if_pos hx] at h; omega
    · refine ⟨hf, fun h9 => hx (Or.inl h9), ?_⟩
      by_cases h7 : ones x = ds.length
      · exact h7
      · exact absurd (Or.inr h7) hx
  · rw [if_neg hf] at h; exact absurd h hf
/-- Two things of one kind, alike. -/
def sameD (a b : OpD) : Prop :=
  if a.kd = 1 ∨ a.kd = 3 then a.p = b.p else if a.kd = 2 then a.l = b.l ∧ a.r = b.r else if a.kd = 4 then a.ps = b.ps else if a.kd = 5 then a.x = b.x ∧ a.ds = b.ds else a.s = b.s ∧ a.lg = b.lg ∧ a.mp = b.mp
instance (a b : OpD) : Decidable (sameD a b) := by unfold sameD; infer_instance
def tagOf (k : Int) : Nat := if k = 1 then 0 else if k = 2 then 1 else if k = 3 then 2 else if k = 4 then 3 else if k = 5 then 4 else 6
theorem inB_head (a : OpD) : ∃ t, inB a = tagOf a.kd :: t := by
  unfold inB tagOf
  split
  · exact ⟨_, rfl⟩
  split
  · exact ⟨_, rfl⟩
  split
  · exact ⟨_, rfl⟩
  split
  · exact ⟨_, rfl⟩
  split
  · exact ⟨_, rfl⟩
  exact ⟨_, rfl⟩
theorem inB_iff {w : World} {a b : OpD} {pa ka da pb kb db : Value} (ha : OkD w a pa ka da) (hb : OkD w b pb kb db) (hz : a.z = b.z) (ka' : 1 ≤ a.kd ∧ a.kd ≤ 6) (kb' : 1 ≤ b.kd ∧ b.kd ≤ 6) (ea : inE a = 0) (eb : inE b = 0) :
    inB a = inB b ↔ a.kd = b.kd ∧ sameD a b := by
  by_cases hk : a.kd = b.kd
  · have hne : (a.kd = b.kd ∧ sameD a b) ↔ sameD a b := by simp [hk]
    rw [hne]
    unfold sameD
    unfold inE at ea eb
    unfold inB
    rw [← hk] at eb ⊢
    rcases (by omega : a.kd = 1 ∨ a.kd = 2 ∨ a.kd = 3 ∨ a.kd = 4 ∨ a.kd = 5 ∨ a.kd = 6) with h | h | h | h | h | h
    · simp [h]
    · simp only [h] at ea eb ⊢
      simp at ea eb ⊢
      unfold nodeB
      rw [← hz] at eb ⊢
      obtain ⟨_, fa⟩ := formedE_zero ea
      obtain ⟨_, fb⟩ := formedE_zero eb
      constructor
      · intro h9
        simp only [List.cons.injEq, true_and] at h9
        obtain ⟨h1, h2⟩ := two_takes ha.l.1 ha.r.1 hb.l.1 hb.r.1 h9
        exact ⟨form_take (fa _ (by simp)) (fb _ (by simp)) h1, form_take (fa _ (by simp)) (fb _ (by simp)) h2⟩
      · rintro ⟨h1, h2⟩; rw [h1, h2]
    · simp [h]
    · simp [h, buckB_inj]
    · simp only [h] at ea eb ⊢
      simp at ea eb ⊢
      unfold branchB
      rw [← hz] at eb ⊢
      obtain ⟨ea1, _, ea3⟩ := branchE_zero ea
      obtain ⟨eb1, _, eb3⟩ := branchE_zero eb
      obtain ⟨_, fa⟩ := formedE_zero ea1
      obtain ⟨_, fb⟩ := formedE_zero eb1
      constructor
      · intro h9
        simp only [List.cons_append, List.cons.injEq, true_and] at h9
        obtain ⟨h1, h2⟩ := List.append_inj h9 (by simp [wide_len])
        have hx : a.x = b.x := wideInj 2 _ _ (by have := ha.x; have := hb.x; omega) h1
        refine ⟨hx, kidsB_inj _ _ (by rw [← ea3, ← eb3, hx]) (fun d hd => (ha.ds.digs d hd).1) (fun d hd => (hb.ds.digs d hd).1) fa fb h2⟩
      · rintro ⟨h1, h2⟩; rw [h1, h2]
    · simp only [h] at ea eb ⊢
      simp at ea eb ⊢
      unfold rootB
      rw [← hz] at eb ⊢
      obtain ⟨_, fa⟩ := formedE_zero ea
      obtain ⟨_, fb⟩ := formedE_zero eb
      constructor
      · intro h9
        simp only [List.cons.injEq, true_and] at h9
        obtain ⟨h1, h2⟩ := List.append_inj h9 (by simp [wide_len])
        have hs : a.s = b.s := wideInj 8 _ _ (by have := ha.s; have := hb.s; omega) h1
        obtain ⟨h3, h4⟩ := two_takes ha.lg.1 ha.mp.1 hb.lg.1 hb.mp.1 h2
        exact ⟨hs, form_take (fa _ (by simp)) (fb _ (by simp)) h3, form_take (fa _ (by simp)) (fb _ (by simp)) h4⟩
      · rintro ⟨h1, h2, h3⟩; rw [h1, h2, h3]
  · constructor
    · intro h9
      obtain ⟨t, ht⟩ := inB_head a
      obtain ⟨t', ht'⟩ := inB_head b
      rw [ht, ht'] at h9
      simp only [List.cons.injEq] at h9
      have h8 := h9.1
      unfold tagOf at h8
      exfalso
      revert h8
      rcases (by omega : a.kd = 1 ∨ a.kd = 2 ∨ a.kd = 3 ∨ a.kd = 4 ∨ a.kd = 5 ∨ a.kd = 6) with h | h | h | h | h | h <;>
      rcases (by omega : b.kd = 1 ∨ b.kd = 2 ∨ b.kd = 3 ∨ b.kd = 4 ∨ b.kd = 5 ∨ b.kd = 6) with h' | h' | h' | h' | h' | h' <;>
      simp_all
    · rintro ⟨h9, _⟩; exact absurd h9 hk
end Go.Proofs.YtgnbigijpneebaaDoor
