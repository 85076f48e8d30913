import Derived.Test.YtbbjbpjpejekgaaDoorRowz
namespace Go.Proofs.YtbbjbpjpejekgaaDoor
set_option linter.unusedVariables false
set_option linter.unusedSimpArgs false

/-- The register number j at round k, held at the place (64 - k + j) modulo 8. -/
structure Ring (rs : List Nat) (k : Nat) (s : Rg) : Prop where
  len : rs.length = 8
  a : rs.getD ((64 - k) % 8) 0 = s.a
  b : rs.getD ((64 - k + 1) % 8) 0 = s.b
  c : rs.getD ((64 - k + 2) % 8) 0 = s.c
  d : rs.getD ((64 - k + 3) % 8) 0 = s.d
  e : rs.getD ((64 - k + 4) % 8) 0 = s.e
  f : rs.getD ((64 - k + 5) % 8) 0 = s.f
  g : rs.getD ((64 - k + 6) % 8) 0 = s.g
  h : rs.getD ((64 - k + 7) % 8) 0 = s.h

theorem Ring.first {h : List Nat} (w : Wds h) : Ring h 0 (rg h) := ⟨w.1, rfl, rfl, rfl, rfl, rfl, rfl, rfl, rfl⟩

theorem Ring.step {rs : List Nat} {k : Nat} {s : Rg} (K W : Nat) (h : Ring rs k s) (hk : k < 64) :
    Ring ((rs.set ((64 - k + 3) % 8) ((s.d + t1 K W s) % 4294967296)).set ((64 - k + 7) % 8) ((t1 K W s + t2 s) % 4294967296)) (k + 1) (rnd K W s) := by
  have hl := h.len
  refine ⟨by simp [hl], ?_, ?_, ?_, ?_, ?_, ?_, ?_, ?_⟩
  · rw [show (64 - (k + 1)) % 8 = (64 - k + 7) % 8 by omega, getD_set_same _ _ _ (by simp only [List.length_set, hl]; omega)]; rfl
  · rw [show (64 - (k + 1) + 1) % 8 = (64 - k) % 8 by omega, getD_set_other _ _ _ _ (by omega), getD_set_other _ _ _ _ (by omega)]; exact h.a
  · rw [show (64 - (k + 1) + 2) % 8 = (64 - k + 1) % 8 by omega, getD_set_other _ _ _ _ (by omega), getD_set_other _ _ _ _ (by omega)]; exact h.b
  · rw [show (64 - (k + 1) + 3) % 8 = (64 - k + 2) % 8 by omega, getD_set_other _ _ _ _ (by omega), getD_set_other _ _ _ _ (by omega)]; exact h.c
  · rw [show (64 - (k + 1) + 4) % 8 = (64 - k + 3) % 8 by omega, getD_set_other _ _ _ _ (by omega), getD_set_same _ _ _ (by rw [hl]; omega)]; rfl
  · rw [show (64 - (k + 1) + 5) % 8 = (64 - k + 4) % 8 by omega, getD_set_other _ _ _ _ (by omega), getD_set_other _ _ _ _ (by omega)]; exact h.e
  · rw [show (64 - (k + 1) + 6) % 8 = (64 - k + 5) % 8 by omega, getD_set_other _ _ _ _ (by omega), getD_set_other _ _ _ _ (by omega)]; exact h.f
  · rw [show (64 - (k + 1) + 7) % 8 = (64 - k + 6) % 8 by omega, getD_set_other _ _ _ _ (by omega), getD_set_other _ _ _ _ (by omega)]; exact h.g

theorem eight_ext {l m : List Nat} (hl : l.length = 8) (hm : m.length = 8) (h : ∀ i, i < 8 → l.getD i 0 = m.getD i 0) : l = m := by
  apply List.ext_getElem (by omega)
  intro i h1 h2
  have := h i (by omega)
  rwa [List.getD_eq_getElem?_getD, List.getD_eq_getElem?_getD, List.getElem?_eq_getElem h1, List.getElem?_eq_getElem h2] at this

theorem Ring.last {h b rs hs : List Nat} (r : Ring rs 64 (rounds b (rg h) 64)) (hl : hs.length = 8) (hh : ∀ i, i < 8 → hs.getD i 0 = (h.getD i 0 + rs.getD i 0) % 4294967296) : hs = comp h b := by
  refine eight_ext hl (comp_wds h b).1 ?_
  have ra := r.a; have rb := r.b; have rc := r.c; have rd := r.d; have re := r.e; have rf := r.f; have rg' := r.g; have rh := r.h
  intro i hi
  rw [hh i hi]
  unfold comp addH
  rw [← ra, ← rb, ← rc, ← rd, ← re, ← rf, ← rg', ← rh]
  rcases i with _ | _ | _ | _ | _ | _ | _ | _ | i
  all_goals first | rfl | omega
end Go.Proofs.YtbbjbpjpejekgaaDoor
