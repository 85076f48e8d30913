import Derived.Test.YtlopdlcepmmjdaaDk24
import Derived.Test.YtlopdlcepmmjdaaDk27
namespace Go.Proofs.Ytlopdlcepmmjdaa
open Go.RowKit Go.BigFrame Go.Maps Go.Sort
set_option linter.unusedVariables false
set_option linter.unusedSimpArgs false

theorem cutN_sub (A : List DF) : ∀ k, (cutN k A).Sublist A := by
  induction A with
  | nil => intro k; simp [cutN]
  | cons f r ih =>
    intro k
    cases hn : f.nd
    · cases k with
      | zero => rw [show cutN 0 (f :: r) = cutN 0 r by simp [cutN, hn]]; exact (ih 0).cons _
      | succ k => rw [show cutN (k + 1) (f :: r) = f :: cutN k r by simp [cutN, hn]]; exact (ih k).cons_cons _
    · rw [show cutN k (f :: r) = f :: cutN k r by cases k <;> simp [cutN, hn]]; exact (ih k).cons_cons _
theorem setF_len (k : KeepD) (sec : Nat) (f : DF) (hs : 1 ≤ sec) (hs2 : sec ≤ 4096) : (setF k sec f).bs.length ≤ f.bs.length + 4096 := by
  unfold setF
  split
  · simp only [List.length_append, List.length_take, List.length_replicate]
    have : tse (setN k f) sec < sec := Nat.mod_lt _ (by omega)
    omega
  · simp only [List.length_take]
    omega
theorem dist_sub {A C : List DF} (h : C.Sublist A) (hd : Dist A) : Dist C := hd.sublist h
theorem setA_nm (ks : List KeepD) (sec : Nat) (A : List DF) : (setA ks sec A).map DF.nm = A.map DF.nm := by
  unfold setA
  rw [List.map_map]
  apply List.map_congr_left
  intro a _
  exact setF_nm _ _ _

theorem restart_D (d nb bb : Nat) (B : List Nat) (σ : DSt) (n : Int) (kv : Value) (ks : List KeepD) (w : World) (h : DK w d B nb bb σ) (hn : nb ≤ 1000000000) (hb : bb ≤ 140737488350000) (hks : RdC 3 w kv (ks.map keC)) (hkd : ∀ x ∈ zblk kv (ks.map keC), x ∉ B) (hkn : ∀ k ∈ ks, k.nm.size ≤ 140737488355328) (hkl : ks.length ≤ 1000000000) :
    Calls Try.prog 27 #[.pointer (some ⟨d, 0, none⟩), .agg #[.int .i64 n, kv]] w fun e w' => ∃ B', e = .returned (.tuple #[]) ∧ DK w' d B' nb (bb + 4096) (stRestart σ n ks) ∧ Ev w w' B B' := by
  obtain ⟨sec, cr, op, off, ft, A⟩ := σ
  obtain ⟨⟨m, u, fv, fs, h1, rfl, hA⟩, h2, h3, h4, h5, h6, h7⟩ := h
  dsimp only at *
  subst hA
  refine Calls.mono (restart_any d sec m nb n kv ks w u fv cr op off ft fs h1 h2 hks hkd hkn hkl (by rw [List.length_map] at h4; omega) (fun f hf => Nat.le_trans (h5 (absF f) (List.mem_map.2 ⟨f, hf, rfl⟩)) hb) (fun f hf => (isNm_size (h7 (absF f) (List.mem_map.2 ⟨f, hf, rfl⟩))).2) h6.1 h6.2) ?_
  rintro e w' ⟨gs, rfl, hD, hG, hK, hN⟩
  refine ⟨_, rfl, ⟨⟨m, _, _, gs, hD, rfl, hG.symm⟩, ?_, ⟨by simp [stRestart], by simp [stRestart]⟩, ?_, ?_, h6, ?_⟩, hK, hN⟩
  · simp only [stRestart]
    rw [dist_iff, setA_nm]
    exact (dist_iff _).1 (dist_sub (cutN_sub _ _) h2)
  · simp only [stRestart, setA, List.length_map]
    exact Nat.le_trans (cutN_sub _ _).length_le h4
  · intro f hf
    simp only [stRestart, setA] at hf
    obtain ⟨a, ha, rfl⟩ := List.mem_map.1 hf
    have := h5 a ((cutN_sub _ _).subset ha)
    have := setF_len ((fstK ks a.nm.data.toList).getD zK) sec a h6.1 h6.2
    omega
  · intro f hf
    simp only [stRestart, setA] at hf
    obtain ⟨a, ha, rfl⟩ := List.mem_map.1 hf
    rw [setF_nm]
    exact h7 a ((cutN_sub _ _).subset ha)

def nmsOf (σ : DSt) : List (List UInt8) := if σ.off then [] else srtN σ.A

set_option maxRecDepth 100000 in
set_option maxHeartbeats 1000000 in
theorem namesOf_D (d nb bb : Nat) (B : List Nat) (σ : DSt) (w : World) (h : DK w d B nb bb σ) (hn : nb ≤ 1000000000) :
    Calls Try.prog 33 #[.pointer (some ⟨d, 0, none⟩)] w fun e w' => ∃ v, e = .returned v ∧ w'.ownsRow w.heap.size 9 1 v (nmsOf σ).length ((nmsOf σ).map encStr) ∧ Kept [] w w' := by
  obtain ⟨sec, cr, op, off, ft, A⟩ := σ
  obtain ⟨⟨m, u, fv, fs, h1, rfl, hA⟩, h2, h3, h4, h5, h6, h7⟩ := h
  dsimp only at *
  subst hA
  have HD := hide h1
  have HDI := hide h2
  clear h1 h2 h4 h5 h7
  cases off
  · show Calls Try.prog 33 #[.pointer (some ⟨d, 0, none⟩)] w fun e w' => ∃ v, e = .returned v ∧ w'.ownsRow w.heap.size 9 1 v (srtN (fs.map absF)).length ((srtN (fs.map absF)).map encStr) ∧ Kept [] w w'
    have HSO := hide (sorted_any d sec m nb w u fv cr op false ft fs (unhide HD) (unhide HDI) hn)
    generalize srtN (fs.map absF) = SS at HSO ⊢
    go_enter Try.func33, Try.ntmps33
    go_wp2_with fail
    refine Calls.mono (power_any d w sec m u fv cr op false (unhide HD).row) ?_
    rintro e w1 ⟨rfl, rfl⟩
    simp only [Bool.false_eq_true, if_false]
    go_wp2_with fail
    refine Calls.mono (unhide HSO) ?_
    rintro e w2 ⟨v, rfl, ho, hk⟩
    have H1 := hide ho
    have H2 := hide hk
    clear ho hk
    go_wp2_with fail
    go_ret
    exact ⟨v, rfl, unhide H1, unhide H2⟩
  · show Calls Try.prog 33 #[.pointer (some ⟨d, 0, none⟩)] w fun e w' => ∃ v, e = .returned v ∧ w'.ownsRow w.heap.size 9 1 v 0 [] ∧ Kept [] w w'
    go_enter Try.func33, Try.ntmps33
    go_wp2_with fail
    refine Calls.mono (power_any d w sec m u fv cr op true (unhide HD).row) ?_
    rintro e w1 ⟨rfl, rfl⟩
    simp only [if_true]
    go_wp2_with fail
    go_ret
    exact ⟨_, rfl, World.ownsRow_nil _ _ _ _, Kept.refl _ _⟩

theorem new_D (sec : Nat) (w : World) (h1 : 1 ≤ sec) (h2 : sec ≤ 4096) :
    Calls Try.prog 8 #[.int .i64 sec, .slice none 0 0] w fun e w' => ∃ d B, e = .returned (.tuple #[.pointer (some ⟨d, 0, none⟩), .int .i64 0]) ∧ DK w' d B 0 0 ⟨sec, 0, 0, false, fun _ => none, []⟩ ∧ Kept [] w w' ∧ ∀ x ∈ B, w.heap.size ≤ x := by
  refine Calls.mono (new_any sec w h1 h2) ?_
  rintro e w' ⟨d, m, rfl, hd, hm, hD, hK⟩
  refine ⟨d, _, rfl, ⟨⟨m, _, _, [], hD, rfl, rfl⟩, List.Pairwise.nil, ⟨by simp, by simp⟩, by simp, by simp, ⟨h1, h2⟩, by simp⟩, hK, ?_⟩
  intro x hx
  simp [dkB, blk, mblk] at hx
  rcases hx with rfl | rfl
  · exact hd
  · exact hm

set_option maxRecDepth 100000 in
set_option maxHeartbeats 1000000 in
theorem newM_D (sec : Nat) (w : World) (h1 : 1 ≤ sec) (h2 : sec ≤ 4096) :
    Calls Try.prog 15 #[.int .i64 sec] w fun e w' => ∃ d B, e = .returned (.tuple #[.pointer (some ⟨d, 0, none⟩), .int .i64 0]) ∧ DK w' d B 0 0 ⟨sec, 0, 0, false, fun _ => none, []⟩ ∧ Kept [] w w' ∧ ∀ x ∈ B, w.heap.size ≤ x := by
  have HN := hide (new_D sec w h1 h2)
  go_enter Try.func15, Try.ntmps15
  go_wp2_with fail
  refine Calls.mono (unhide HN) ?_
  rintro e w' ⟨d, B, rfl, hd, hk, hb⟩
  have H1 := hide hd
  have H2 := hide hk
  have H3 := hide hb
  clear hd hk hb
  go_wp2_with fail
  go_ret2
  exact ⟨d, B, rfl, unhide H1, unhide H2, unhide H3⟩
end Go.Proofs.Ytlopdlcepmmjdaa
