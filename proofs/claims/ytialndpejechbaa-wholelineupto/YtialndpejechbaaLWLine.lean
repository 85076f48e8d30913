import Derived.Test.YtialndpejechbaaQAw
namespace Go.Proofs.Ytialndpejechbaa
open Go.RowKit Go.MuLone Go.BigFrame
set_option linter.unusedVariables false
set_option linter.unusedSimpArgs false

/-- The slice value v reads as the signed bytes zs. -/
def RdI8 (w : World) (v : Value) (zs : List Int) : Prop :=
  ∃ (ao : Option Addr) (cap : Nat), v = .slice ao zs.length cap ∧ zs.length ≤ cap ∧ cap ≤ 9223372036854775807 ∧
    (0 < zs.length → ∃ b off, ao = some ⟨b, off, none⟩ ∧ ∀ i, i < zs.length → w.cell? ⟨b, off + i, none⟩ = some (.int .i8 (zs.getD i 0)))
/-- The numbers from f on, below n. -/
def rng (f n : Nat) : List Value := (List.range (n - f)).map fun j => .int .i64 (((f + j : Nat)) : Int)
theorem rng_len (f n : Nat) : (rng f n).length = n - f := by simp [rng]
theorem rng_nil (f : Nat) : rng f f = [] := by simp [rng]
theorem rng_more (f n : Nat) (h : f ≤ n) : rng f n ++ [.int .i64 (n : Int)] = rng f (n + 1) := by
  unfold rng
  rw [show n + 1 - f = (n - f) + 1 by omega, List.range_succ, List.map_append, List.map_singleton, show f + (n - f) = n by omega]
theorem rng_less (f n : Nat) (h : f < n) : rng f n = .int .i64 (f : Int) :: rng (f + 1) n := by
  unfold rng
  rw [show n - f = (n - (f + 1)) + 1 by omega, List.range_succ_eq_map, List.map_cons, List.map_map]
  congr 1
  apply List.map_congr_left
  intro j _
  simp only [Function.comp]
  congr 2
  omega

set_option maxRecDepth 100000 in
set_option maxHeartbeats 2000000 in
theorem wholeLine_walk (pl : Nat) (v : Value) (zs : List Int) (w : World) (hx : pl < 256) (h : RdI8 w v zs) (hl : zs.length ≤ 1048576) :
    Calls Try.prog 7 #[.int .u8 pl, v] w fun e w' => e = .returned (.bool true) ∧ Below w.heap.size w w' := by
  obtain ⟨ao, cap, rfl, h1, h2, h3⟩ := h
  have H3 := hide h3
  clear h3
  obtain ⟨m, hm, em⟩ : ∃ m : Nat, m ≤ 63 ∧ (pl : Int) % 64 = m := ⟨pl % 64, by omega, by omega⟩
  have hm' : (m : Int) ≤ 63 := by omega
  have hm0 : (0 : Int) ≤ m := by omega
  have hw1 : Go.RowKit.wrap64 (1 + (m : Int)) = 1 + (m : Int) := by unfold Go.RowKit.wrap64; omega
  have hp : 1 ≤ 1 + (m : Int) ∧ 1 + (m : Int) ≤ 64 := by omega
  go_enter Try.func7, Try.ntmps7
  go_wp2_with fail
  clear hw1 hm' hm0
  generalize (pl : Int) % 64 = pm at em ⊢
  clear em
  generalize 1 + (m : Int) = c at hp ⊢
  clear hm
  obtain ⟨hp1, hp2⟩ := hp
  go_wp2_with (first
    | (go_at_call 9; refine (nw_new c w _ (Kept.refl _ _) ⟨hp1, hp2⟩).mono ?_; rintro e w1 ⟨q, rfl, h1⟩; have HQ := hide h1; clear h1)
    | (go_at_call 19; refine (nw_put (xs := []) _ (unhide HQ) hp1 (by simp) true (by simp; omega)).mono ?_; rintro e w1 ⟨rfl, h1⟩; replace HQ := hide (h1 : Nw w w1 q c [.int .i64 (-5)] false); clear h1)
    | (go_at_call 21; refine (nw_take (unhide HQ) hp1).mono ?_; rintro e w1 ⟨rfl, h1⟩; replace HQ := hide h1; clear h1))
  go_loopw [12, 13, 14, 15] (fun t12 t13 t14 t15 wr => ∃ (i f n : Nat) (cl : Bool), i ≤ zs.length ∧ f ≤ n ∧ n ≤ i ∧ (t12 = .int .i64 n ∧ t13 = .int .i64 f ∧ t14 = .bool cl) ∧ t15 = .int .i64 i ∧ Hid (Nw w wr q c (rng f n) cl)) (fun _ _ _ t _ => zs.length - (intOf t).toNat)
  case atStart => exact ⟨0, 0, 0, false, Nat.zero_le _, Nat.le_refl _, Nat.le_refl _, ⟨rfl, rfl, rfl⟩, rfl, HQ⟩
  case round =>
    obtain ⟨i, f, n, cl, hi, hfn, hni, ⟨rfl, rfl, rfl⟩, rfl, HQ⟩ := hrel
    by_cases hlt : i < zs.length
    · have hlt' : (i : Int) < zs.length := by omega
      obtain ⟨b, off, rfl, hcc⟩ := unhide H3 (by omega)
      obtain ⟨_, _, kk, _⟩ := unhide HQ
      have c1 := kk.cell (hcc i hlt) (by simp)
      clear hcc kk
      generalize zs.getD i 0 = z at c1
      by_cases hz : z = 0
      · subst hz
        cases cl
        · go_wp2_with (go_at_call 25; refine (nw_close (unhide HQ) hp1).mono ?_; rintro e w1 ⟨rfl, h1⟩; replace HQ := hide h1; clear h1)
          have hw1 : Go.RowKit.wrap64 ((n : Int) - (f : Int)) = (n : Int) - (f : Int) := by unfold Go.RowKit.wrap64; omega
          have hw2 : Go.RowKit.wrap64 ((n : Int) - (f : Int) - c) = (n : Int) - (f : Int) - c := by unfold Go.RowKit.wrap64; omega
          by_cases hle : (n : Int) - (f : Int) ≤ c
          · have hmin : min ((n : Int) - (f : Int)) c = (n : Int) - (f : Int) := by omega
            have hmax : max ((n : Int) - (f : Int) - c) 0 = 0 := by omega
            have hnlt : ¬ c < (n : Int) - (f : Int) := by omega
            have hR : inQ c (rng (f) (n)).length = (n : Int) - (f : Int) := by rw [rng_len, inQ, if_pos (by omega)]; omega
            have hR2 : ((rng (f) (n)).length : Int) - inQ c (rng (f) (n)).length = 0 := by rw [hR, rng_len]; omega
            go_wp2_with (first
              | (go_at_call 23; refine (nw_len (unhide HQ) hp1 (by rw [rng_len]; omega) ((n : Int) - (f : Int)) hR).mono ?_; rintro e w1 ⟨rfl, h1⟩; replace HQ := hide h1; clear h1)
              | (go_at_call 24; refine (nw_line (unhide HQ) hp1 (by rw [rng_len]; omega) (0) hR2).mono ?_; rintro e w1 ⟨rfl, h1⟩; replace HQ := hide h1; clear h1)
              | (go_at_call 26; refine (nw_closed (unhide HQ) hp1).mono ?_; rintro e w1 ⟨rfl, h1⟩; replace HQ := hide h1; clear h1))
            all_goals (refine ⟨⟨i + 1, f, n, true, by omega, by omega, by omega, ⟨by go_num, by go_num, rfl⟩, by go_num, HQ⟩, ?_⟩; simp [intOf]; omega)
          · have hmin : min ((n : Int) - (f : Int)) c = c := by omega
            have hmax : max ((n : Int) - (f : Int) - c) 0 = (n : Int) - (f : Int) - c := by omega
            have hlt2 : c < (n : Int) - (f : Int) := by omega
            have hR : inQ c (rng (f) (n)).length = c := by rw [rng_len, inQ, if_neg (by omega)]
            have hR2 : ((rng (f) (n)).length : Int) - inQ c (rng (f) (n)).length = (n : Int) - (f : Int) - c := by rw [hR, rng_len]; omega
            go_wp2_with (first
              | (go_at_call 23; refine (nw_len (unhide HQ) hp1 (by rw [rng_len]; omega) (c) hR).mono ?_; rintro e w1 ⟨rfl, h1⟩; replace HQ := hide h1; clear h1)
              | (go_at_call 24; refine (nw_line (unhide HQ) hp1 (by rw [rng_len]; omega) ((n : Int) - (f : Int) - c) hR2).mono ?_; rintro e w1 ⟨rfl, h1⟩; replace HQ := hide h1; clear h1)
              | (go_at_call 26; refine (nw_closed (unhide HQ) hp1).mono ?_; rintro e w1 ⟨rfl, h1⟩; replace HQ := hide h1; clear h1))
            all_goals (refine ⟨⟨i + 1, f, n, true, by omega, by omega, by omega, ⟨by go_num, by go_num, rfl⟩, by go_num, HQ⟩, ?_⟩; simp [intOf]; omega)
        · go_wp2_with (go_at_call 25; refine (nw_close (unhide HQ) hp1).mono ?_; rintro e w1 ⟨rfl, h1⟩; replace HQ := hide h1; clear h1)
          have hw1 : Go.RowKit.wrap64 ((n : Int) - (f : Int)) = (n : Int) - (f : Int) := by unfold Go.RowKit.wrap64; omega
          have hw2 : Go.RowKit.wrap64 ((n : Int) - (f : Int) - c) = (n : Int) - (f : Int) - c := by unfold Go.RowKit.wrap64; omega
          by_cases hle : (n : Int) - (f : Int) ≤ c
          · have hmin : min ((n : Int) - (f : Int)) c = (n : Int) - (f : Int) := by omega
            have hmax : max ((n : Int) - (f : Int) - c) 0 = 0 := by omega
            have hnlt : ¬ c < (n : Int) - (f : Int) := by omega
            have hR : inQ c (rng (f) (n)).length = (n : Int) - (f : Int) := by rw [rng_len, inQ, if_pos (by omega)]; omega
            have hR2 : ((rng (f) (n)).length : Int) - inQ c (rng (f) (n)).length = 0 := by rw [hR, rng_len]; omega
            go_wp2_with (first
              | (go_at_call 23; refine (nw_len (unhide HQ) hp1 (by rw [rng_len]; omega) ((n : Int) - (f : Int)) hR).mono ?_; rintro e w1 ⟨rfl, h1⟩; replace HQ := hide h1; clear h1)
              | (go_at_call 24; refine (nw_line (unhide HQ) hp1 (by rw [rng_len]; omega) (0) hR2).mono ?_; rintro e w1 ⟨rfl, h1⟩; replace HQ := hide h1; clear h1)
              | (go_at_call 26; refine (nw_closed (unhide HQ) hp1).mono ?_; rintro e w1 ⟨rfl, h1⟩; replace HQ := hide h1; clear h1))
            all_goals (refine ⟨⟨i + 1, f, n, true, by omega, by omega, by omega, ⟨by go_num, by go_num, rfl⟩, by go_num, HQ⟩, ?_⟩; simp [intOf]; omega)
          · have hmin : min ((n : Int) - (f : Int)) c = c := by omega
            have hmax : max ((n : Int) - (f : Int) - c) 0 = (n : Int) - (f : Int) - c := by omega
            have hlt2 : c < (n : Int) - (f : Int) := by omega
            have hR : inQ c (rng (f) (n)).length = c := by rw [rng_len, inQ, if_neg (by omega)]
            have hR2 : ((rng (f) (n)).length : Int) - inQ c (rng (f) (n)).length = (n : Int) - (f : Int) - c := by rw [hR, rng_len]; omega
            go_wp2_with (first
              | (go_at_call 23; refine (nw_len (unhide HQ) hp1 (by rw [rng_len]; omega) (c) hR).mono ?_; rintro e w1 ⟨rfl, h1⟩; replace HQ := hide h1; clear h1)
              | (go_at_call 24; refine (nw_line (unhide HQ) hp1 (by rw [rng_len]; omega) ((n : Int) - (f : Int) - c) hR2).mono ?_; rintro e w1 ⟨rfl, h1⟩; replace HQ := hide h1; clear h1)
              | (go_at_call 26; refine (nw_closed (unhide HQ) hp1).mono ?_; rintro e w1 ⟨rfl, h1⟩; replace HQ := hide h1; clear h1))
            all_goals (refine ⟨⟨i + 1, f, n, true, by omega, by omega, by omega, ⟨by go_num, by go_num, rfl⟩, by go_num, HQ⟩, ?_⟩; simp [intOf]; omega)
      · have hz0 : (z == 0) = false := by simpa using hz
        by_cases hz1 : 0 < z
        · cases cl
          · by_cases hr0 : (n : Int) + 1 - f ≤ c
            · have hr1 : (n : Int) - f < c := by omega
              have hq1 : Go.RowKit.wrap64 ((n : Int) - f) = (n : Int) - f := by unfold Go.RowKit.wrap64; omega
              go_wp2_with (go_at_call 19; refine (nw_put _ (unhide HQ) hp1 (by rw [rng_len]; omega) true (by rw [rng_len]; simp; omega)).mono ?_; rintro e w1 ⟨rfl, h1⟩; rw [rng_more f n hfn] at h1; replace HQ := hide h1; clear h1)
              have hw1 : Go.RowKit.wrap64 (((n : Int) + 1) - (f : Int)) = ((n : Int) + 1) - (f : Int) := by unfold Go.RowKit.wrap64; omega
              have hw2 : Go.RowKit.wrap64 (((n : Int) + 1) - (f : Int) - c) = ((n : Int) + 1) - (f : Int) - c := by unfold Go.RowKit.wrap64; omega
              by_cases hle : ((n : Int) + 1) - (f : Int) ≤ c
              · have hmin : min (((n : Int) + 1) - (f : Int)) c = ((n : Int) + 1) - (f : Int) := by omega
                have hmax : max (((n : Int) + 1) - (f : Int) - c) 0 = 0 := by omega
                have hnlt : ¬ c < ((n : Int) + 1) - (f : Int) := by omega
                have hR : inQ c (rng (f) (n + 1)).length = ((n : Int) + 1) - (f : Int) := by rw [rng_len, inQ, if_pos (by omega)]; omega
                have hR2 : ((rng (f) (n + 1)).length : Int) - inQ c (rng (f) (n + 1)).length = 0 := by rw [hR, rng_len]; omega
                go_wp2_with (first
                  | (go_at_call 23; refine (nw_len (unhide HQ) hp1 (by rw [rng_len]; omega) (((n : Int) + 1) - (f : Int)) hR).mono ?_; rintro e w1 ⟨rfl, h1⟩; replace HQ := hide h1; clear h1)
                  | (go_at_call 24; refine (nw_line (unhide HQ) hp1 (by rw [rng_len]; omega) (0) hR2).mono ?_; rintro e w1 ⟨rfl, h1⟩; replace HQ := hide h1; clear h1)
                  | (go_at_call 26; refine (nw_closed (unhide HQ) hp1).mono ?_; rintro e w1 ⟨rfl, h1⟩; replace HQ := hide h1; clear h1))
                all_goals (refine ⟨⟨i + 1, f, n + 1, false, by omega, by omega, by omega, ⟨by go_num, by go_num, rfl⟩, by go_num, HQ⟩, ?_⟩; simp [intOf]; omega)
              · have hmin : min (((n : Int) + 1) - (f : Int)) c = c := by omega
                have hmax : max (((n : Int) + 1) - (f : Int) - c) 0 = ((n : Int) + 1) - (f : Int) - c := by omega
                have hlt2 : c < ((n : Int) + 1) - (f : Int) := by omega
                have hR : inQ c (rng (f) (n + 1)).length = c := by rw [rng_len, inQ, if_neg (by omega)]
                have hR2 : ((rng (f) (n + 1)).length : Int) - inQ c (rng (f) (n + 1)).length = ((n : Int) + 1) - (f : Int) - c := by rw [hR, rng_len]; omega
                go_wp2_with (first
                  | (go_at_call 23; refine (nw_len (unhide HQ) hp1 (by rw [rng_len]; omega) (c) hR).mono ?_; rintro e w1 ⟨rfl, h1⟩; replace HQ := hide h1; clear h1)
                  | (go_at_call 24; refine (nw_line (unhide HQ) hp1 (by rw [rng_len]; omega) (((n : Int) + 1) - (f : Int) - c) hR2).mono ?_; rintro e w1 ⟨rfl, h1⟩; replace HQ := hide h1; clear h1)
                  | (go_at_call 26; refine (nw_closed (unhide HQ) hp1).mono ?_; rintro e w1 ⟨rfl, h1⟩; replace HQ := hide h1; clear h1))
                all_goals (refine ⟨⟨i + 1, f, n + 1, false, by omega, by omega, by omega, ⟨by go_num, by go_num, rfl⟩, by go_num, HQ⟩, ?_⟩; simp [intOf]; omega)
            · have hr1 : ¬ (n : Int) - f < c := by omega
              have hq1 : Go.RowKit.wrap64 ((n : Int) - f) = (n : Int) - f := by unfold Go.RowKit.wrap64; omega
              go_wp2_with (go_at_call 19; refine (nw_put _ (unhide HQ) hp1 (by rw [rng_len]; omega) false (by rw [rng_len]; simp; omega)).mono ?_; rintro e w1 ⟨rfl, h1⟩; rw [rng_more f n hfn] at h1; replace HQ := hide h1; clear h1)
              have hw1 : Go.RowKit.wrap64 (((n : Int) + 1) - (f : Int)) = ((n : Int) + 1) - (f : Int) := by unfold Go.RowKit.wrap64; omega
              have hw2 : Go.RowKit.wrap64 (((n : Int) + 1) - (f : Int) - c) = ((n : Int) + 1) - (f : Int) - c := by unfold Go.RowKit.wrap64; omega
              by_cases hle : ((n : Int) + 1) - (f : Int) ≤ c
              · have hmin : min (((n : Int) + 1) - (f : Int)) c = ((n : Int) + 1) - (f : Int) := by omega
                have hmax : max (((n : Int) + 1) - (f : Int) - c) 0 = 0 := by omega
                have hnlt : ¬ c < ((n : Int) + 1) - (f : Int) := by omega
                have hR : inQ c (rng (f) (n + 1)).length = ((n : Int) + 1) - (f : Int) := by rw [rng_len, inQ, if_pos (by omega)]; omega
                have hR2 : ((rng (f) (n + 1)).length : Int) - inQ c (rng (f) (n + 1)).length = 0 := by rw [hR, rng_len]; omega
                go_wp2_with (first
                  | (go_at_call 23; refine (nw_len (unhide HQ) hp1 (by rw [rng_len]; omega) (((n : Int) + 1) - (f : Int)) hR).mono ?_; rintro e w1 ⟨rfl, h1⟩; replace HQ := hide h1; clear h1)
                  | (go_at_call 24; refine (nw_line (unhide HQ) hp1 (by rw [rng_len]; omega) (0) hR2).mono ?_; rintro e w1 ⟨rfl, h1⟩; replace HQ := hide h1; clear h1)
                  | (go_at_call 26; refine (nw_closed (unhide HQ) hp1).mono ?_; rintro e w1 ⟨rfl, h1⟩; replace HQ := hide h1; clear h1))
                all_goals (refine ⟨⟨i + 1, f, n + 1, false, by omega, by omega, by omega, ⟨by go_num, by go_num, rfl⟩, by go_num, HQ⟩, ?_⟩; simp [intOf]; omega)
              · have hmin : min (((n : Int) + 1) - (f : Int)) c = c := by omega
                have hmax : max (((n : Int) + 1) - (f : Int) - c) 0 = ((n : Int) + 1) - (f : Int) - c := by omega
                have hlt2 : c < ((n : Int) + 1) - (f : Int) := by omega
                have hR : inQ c (rng (f) (n + 1)).length = c := by rw [rng_len, inQ, if_neg (by omega)]
                have hR2 : ((rng (f) (n + 1)).length : Int) - inQ c (rng (f) (n + 1)).length = ((n : Int) + 1) - (f : Int) - c := by rw [hR, rng_len]; omega
                go_wp2_with (first
                  | (go_at_call 23; refine (nw_len (unhide HQ) hp1 (by rw [rng_len]; omega) (c) hR).mono ?_; rintro e w1 ⟨rfl, h1⟩; replace HQ := hide h1; clear h1)
                  | (go_at_call 24; refine (nw_line (unhide HQ) hp1 (by rw [rng_len]; omega) (((n : Int) + 1) - (f : Int) - c) hR2).mono ?_; rintro e w1 ⟨rfl, h1⟩; replace HQ := hide h1; clear h1)
                  | (go_at_call 26; refine (nw_closed (unhide HQ) hp1).mono ?_; rintro e w1 ⟨rfl, h1⟩; replace HQ := hide h1; clear h1))
                all_goals (refine ⟨⟨i + 1, f, n + 1, false, by omega, by omega, by omega, ⟨by go_num, by go_num, rfl⟩, by go_num, HQ⟩, ?_⟩; simp [intOf]; omega)
          · go_wp2_with (go_at_call 19; refine (nw_put_shut _ (unhide HQ) hp1).mono ?_; rintro e w1 ⟨rfl, h1⟩; replace HQ := hide h1; clear h1)
            refine ⟨⟨i + 1, f, n, true, by omega, by omega, by omega, ⟨rfl, rfl, rfl⟩, by go_num, HQ⟩, ?_⟩
            simp [intOf]; omega
        · have hz2 : ¬ z > 0 := hz1
          by_cases hfl : f < n
          · have hfl' : (f : Int) < n := by omega
            rw [rng_less f n hfl] at HQ
            go_wp2_with (go_at_call 21; refine (nw_take (unhide HQ) hp1).mono ?_; rintro e w1 ⟨rfl, h1⟩; replace HQ := hide h1; clear h1)
            have hw1 : Go.RowKit.wrap64 ((n : Int) - ((f : Int) + 1)) = (n : Int) - ((f : Int) + 1) := by unfold Go.RowKit.wrap64; omega
            have hw2 : Go.RowKit.wrap64 ((n : Int) - ((f : Int) + 1) - c) = (n : Int) - ((f : Int) + 1) - c := by unfold Go.RowKit.wrap64; omega
            by_cases hle : (n : Int) - ((f : Int) + 1) ≤ c
            · have hmin : min ((n : Int) - ((f : Int) + 1)) c = (n : Int) - ((f : Int) + 1) := by omega
              have hmax : max ((n : Int) - ((f : Int) + 1) - c) 0 = 0 := by omega
              have hnlt : ¬ c < (n : Int) - ((f : Int) + 1) := by omega
              have hR : inQ c (rng (f + 1) (n)).length = (n : Int) - ((f : Int) + 1) := by rw [rng_len, inQ, if_pos (by omega)]; omega
              have hR2 : ((rng (f + 1) (n)).length : Int) - inQ c (rng (f + 1) (n)).length = 0 := by rw [hR, rng_len]; omega
              go_wp2_with (first
                | (go_at_call 23; refine (nw_len (unhide HQ) hp1 (by rw [rng_len]; omega) ((n : Int) - ((f : Int) + 1)) hR).mono ?_; rintro e w1 ⟨rfl, h1⟩; replace HQ := hide h1; clear h1)
                | (go_at_call 24; refine (nw_line (unhide HQ) hp1 (by rw [rng_len]; omega) (0) hR2).mono ?_; rintro e w1 ⟨rfl, h1⟩; replace HQ := hide h1; clear h1)
                | (go_at_call 26; refine (nw_closed (unhide HQ) hp1).mono ?_; rintro e w1 ⟨rfl, h1⟩; replace HQ := hide h1; clear h1))
              all_goals (refine ⟨⟨i + 1, f + 1, n, cl, by omega, by omega, by omega, ⟨by go_num, by go_num, rfl⟩, by go_num, HQ⟩, ?_⟩; simp [intOf]; omega)
            · have hmin : min ((n : Int) - ((f : Int) + 1)) c = c := by omega
              have hmax : max ((n : Int) - ((f : Int) + 1) - c) 0 = (n : Int) - ((f : Int) + 1) - c := by omega
              have hlt2 : c < (n : Int) - ((f : Int) + 1) := by omega
              have hR : inQ c (rng (f + 1) (n)).length = c := by rw [rng_len, inQ, if_neg (by omega)]
              have hR2 : ((rng (f + 1) (n)).length : Int) - inQ c (rng (f + 1) (n)).length = (n : Int) - ((f : Int) + 1) - c := by rw [hR, rng_len]; omega
              go_wp2_with (first
                | (go_at_call 23; refine (nw_len (unhide HQ) hp1 (by rw [rng_len]; omega) (c) hR).mono ?_; rintro e w1 ⟨rfl, h1⟩; replace HQ := hide h1; clear h1)
                | (go_at_call 24; refine (nw_line (unhide HQ) hp1 (by rw [rng_len]; omega) ((n : Int) - ((f : Int) + 1) - c) hR2).mono ?_; rintro e w1 ⟨rfl, h1⟩; replace HQ := hide h1; clear h1)
                | (go_at_call 26; refine (nw_closed (unhide HQ) hp1).mono ?_; rintro e w1 ⟨rfl, h1⟩; replace HQ := hide h1; clear h1))
              all_goals (refine ⟨⟨i + 1, f + 1, n, cl, by omega, by omega, by omega, ⟨by go_num, by go_num, rfl⟩, by go_num, HQ⟩, ?_⟩; simp [intOf]; omega)
          · have hfl' : ¬ (f : Int) < n := by omega
            have hfe : f = n := by omega
            subst hfe
            rw [rng_nil] at HQ
            go_wp2_with (go_at_call 21; refine (nw_take_nil (unhide HQ) hp1).mono ?_; rintro e w1 ⟨rfl, h1⟩; rw [← rng_nil f] at h1; replace HQ := hide h1; clear h1)
            have hw1 : Go.RowKit.wrap64 ((f : Int) - (f : Int)) = (f : Int) - (f : Int) := by unfold Go.RowKit.wrap64; omega
            have hw2 : Go.RowKit.wrap64 ((f : Int) - (f : Int) - c) = (f : Int) - (f : Int) - c := by unfold Go.RowKit.wrap64; omega
            by_cases hle : (f : Int) - (f : Int) ≤ c
            · have hmin : min ((f : Int) - (f : Int)) c = (f : Int) - (f : Int) := by omega
              have hmax : max ((f : Int) - (f : Int) - c) 0 = 0 := by omega
              have hnlt : ¬ c < (f : Int) - (f : Int) := by omega
              have hR : inQ c (rng (f) (f)).length = (f : Int) - (f : Int) := by rw [rng_len, inQ, if_pos (by omega)]; omega
              have hR2 : ((rng (f) (f)).length : Int) - inQ c (rng (f) (f)).length = 0 := by rw [hR, rng_len]; omega
              go_wp2_with (first
                | (go_at_call 23; refine (nw_len (unhide HQ) hp1 (by rw [rng_len]; omega) ((f : Int) - (f : Int)) hR).mono ?_; rintro e w1 ⟨rfl, h1⟩; replace HQ := hide h1; clear h1)
                | (go_at_call 24; refine (nw_line (unhide HQ) hp1 (by rw [rng_len]; omega) (0) hR2).mono ?_; rintro e w1 ⟨rfl, h1⟩; replace HQ := hide h1; clear h1)
                | (go_at_call 26; refine (nw_closed (unhide HQ) hp1).mono ?_; rintro e w1 ⟨rfl, h1⟩; replace HQ := hide h1; clear h1))
              all_goals (refine ⟨⟨i + 1, f, f, cl, by omega, by omega, by omega, ⟨by go_num, by go_num, rfl⟩, by go_num, HQ⟩, ?_⟩; simp [intOf]; omega)
            · have hmin : min ((f : Int) - (f : Int)) c = c := by omega
              have hmax : max ((f : Int) - (f : Int) - c) 0 = (f : Int) - (f : Int) - c := by omega
              have hlt2 : c < (f : Int) - (f : Int) := by omega
              have hR : inQ c (rng (f) (f)).length = c := by rw [rng_len, inQ, if_neg (by omega)]
              have hR2 : ((rng (f) (f)).length : Int) - inQ c (rng (f) (f)).length = (f : Int) - (f : Int) - c := by rw [hR, rng_len]; omega
              go_wp2_with (first
                | (go_at_call 23; refine (nw_len (unhide HQ) hp1 (by rw [rng_len]; omega) (c) hR).mono ?_; rintro e w1 ⟨rfl, h1⟩; replace HQ := hide h1; clear h1)
                | (go_at_call 24; refine (nw_line (unhide HQ) hp1 (by rw [rng_len]; omega) ((f : Int) - (f : Int) - c) hR2).mono ?_; rintro e w1 ⟨rfl, h1⟩; replace HQ := hide h1; clear h1)
                | (go_at_call 26; refine (nw_closed (unhide HQ) hp1).mono ?_; rintro e w1 ⟨rfl, h1⟩; replace HQ := hide h1; clear h1))
              all_goals (refine ⟨⟨i + 1, f, f, cl, by omega, by omega, by omega, ⟨by go_num, by go_num, rfl⟩, by go_num, HQ⟩, ?_⟩; simp [intOf]; omega)
    · have hlt' : ¬ (i : Int) < zs.length := by omega
      go_wp2_with fail
      go_ret
      obtain ⟨_, _, kk, _⟩ := unhide HQ
      exact ⟨rfl, kk.below (Nat.le_refl _) (by simp)⟩

end Go.Proofs.Ytialndpejechbaa
