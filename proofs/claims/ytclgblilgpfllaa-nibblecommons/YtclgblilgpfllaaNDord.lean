import Derived.Test.YtclgblilgpfllaaNOrd
import Derived.Test.YtclgblilgpfllaaNIx
namespace Go.Proofs.Ytclgblilgpfllaa
open Go.RowKit Go.BigFrame
set_option linter.unusedVariables false
set_option linter.unusedSimpArgs false

set_option maxRecDepth 100000 in
set_option maxHeartbeats 4000000 in
theorem docOrder_any (z : Int) (a b : List Nat) (w : World) (hz : -9223372036854775808 ≤ z ∧ z ≤ 9223372036854775807) (ha : Dg a) (hb : Dg b) :
    Calls Try.prog 15 #[.int .i64 z, .agg (brow a), .agg (brow b)] w fun e w' => e = .returned (.tuple #[.int .i64 (ordC z a b), .int .i64 (formedE z [a, b] : Int)]) ∧ Kept [] w w' := by
  have hal := ha.1
  have hbl := hb.1
  have HGA := hide (((Kept.refl [] (w.alloc (.cells (brow a) 23))).alloc (.cells (brow b) 23)).heap (heap_alloc_new w (.cells (brow a) 23)) (by simp))
  have HGB := hide (alloc_at w (.cells (brow a) 23) (.cells (brow b) 23))
  have HK0 := hide (((Kept.refl [] w).alloc (.cells (brow a) 23)).alloc (.cells (brow b) 23))
  have HI := hide (fun (h : formedE z [a, b] = 0) => wid_of h : formedE z [a, b] = 0 → ∃ k : Nat, z = k ∧ 1 ≤ k ∧ k ≤ 32)
  have HC := hide (by unfold ordC; rfl : ordC z a b = if formedE z [a, b] = 0 then ordL a b else 0)
  have HM := hide (by unfold comC; rfl : comC z a b = if formedE z [a, b] = 0 then comL a b (2 * z.toNat) 0 else 0)
  obtain ⟨f, hf⟩ : ∃ f, formedE z [a, b] = f := ⟨_, rfl⟩
  obtain ⟨C, hC⟩ : ∃ C, ordC z a b = C := ⟨_, rfl⟩
  obtain ⟨M, hM⟩ : ∃ M, comC z a b = M := ⟨_, rfl⟩
  have HFF := hide hf
  have HMM := hide hM
  rw [hf, hC] at HC
  rw [hf, hM] at HM
  rw [hf] at HI
  rw [hf, hC]
  clear hf hC hM
  have HSA := hide (by rw [List.length_map, hal]; exact Try.size_dig : (Try.prog.info? 23).map (·.size) = some (a.map u8).length)
  have HSB := hide (by rw [List.length_map, hbl]; exact Try.size_dig : (Try.prog.info? 23).map (·.size) = some (b.map u8).length)
  go_enter Try.func15, Try.ntmps15
  go_wp2_with (first
    | (refine wpList_load_mid rfl 23 _ rfl w.heap.size 0 rfl (a.map u8) _ (range_row (unhide HGA)) Try.underlying23 rfl (unhide HSA) ?_)
    | (refine wpList_load_mid rfl 23 _ rfl (w.heap.size + 1) 0 rfl (b.map u8) _ (range_row (unhide HGB)) Try.underlying23 rfl (unhide HSB) ?_))
  refine Calls.mono (docCommon_any z a b _ hz ha hb) ?_
  rintro e w1 ⟨rfl, k1⟩
  rw [unhide HFF, unhide HMM]
  have HK1 := hide ((unhide HK0).trans k1 (by simp))
  have HG1 := hide (k1.heap (unhide HGA) (by simp))
  have HG2 := hide (k1.heap (unhide HGB) (by simp))
  clear k1 HGA HGB
  by_cases hf0 : f = 0
  · subst hf0
    obtain ⟨k, rfl, hk1, hk⟩ := unhide HI rfl
    rw [if_pos rfl, Int.toNat_natCast] at HM
    rw [if_pos rfl] at HC
    have hCO := com_ord ha hb hk1 hk (unhide HFF)
    rw [← unhide HM, ← unhide HC] at hCO
    clear HI HFF HMM HM HC
    have hk2 : IntKind.i64.wrap (2 * (k : Int)) = 2 * (k : Int) := by simp [IntKind.wrap, IntKind.signed, IntKind.bits]; omega
    rcases hCO with ⟨rfl, _, rfl⟩ | ⟨hM, _, hne, hO⟩
    · go_wp2
      go_ret2
      exact ⟨rfl, unhide HK1⟩
    · have hM2 : ((M : Int) == 2 * (k : Int)) = false := by rw [beq_eq_false_iff_ne]; omega
      have hM3 : ¬ (M : Int) = 2 * (k : Int) := by omega
      have HO := hide hO
      have HNE := hide hne
      clear hO hne
      have HGtA := hide (digsL_get a k M (by omega))
      have HGtB := hide (digsL_get b k M (by omega))
      have HLA := hide (digsL_len a k)
      have HLB := hide (digsL_len b k)
      have hMk : (M : Int) < ((2 * k : Nat) : Int) := by omega
      have hMk2 : (M : Int) < 2 * (k : Int) := by omega
      obtain ⟨x, hx⟩ : ∃ x, dgt a M = x := ⟨_, rfl⟩
      obtain ⟨y, hy⟩ : ∃ y, dgt b M = y := ⟨_, rfl⟩
      rw [hx] at HGtA HNE HO
      rw [hy] at HGtB HNE HO
      clear hx hy
      have HRow := hide (fun (d : List Nat) (n : Nat) (w' : World) (u : Value) (hl : (digsL d k).length = 2 * k) (hg : (digsL d k).getD M 0 = n) (hr : RdZ w' u (digsL d k)) => by
        obtain ⟨ao, cap, e, h1, h2, h3⟩ := hr
        rw [hl] at e h1 h3
        obtain ⟨g, off, rfl, hc⟩ := h3 (by omega)
        exact ⟨g, off, cap, e, by rw [← hg]; exact hc M (by omega)⟩ : ∀ (d : List Nat) (n : Nat) (w' : World) (u : Value), (digsL d k).length = 2 * k → (digsL d k).getD M 0 = n → RdZ w' u (digsL d k) → ∃ g off cap, u = .slice (some ⟨g, off, none⟩) (2 * k) cap ∧ w'.cell? ⟨g, off + M, none⟩ = some (.int .i64 (n : Int)))
      go_wp2_with fail
      refine wp_ix14 (fun w' => Kept [] w1 w') (by kernel_rfl) (by kernel_rfl) (by kernel_rfl) (by kernel_rfl) (by kernel_rfl) (by kernel_rfl) (by kernel_rfl) (by kernel_rfl) (by kernel_rfl) (by kernel_rfl) (by kernel_rfl) (by kernel_rfl) (by kernel_rfl) (by kernel_rfl) (by kernel_rfl) (by kernel_rfl) (by kernel_rfl) (by kernel_rfl) (by kernel_rfl) (by kernel_rfl) (by kernel_rfl) (by kernel_rfl) (by kernel_rfl) (by kernel_rfl) (by kernel_rfl) (by kernel_rfl) (by kernel_rfl) (by kernel_rfl) (by kernel_rfl) (by kernel_rfl) (by kernel_rfl) rfl rfl rfl rfl (Kept.refl [] w1).drew (.int .i64 (k : Int)) (.agg (a.map u8).toArray) (.int .i64 (M : Int)) (.int .i64 (k : Int)) (.agg (b.map u8).toArray) (.int .i64 (M : Int))
        _ _ _ _ _ _ (by simp only [Act.put, List.setIfInBounds_toArray, List.set_cons_zero, List.set_cons_succ]; rfl) (by simp only [Act.put, List.setIfInBounds_toArray, List.set_cons_zero, List.set_cons_succ]; rfl) (by simp only [Act.put, List.setIfInBounds_toArray, List.set_cons_zero, List.set_cons_succ]; rfl) (by simp only [Act.put, List.setIfInBounds_toArray, List.set_cons_zero, List.set_cons_succ]; rfl) (by simp only [Act.put, List.setIfInBounds_toArray, List.set_cons_zero, List.set_cons_succ]; rfl) (by simp only [Act.put, List.setIfInBounds_toArray, List.set_cons_zero, List.set_cons_succ]; rfl)
        (by exact Or.inl ⟨by rfl, fun W' hW' => by go_simp⟩)
        (by exact yieldsIf_load_mid (by rfl) _ _ rfl w.heap.size 0 rfl (a.map u8) _ (fun W' hW' => range_row (hW'.heap (unhide HG1) (by simp))) Try.underlying23 rfl (unhide HSA))
        (by exact Or.inl ⟨by rfl, fun W' hW' => by go_simp⟩)
        (by exact Or.inl ⟨by rfl, fun W' hW' => by go_simp⟩)
        (by exact yieldsIf_load_mid (by rfl) _ _ rfl (w.heap.size + 1) 0 rfl (b.map u8) _ (fun W' hW' => range_row (hW'.heap (unhide HG2) (by simp))) Try.underlying23 rfl (unhide HSB))
        (by exact Or.inl ⟨by rfl, fun W' hW' => by go_simp⟩)
        (ixP M) (ixP M) (.int .i64 (x : Int)) (.int .i64 (y : Int)) (.bool (decide ((x : Int) < y)))
        (fun u w2 => (∃ g off cap, u = .slice (some ⟨g, off, none⟩) (2 * k) cap ∧ w2.cell? ⟨g, off + M, none⟩ = some (.int .i64 (x : Int))) ∧ Kept [] w1 w2)
        (fun u w2 v w3 => (∃ g off cap, v = .slice (some ⟨g, off, none⟩) (2 * k) cap ∧ w3.cell? ⟨g, off + M, none⟩ = some (.int .i64 (y : Int))) ∧ Kept [] w2 w3)
        (by intro K hK; exact wp_digits (.tmp 27) (.tmp 28) _ rfl k a rfl rfl hk ha (fun u w2 h => hK u w2 ⟨unhide HRow a x w2 u (unhide HLA) (unhide HGtA) h.1, (Kept.refl [] w1).drew.trans h.2 (by simp)⟩))
        (fun u w2 h => h.2) (fun u w2 v w3 h1 h2 => h1.2.trans h2.2 (by simp))
        (by rintro u w2 ⟨⟨g, off, cap, rfl, hc⟩, _⟩; exact Or.inl ⟨by rfl, fun W' hW' => by simp only [ixP, Addr.add_mid, Act.put, List.setIfInBounds_toArray, List.set_cons_zero, List.set_cons_succ]; go_simp⟩)
        (by rintro u w2 ⟨⟨g, off, cap, rfl, hc⟩, _⟩ K hK; exact wp_loadZ 3 (.tmp 31) (by rfl) ((⟨g, off, none⟩ : Addr).add M) (by simp only [Act.put, List.setIfInBounds_toArray, List.set_cons_zero, List.set_cons_succ]; try rfl) _ .i64 Try.underlying3 (by rw [Addr.add_mid]; exact hc) hK)
        (by rintro u w2 h1 K hK; exact wp_digits (.tmp 33) (.tmp 34) _ rfl k b (by simp only [Act.put, List.setIfInBounds_toArray, List.set_cons_zero, List.set_cons_succ]; try rfl) (by simp only [Act.put, List.setIfInBounds_toArray, List.set_cons_zero, List.set_cons_succ]; try rfl) hk hb (fun v w3 h => hK v w3 ⟨unhide HRow b y w3 v (unhide HLB) (unhide HGtB) h.1, h.2⟩))
        (by rintro u w2 h1 K hK; exact wp_digits (.tmp 33) (.tmp 34) _ rfl k b (by simp only [Act.put, List.setIfInBounds_toArray, List.set_cons_zero, List.set_cons_succ]; try rfl) (by simp only [Act.put, List.setIfInBounds_toArray, List.set_cons_zero, List.set_cons_succ]; try rfl) hk hb (fun v w3 h => hK v w3 ⟨unhide HRow b y w3 v (unhide HLB) (unhide HGtB) h.1, h.2⟩))
        (by rintro u w2 v w3 _ ⟨⟨g, off, cap, rfl, hc⟩, _⟩; exact Or.inl ⟨by rfl, fun W' hW' => by simp only [ixP, Addr.add_mid, Act.put, List.setIfInBounds_toArray, List.set_cons_zero, List.set_cons_succ]; go_simp⟩)
        (by rintro u w2 v w3 _ ⟨⟨g, off, cap, rfl, hc⟩, _⟩; exact Or.inl ⟨by rfl, fun W' hW' => by simp only [ixP, Addr.add_mid, Act.put, List.setIfInBounds_toArray, List.set_cons_zero, List.set_cons_succ]; go_simp⟩)
        (by rintro u w2 v w3 _ ⟨⟨g, off, cap, rfl, hc⟩, _⟩ K hK; exact wp_loadZ 3 (.tmp 37) (by rfl) ((⟨g, off, none⟩ : Addr).add M) (by simp only [Act.put, List.setIfInBounds_toArray, List.set_cons_zero, List.set_cons_succ]; try rfl) _ .i64 Try.underlying3 (by rw [Addr.add_mid]; exact hc) hK)
        (by rintro u w2 v w3 _ ⟨⟨g, off, cap, rfl, hc⟩, _⟩ K hK; exact wp_loadZ 3 (.tmp 37) (by rfl) ((⟨g, off, none⟩ : Addr).add M) (by simp only [Act.put, List.setIfInBounds_toArray, List.set_cons_zero, List.set_cons_succ]; try rfl) _ .i64 Try.underlying3 (by rw [Addr.add_mid]; exact hc) hK)
        (by rintro u w2 v w3 _ ⟨⟨g, off, cap, rfl, hc⟩, _⟩ K hK; exact wp_loadZ 3 (.tmp 37) (by rfl) ((⟨g, off, none⟩ : Addr).add M) (by simp only [Act.put, List.setIfInBounds_toArray, List.set_cons_zero, List.set_cons_succ]; try rfl) _ .i64 Try.underlying3 (by rw [Addr.add_mid]; exact hc) hK)
        (by rintro u w2 v w3 ⟨⟨g, off, cap, rfl, hc⟩, _⟩ ⟨_, k3⟩ K hK; exact wp_loadZ 3 (.tmp 31) (by rfl) ((⟨g, off, none⟩ : Addr).add M) (by simp only [Act.put, List.setIfInBounds_toArray, List.set_cons_zero, List.set_cons_succ]; try rfl) _ .i64 Try.underlying3 (by rw [Addr.add_mid]; exact k3.cell hc (by simp)) hK)
        (by rintro u w2 v w3 ⟨⟨g, off, cap, rfl, hc⟩, _⟩ ⟨_, k3⟩ K hK; exact wp_loadZ 3 (.tmp 31) (by rfl) ((⟨g, off, none⟩ : Addr).add M) (by simp only [Act.put, List.setIfInBounds_toArray, List.set_cons_zero, List.set_cons_succ]; try rfl) _ .i64 Try.underlying3 (by rw [Addr.add_mid]; exact k3.cell hc (by simp)) hK)
        _ _ _ (by intro u v; simp only [Act.put, List.setIfInBounds_toArray, List.set_cons_zero, List.set_cons_succ]; try rfl) (by intro u v; simp only [Act.put, List.setIfInBounds_toArray, List.set_cons_zero, List.set_cons_succ]; try rfl) (by intro u v; simp only [Act.put, List.setIfInBounds_toArray, List.set_cons_zero, List.set_cons_succ]; try rfl) (by intro u v; simp only [Act.put, List.setIfInBounds_toArray, List.set_cons_zero, List.set_cons_succ]; try rfl) (by intro u v; simp only [Act.put, List.setIfInBounds_toArray, List.set_cons_zero, List.set_cons_succ]; try rfl)
        (by intro u w2 v w3 h1 h2; exact Or.inl ⟨by rfl, fun W' hW' => by go_simp⟩) (by intro u w2 v w3 h1 h2; exact Or.inl ⟨by rfl, fun W' hW' => by go_simp⟩) ?_
      rintro u w2 v w3 ⟨⟨g, off, cap, rfl, _⟩, k2⟩ ⟨⟨g', off', cap', rfl, _⟩, k3⟩
      have HK3 := hide (((unhide HK1).trans k2 (by simp)).trans k3 (by simp))
      clear k2 k3
      by_cases hxy : x < y
      · have hxy' : (x : Int) < y := by omega
        rw [if_pos hxy] at HO
        go_wp2
        go_ret2
        exact ⟨by rw [unhide HO]; rfl, unhide HK3⟩
      · have hxy' : ¬ (x : Int) < y := by omega
        rw [if_neg hxy] at HO
        go_wp2
        go_ret2
        exact ⟨by rw [unhide HO]; rfl, unhide HK3⟩
  · have hf0' : ((f : Int) != 0) = true := by rw [bne_iff_ne]; omega
    rw [if_neg hf0] at HC
    clear HI HFF
    go_wp2
    go_ret2
    exact ⟨by rw [unhide HC]; rfl, unhide HK1⟩
end Go.Proofs.Ytclgblilgpfllaa
