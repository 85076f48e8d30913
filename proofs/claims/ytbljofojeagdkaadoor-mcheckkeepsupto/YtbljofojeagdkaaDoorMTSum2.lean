import Derived.Test.YtbljofojeagdkaaDoorMTSum
namespace Go.Proofs.YtbljofojeagdkaaDoor
open Go.RowKit Go.BigFrame
set_option linter.unusedVariables false
set_option linter.unusedSimpArgs false

theorem PA.leaves {z : Int} {w : World} : ∀ {h : Nat} {s : List Nat} {k : Value} {l : List (List Nat)}, PA z w h s k l → ∀ d ∈ l, Dg d ∧ formB z d = true
  | 0, _, _, _, hp, d, hd => by obtain ⟨_, rfl, h1, h2⟩ := hp; rw [List.mem_singleton] at hd; subst hd; exact ⟨h1, h2⟩
  | h + 1, _, _, _, hp, d, hd => by
    obtain ⟨g, s0, k0, l0, s1, k1, l1, _, _, h0, h1, rfl, _⟩ := hp
    rcases List.mem_append.1 hd with hd | hd
    · exact h0.leaves d hd
    · exact h1.leaves d hd
theorem PKs.leaves {z : Int} {w : World} {ps : List Pk} (h : PKs z w ps) : ∀ d ∈ leavesK ps, Dg d ∧ formB z d = true := by
  intro d hd
  obtain ⟨p, hp, hd⟩ := List.mem_flatMap.1 hd
  exact (h.ok p hp).leaves d hd
/-- The value of the closure within Range. -/
def sumV (bt bs : Nat) : Value := .func (.func 59) #[] #[.pointer (some ⟨bt, 0, none⟩), .pointer (some ⟨bs, 0, none⟩)]
structure SumW (z : Int) (t : Nat) (v : Value) (ps : List Pk) (bt bs : Nat) (w : World) : Prop where
  tree : TreeAt z w t v ps
  hbt : w.heap[bt]? = some (.cells #[.pointer (some ⟨t, 0, none⟩)] 45 (0, 0))
  hbs : w.heap[bs]? = some (.cells #[sumV bt bs] 104 (0, 0))
  tabs : Tabs w
  tab6 : Tab6 w
theorem SumW.old {z : Int} {t : Nat} {v : Value} {ps : List Pk} {bt bs : Nat} {w w' : World} (h : SumW z t v ps bt bs w) (k : Kept [] w w') : SumW z t v ps bt bs w' :=
  ⟨h.tree.old k, k.heap h.hbt (by simp), k.heap h.hbs (by simp), h.tabs.kept k (by simp) (by simp), h.tab6.kept k⟩
theorem Tryd.underSum : Tryd.prog.underlying 104 = some (.func #[24, 24] #[23] false) := by kernel_rfl
/-- The digest of the leaves from lo to hi. -/
def rngD (z : Int) (no : List Nat) (L : List (List Nat)) (lo hi : Nat) : List Nat := logT z no ((L.drop lo).take (hi - lo))
theorem rngD_cut {z : Int} {no : List Nat} {L : List (List Nat)} {lo hi : Nat} (h2 : 2 ≤ hi - lo) (hl : hi ≤ L.length) : rngD z no L lo hi = nodT z (rngD z no L lo (lo + belT (hi - lo))) (rngD z no L (lo + belT (hi - lo)) hi) := by
  have hb := belT_lt h2
  have hlen : ((L.drop lo).take (hi - lo)).length = hi - lo := by rw [List.length_take, List.length_drop]; omega
  unfold rngD
  rw [logT_cut z no _ (by omega), hlen]
  generalize belT (hi - lo) = m at hb ⊢
  rw [List.take_take, Nat.min_eq_left (by omega), Nat.add_sub_cancel_left, List.drop_take, List.drop_drop]
  congr 3
  omega
theorem rngD_pow {z : Int} {no : List Nat} {L : List (List Nat)} {lo hi h : Nat} (he : hi - lo = 2 ^ h) (hl : hi ≤ L.length) (hlo : lo ≤ hi) : rngD z no L lo hi = perT z h ((L.drop lo).take (2 ^ h)) := by
  have hp : 1 ≤ 2 ^ h := Nat.one_le_two_pow
  unfold rngD
  rw [he, logT_per z no h _ (by rw [List.length_take, List.length_drop]; omega)]

set_option maxRecDepth 100000 in
set_option maxHeartbeats 1000000 in
theorem sumT_any (z : Int) (no : List Nat) (hno : Dg no) (hnf : formB z no = true) (t : Nat) (v : Value) (ps : List Pk) (bt bs : Nat) : ∀ (c lo hi : Nat) (w : World), hi - lo ≤ c → lo < hi → hi ≤ (leavesK ps).length → (leavesK ps).length < 32768 → SumW z t v ps bt bs w →
    Calls Tryd.prog 59 #[.int .u64 lo, .int .u64 hi, .pointer (some ⟨bt, 0, none⟩), .pointer (some ⟨bs, 0, none⟩)] w fun e w' => e = .returned (.agg (brow (rngD z no (leavesK ps) lo hi))) ∧ Kept [] w w' := by
  intro c
  induction c with
  | zero => intro lo hi w h1 h2; omega
  | succ c ih =>
    intro lo hi w hc hlh hhl hb HS
    obtain ⟨n, hn⟩ : ∃ n, hi - lo = n := ⟨_, rfl⟩
    have hn4 : n < 32768 := by omega
    have hsub : IntKind.u64.wrap ((hi : Int) - (lo : Int)) = (n : Int) := by rw [wrU]; omega
    have hsub1 : IntKind.u64.wrap ((n : Int) - 1) = ((n - 1 : Nat) : Int) := by rw [wrU]; omega
    have hand := u64_and_natT n (n - 1) (by omega) (by omega)
    have hrem : ((lo : Int) % (n : Int)) = ((lo % n : Nat) : Int) := by simp
    obtain ⟨D, hD⟩ : ∃ D, rngD z no (leavesK ps) lo hi = D := ⟨_, rfl⟩
    rw [hD]
    have HD := hide hD
    have HLV := hide HS.tree.pk.leaves
    have hDg : Dg D := by
      rw [← hD]
      exact log_dg z no _ hno (fun d hd => (unhide HLV d (List.mem_of_mem_drop (List.mem_of_mem_take hd))).1)
    clear hD
    have kX := (Kept.refl [] w).alloc (.cells (zb 32) 23)
    have HZX := hide (heap_alloc_new w (.cells (zb 32) 23))
    have HSX := hide (HS.old kX)
    have HKX := hide kX
    have HLB := hide (⟨hhl, hb, hc, hlh⟩ : hi ≤ (leavesK ps).length ∧ (leavesK ps).length < 32768 ∧ hi - lo ≤ c + 1 ∧ lo < hi)
    have HIH := hide ih
    have HN := hide hn
    have hlo64 : lo < 32768 := by omega
    have hhi64 : hi < 32768 := by omega
    have hn0 : n ≠ 0 := by omega
    obtain ⟨ab, hab⟩ : ∃ ab, n &&& (n - 1) = ab := ⟨_, rfl⟩
    rw [hab] at hand
    have HAB := hide hab
    obtain ⟨n1, hn1⟩ : ∃ n1, n - 1 = n1 := ⟨_, rfl⟩
    rw [hn1] at hsub1 hand
    clear ih kX HS hhl hb hc hn hab
    obtain ⟨rm, hrm⟩ : ∃ rm, lo % n = rm := ⟨_, rfl⟩
    rw [hrm] at hrem
    have HRM := hide hrm
    have hdl := hDg.1
    have HSZ := hide (by rw [brow_size, hdl]; exact Tryd.size_dig : (Tryd.prog.info? 23).map (·.size) = some (brow D).size)
    clear hrm
    by_cases hAB : ab = 0 ∧ rm = 0
    · obtain ⟨rfl, rfl⟩ := hAB
      have HP := hide (pow_all n hn4 (unhide HAB) hn0)
      have HT6 := hide (fun W (k : Kept [] (w.alloc (.cells (zb 32) 23)) W) => tz64_any n W (by omega) hn0 ((unhide HSX).old k).tab6)
      generalize Lib.ctz 64 n = h at HP HT6
      have HKE := hide (fun W (k : Kept [] (w.alloc (.cells (zb 32) 23)) W) => (by
        have h1 := unhide HLB
        have h2 := unhide HN
        have h3 := unhide HP
        have h4 := keptT_any z t v ps lo h W ((unhide HSX).old k).tree (by omega) (by rw [← h3]; exact Nat.dvd_of_mod_eq_zero (unhide HRM)) h1.2.1
        rw [← rngD_pow (no := no) (by omega) h1.1 (by omega), unhide HD] at h4
        exact h4 : Calls Tryd.prog 60 #[.pointer (some ⟨t, 0, none⟩), .int .u64 lo, .int .i64 h] W fun e w' => e = .returned (.agg (brow D)) ∧ Kept [] W w'))
      go_enter Tryd.func59, Tryd.ntmps59
      go_wp2_with (first | simp only [hsub] | simp only [hsub1] | simp only [hand] | simp only [hrem])
      rw [zb32]
      obtain ⟨X, hX⟩ : ∃ X, w.alloc (.cells (zb 32) 23) = X := ⟨_, rfl⟩
      rw [hX] at HZX HSX HKX HT6 HKE ⊢
      clear hX
      have cb := cell_of_row _ _ 0 _ _ _ (unhide HSX).hbt
      simp at cb
      have hbt9 : bt ≠ w.heap.size := by
        intro e
        have h1 := (unhide HSX).hbt
        rw [e, unhide HZX] at h1
        simp at h1
      refine wp_ra6 (by kernel_rfl) (by kernel_rfl) (by kernel_rfl) (by kernel_rfl) (by kernel_rfl) (by kernel_rfl) (by kernel_rfl) (by kernel_rfl) (by kernel_rfl) (by kernel_rfl) (by kernel_rfl) (by kernel_rfl) rfl rfl rfl
        (.pointer (some ⟨t, 0, none⟩)) (.int .u64 (lo : Int)) (.int .u64 (n : Int)) _ _ _
        (fun w' => Kept [w.heap.size] X w')
        (fun w' => Kept [] X w')
        (fun u w' => u = .int .i64 (h : Int) ∧ Kept [] X w')
        (fun u y w' => u = .int .i64 (h : Int) ∧ y = .agg (brow D) ∧ Kept [] X w')
        (fun u y x w' => w'.heap[w.heap.size]? = some (.cells (brow D) 23 (0, 0)) ∧ Kept [w.heap.size] X w')
        (by simp only [Act.put, List.setIfInBounds_toArray, List.set_cons_zero, List.set_cons_succ]; rfl) (by exact Or.inl ⟨by rfl, fun W' hW' => by have h9 := hW'.cell cb (by simp; omega); go_simp⟩)
        (by simp only [Act.put, List.setIfInBounds_toArray, List.set_cons_zero, List.set_cons_succ]; rfl) (by exact Or.inl ⟨by rfl, fun W' hW' => by go_simp⟩)
        (by simp only [Act.put, List.setIfInBounds_toArray, List.set_cons_zero, List.set_cons_succ]; rfl) (by exact Or.inl ⟨by rfl, fun W' hW' => by go_simp⟩)
        (Kept.refl [] X).drew
        ⟨fun w' h => h.mono (by simp), fun u w' h => h.2.mono (by simp), fun u y w' h => h.2.2.mono (by simp), fun u y x w' h => h.2⟩
        (by intro w' i K hK; exact wp_callN rfl Tryd.call61 [.int .u64 (n : Int)] rfl (unhide HT6 w' i) (fun e w2 h => ⟨_, h.1, hK _ _ ⟨rfl, by rw [h.2]; exact i⟩⟩))
        (by rintro u w' ⟨rfl, i⟩ K hK; exact wp_callN rfl Tryd.call60 [.pointer (some ⟨t, 0, none⟩), .int .u64 (lo : Int), .int .i64 (h : Int)] rfl (unhide HKE w' i) (fun e w2 h => ⟨_, h.1, hK _ _ ⟨rfl, rfl, i.trans h.2 (by simp)⟩⟩))
        (by
          intro u y w' hh K hK
          simp only [Act.put, List.setIfInBounds_toArray, List.set_cons_zero, List.set_cons_succ] at hK ⊢
          obtain ⟨rfl, rfl, i⟩ := hh
          exact wp_store_row 23 _ _ rfl w.heap.size (brow D) rfl rfl _ (zb 32) (i.heap (unhide HZX) (by simp)) (unhide HSZ) (by rw [zb_size, brow_size, hdl]) (brow_one _) (hK undef _ ⟨setRow_heap _ _ _ _ _ _ (i.heap (unhide HZX) (by simp)), (i.mono (by simp)).setRow (Or.inl (by simp)) _⟩))
        ?_
      rintro u y x1 Y ⟨hrow, kY⟩
      simp only [Act.put, List.setIfInBounds_toArray, List.set_cons_zero, List.set_cons_succ]
      have HRY := hide hrow
      have HKY := hide ((unhide HKX).trans kY (by simp))
      clear hrow kY
      go_wp2_with fail
      refine bodyPost_ret (v := .agg (brow D)) ?_ rfl ⟨rfl, unhide HKY⟩
      exact results_cell_row rfl _ _ w.heap.size _ (brow D) (0, 0) _ rfl (unhide HRY) Tryd.underlying23 rfl (unhide HSZ)
    · have hn2 : 2 ≤ n := by
        rcases (by omega : n = 1 ∨ 2 ≤ n) with h9 | h9
        · exfalso
          refine hAB ⟨?_, ?_⟩
          · have := unhide HAB; rw [h9] at this; simpa using this.symm
          · have := unhide HRM; rw [h9, Nat.mod_one] at this; exact this.symm
        · exact h9
      have HBL := hide (bitLen_log n1 (by omega) (by omega))
      have hbel : belT n = 2 ^ n1.log2 := by unfold belT; rw [hn1]
      have hbl := belT_lt hn2
      rw [hbel] at hbl
      have hm64 : n1.log2 < 64 := by
        rcases Nat.lt_or_ge n1.log2 64 with h9 | h9
        · exact h9
        · have : 2 ^ 64 ≤ 2 ^ n1.log2 := Nat.pow_le_pow_right (by omega) h9
          omega
      generalize n1.log2 = m at HBL hbel hbl hm64
      obtain ⟨pm, hpm⟩ : ∃ pm, 2 ^ m = pm := ⟨_, rfl⟩
      have HPM := hide hpm
      rw [hpm] at hbel hbl
      have HCUT := hide (by
        have h1 := unhide HLB
        have h2 := unhide HN
        have h3 := rngD_cut (z := z) (no := no) (L := leavesK ps) (lo := lo) (hi := hi) (by omega) h1.1
        rw [h2, hbel, unhide HD] at h3
        exact h3 : D = nodT z (rngD z no (leavesK ps) lo (lo + pm)) (rngD z no (leavesK ps) (lo + pm) hi))
      have hlm : IntKind.u64.wrap ((lo : Int) + (pm : Int)) = ((lo + pm : Nat) : Int) := by rw [wrU]; omega
      obtain ⟨md, hmd⟩ : ∃ md, lo + pm = md := ⟨_, rfl⟩
      rw [hmd] at hlm HCUT
      have HR1 := hide (fun W (k : Kept [] (w.alloc (.cells (zb 32) 23)) W) => unhide HIH lo md W (by have h1 := unhide HLB; have h2 := unhide HN; omega) (by omega) (by have h1 := unhide HLB; have h2 := unhide HN; omega) (unhide HLB).2.1 ((unhide HSX).old k))
      have HR2 := hide (fun W (k : Kept [] (w.alloc (.cells (zb 32) 23)) W) => unhide HIH md hi W (by have h1 := unhide HLB; have h2 := unhide HN; omega) (by have h1 := unhide HLB; have h2 := unhide HN; omega) (unhide HLB).1 (unhide HLB).2.1 ((unhide HSX).old k))
      have hleaf : ∀ a b, Dg (rngD z no (leavesK ps) a b) ∧ formB z (rngD z no (leavesK ps) a b) = true := fun a b => ⟨log_dg z no _ hno (fun d hd => (unhide HLV d (List.mem_of_mem_drop (List.mem_of_mem_take hd))).1), log_form z no _ (unhide HSX).tree.wid hnf (fun d hd => (unhide HLV d (List.mem_of_mem_drop (List.mem_of_mem_take hd))).2)⟩
      have HOV := hide (fun W (k : Kept [] (w.alloc (.cells (zb 32) 23)) W) => overT_any z (rngD z no (leavesK ps) lo md) (rngD z no (leavesK ps) md hi) W (unhide HSX).tree.wid (hleaf _ _).1 (hleaf _ _).1 (hleaf _ _).2 (hleaf _ _).2 ((unhide HSX).old k).tabs)
      rw [← unhide HCUT] at HOV
      have hl1 := (hleaf lo md).1.1
      have hl2 := (hleaf md hi).1.1
      generalize rngD z no (leavesK ps) lo md = D1 at HR1 HOV hl1
      generalize rngD z no (leavesK ps) md hi = D2 at HR2 HOV hl2
      clear hleaf HCUT hbel hbl hpm hmd HIH
      rcases (by omega : ¬ ab = 0 ∨ (ab = 0 ∧ ¬ rm = 0)) with hA | ⟨rfl, hA⟩
      · have hA' : ((ab : Nat) : Int) ≠ 0 := by omega
        go_enter Tryd.func59, Tryd.ntmps59
        go_wp2_with (first | simp only [hsub] | simp only [hsub1] | simp only [hand] | simp only [hrem])
        rw [zb32]
        refine Calls.mono (len64_any n1 _ (by omega)) ?_
        rintro e w1 ⟨rfl, k1⟩
        rw [unhide HBL]
        have HK1 := hide k1
        clear k1
        have hm1 : ((m + 1 : Nat) : Int) = (m : Int) + 1 := by omega
        rw [hm1]
        go_wp2_with (first
          | (refine wpList_shl1 rfl _ _ (.tmp 32) rfl m hm64 rfl ?_; rw [unhide HPM])
          | simp only [hlm])
        obtain ⟨X, hX⟩ : ∃ X, w.alloc (.cells (zb 32) 23) = X := ⟨_, rfl⟩
        rw [hX] at HZX HSX HKX HR1 HR2 HOV HK1
        clear hX
        have HS1 := hide ((unhide HSX).old (unhide HK1))
        have HZ1 := hide ((unhide HK1).heap (unhide HZX) (by simp))
        have cb := cell_of_row _ _ 0 _ _ _ (unhide HS1).hbt
        have cs := cell_of_row _ _ 0 _ _ _ (unhide HS1).hbs
        have ct := cell_of_row _ _ 0 _ _ _ (unhide HS1).tree.row
        simp at cb cs ct
        have hbt9 : bt ≠ w.heap.size := by
          intro e
          have h1 := (unhide HSX).hbt
          rw [e, unhide HZX] at h1
          simp at h1
        have hbs9 : bs ≠ w.heap.size := by
          intro e
          have h1 := (unhide HSX).hbs
          rw [e, unhide HZX] at h1
          simp at h1
        have ht9 : t ≠ w.heap.size := by
          intro e
          have h1 := (unhide HSX).tree.row
          rw [e, unhide HZX] at h1
          simp at h1
        refine wp_rb14 (by kernel_rfl) (by kernel_rfl) (by kernel_rfl) (by kernel_rfl) (by kernel_rfl) (by kernel_rfl) (by kernel_rfl) (by kernel_rfl) (by kernel_rfl) (by kernel_rfl) (by kernel_rfl) (by kernel_rfl) (by kernel_rfl) (by kernel_rfl) (by kernel_rfl) (by kernel_rfl) (by kernel_rfl) (by kernel_rfl) (by kernel_rfl) (by kernel_rfl) (by kernel_rfl) (by kernel_rfl) (by kernel_rfl) (by kernel_rfl) (by kernel_rfl) (by kernel_rfl) (by kernel_rfl) rfl rfl rfl rfl
          (.pointer (some ⟨t, 0, none⟩)) (.pointer (some ⟨t, 0, none⟩)) (.pointer (some ⟨t, 0, none⟩)) (.int .i64 z) (sumV bt bs) (.int .u64 (lo : Int)) (.int .u64 (md : Int)) (sumV bt bs) (.int .u64 (md : Int)) (.int .u64 (hi : Int)) _ _ _ _ _ _ _ _ _ _
          (fun w' => Kept [w.heap.size] w1 w')
          (fun w' => Kept [] w1 w')
          (fun u w' => u = .agg (brow D1) ∧ Kept [] w1 w')
          (fun u y w' => u = .agg (brow D1) ∧ y = .agg (brow D2) ∧ Kept [] w1 w')
          (fun u y x w' => u = .agg (brow D1) ∧ y = .agg (brow D2) ∧ x = .agg (brow D) ∧ Kept [] w1 w')
          (fun u y x q w' => w'.heap[w.heap.size]? = some (.cells (brow D) 23 (0, 0)) ∧ Kept [w.heap.size] w1 w')
          (by simp only [Act.put, List.setIfInBounds_toArray, List.set_cons_zero, List.set_cons_succ]; rfl) (by exact Or.inl ⟨by rfl, fun W' hW' => by have h9 := hW'.cell cb (by simp; omega); go_simp⟩)
          (by simp only [Act.put, List.setIfInBounds_toArray, List.set_cons_zero, List.set_cons_succ]; rfl) (by exact Or.inl ⟨by rfl, fun W' hW' => by go_simp⟩)
          (by simp only [Act.put, List.setIfInBounds_toArray, List.set_cons_zero, List.set_cons_succ]; rfl) (by exact Or.inl ⟨by rfl, fun W' hW' => by go_simp⟩)
          (by simp only [Act.put, List.setIfInBounds_toArray, List.set_cons_zero, List.set_cons_succ]; rfl) (by exact Or.inl ⟨by rfl, fun W' hW' => by have h9 := hW'.cell ct (by simp; omega); go_simp⟩)
          (by simp only [Act.put, List.setIfInBounds_toArray, List.set_cons_zero, List.set_cons_succ]; rfl) (by exact Or.inl ⟨by rfl, fun W' hW' => by have h9 := hW'.cell cs (by simp; omega); go_simp⟩)
          (by simp only [Act.put, List.setIfInBounds_toArray, List.set_cons_zero, List.set_cons_succ]; rfl) (by exact Or.inl ⟨by rfl, fun W' hW' => by go_simp⟩)
          (by simp only [Act.put, List.setIfInBounds_toArray, List.set_cons_zero, List.set_cons_succ]; rfl) (by exact Or.inl ⟨by rfl, fun W' hW' => by go_simp⟩)
          (by simp only [Act.put, List.setIfInBounds_toArray, List.set_cons_zero, List.set_cons_succ]; rfl) (by exact Or.inl ⟨by rfl, fun W' hW' => by have h9 := hW'.cell cs (by simp; omega); go_simp⟩)
          (by simp only [Act.put, List.setIfInBounds_toArray, List.set_cons_zero, List.set_cons_succ]; rfl) (by exact Or.inl ⟨by rfl, fun W' hW' => by go_simp⟩)
          (by simp only [Act.put, List.setIfInBounds_toArray, List.set_cons_zero, List.set_cons_succ]; rfl) (by exact Or.inl ⟨by rfl, fun W' hW' => by go_simp⟩)
          (Kept.refl [] w1).drew
          ⟨fun w' h => h.mono (by simp), fun u w' h => h.2.mono (by simp), fun u y w' h => h.2.2.mono (by simp), fun u y x w' h => h.2.2.2.mono (by simp), fun u y x q w' h => h.2⟩
          (by intro w' i K hK; exact wp_callC rfl #[.pointer (some ⟨bt, 0, none⟩), .pointer (some ⟨bs, 0, none⟩)] rfl Tryd.callSum [.int .u64 (lo : Int), .int .u64 (md : Int)] rfl (unhide HR1 w' ((unhide HK1).trans i (by simp))) (fun e w2 h => ⟨_, h.1, hK _ _ ⟨rfl, i.trans h.2 (by simp)⟩⟩))
          (by rintro u w' ⟨rfl, i⟩ K hK; exact wp_callC rfl #[.pointer (some ⟨bt, 0, none⟩), .pointer (some ⟨bs, 0, none⟩)] rfl Tryd.callSum [.int .u64 (md : Int), .int .u64 (hi : Int)] rfl (unhide HR2 w' ((unhide HK1).trans i (by simp))) (fun e w2 h => ⟨_, h.1, hK _ _ ⟨rfl, rfl, i.trans h.2 (by simp)⟩⟩))
          (by
            intro u y w' hh K hK
            simp only [Act.put, List.setIfInBounds_toArray, List.set_cons_zero, List.set_cons_succ] at hK ⊢
            obtain ⟨rfl, rfl, i⟩ := hh
            exact wp_callN rfl Tryd.call63 [.int .i64 z, .agg (brow D1), .agg (brow D2)] rfl (unhide HOV w' ((unhide HK1).trans i (by simp))) (fun e w2 h => ⟨_, h.1, hK _ _ ⟨rfl, rfl, rfl, i.trans h.2 (by simp)⟩⟩))
          (by
            intro u y x w' hh K hK
            simp only [Act.put, List.setIfInBounds_toArray, List.set_cons_zero, List.set_cons_succ] at hK ⊢
            obtain ⟨rfl, rfl, rfl, i⟩ := hh
            exact wp_store_row 23 _ _ rfl w.heap.size (brow D) rfl rfl _ (zb 32) (i.heap (unhide HZ1) (by simp)) (unhide HSZ) (by rw [zb_size, brow_size, hdl]) (brow_one _) (hK undef _ ⟨setRow_heap _ _ _ _ _ _ (i.heap (unhide HZ1) (by simp)), (i.mono (by simp)).setRow (Or.inl (by simp)) _⟩))
          ?_
        rintro u y x1 q Y ⟨hrow, kY⟩
        simp only [Act.put, List.setIfInBounds_toArray, List.set_cons_zero, List.set_cons_succ]
        have HRY := hide hrow
        have HKY := hide (((unhide HKX).trans (unhide HK1) (by simp)).trans kY (by simp))
        clear hrow kY
        go_wp2_with fail
        refine bodyPost_ret (v := .agg (brow D)) ?_ rfl ⟨rfl, unhide HKY⟩
        exact results_cell_row rfl _ _ w.heap.size _ (brow D) (0, 0) _ rfl (unhide HRY) Tryd.underlying23 rfl (unhide HSZ)
      · have hA' : ((rm : Nat) : Int) ≠ 0 := by omega
        go_enter Tryd.func59, Tryd.ntmps59
        go_wp2_with (first | simp only [hsub] | simp only [hsub1] | simp only [hand] | simp only [hrem])
        rw [zb32]
        refine Calls.mono (len64_any n1 _ (by omega)) ?_
        rintro e w1 ⟨rfl, k1⟩
        rw [unhide HBL]
        have HK1 := hide k1
        clear k1
        have hm1 : ((m + 1 : Nat) : Int) = (m : Int) + 1 := by omega
        rw [hm1]
        go_wp2_with (first
          | (refine wpList_shl1 rfl _ _ (.tmp 32) rfl m hm64 rfl ?_; rw [unhide HPM])
          | simp only [hlm])
        obtain ⟨X, hX⟩ : ∃ X, w.alloc (.cells (zb 32) 23) = X := ⟨_, rfl⟩
        rw [hX] at HZX HSX HKX HR1 HR2 HOV HK1
        clear hX
        have HS1 := hide ((unhide HSX).old (unhide HK1))
        have HZ1 := hide ((unhide HK1).heap (unhide HZX) (by simp))
        have cb := cell_of_row _ _ 0 _ _ _ (unhide HS1).hbt
        have cs := cell_of_row _ _ 0 _ _ _ (unhide HS1).hbs
        have ct := cell_of_row _ _ 0 _ _ _ (unhide HS1).tree.row
        simp at cb cs ct
        have hbt9 : bt ≠ w.heap.size := by
          intro e
          have h1 := (unhide HSX).hbt
          rw [e, unhide HZX] at h1
          simp at h1
        have hbs9 : bs ≠ w.heap.size := by
          intro e
          have h1 := (unhide HSX).hbs
          rw [e, unhide HZX] at h1
          simp at h1
        have ht9 : t ≠ w.heap.size := by
          intro e
          have h1 := (unhide HSX).tree.row
          rw [e, unhide HZX] at h1
          simp at h1
        refine wp_rb14 (by kernel_rfl) (by kernel_rfl) (by kernel_rfl) (by kernel_rfl) (by kernel_rfl) (by kernel_rfl) (by kernel_rfl) (by kernel_rfl) (by kernel_rfl) (by kernel_rfl) (by kernel_rfl) (by kernel_rfl) (by kernel_rfl) (by kernel_rfl) (by kernel_rfl) (by kernel_rfl) (by kernel_rfl) (by kernel_rfl) (by kernel_rfl) (by kernel_rfl) (by kernel_rfl) (by kernel_rfl) (by kernel_rfl) (by kernel_rfl) (by kernel_rfl) (by kernel_rfl) (by kernel_rfl) rfl rfl rfl rfl
          (.pointer (some ⟨t, 0, none⟩)) (.pointer (some ⟨t, 0, none⟩)) (.pointer (some ⟨t, 0, none⟩)) (.int .i64 z) (sumV bt bs) (.int .u64 (lo : Int)) (.int .u64 (md : Int)) (sumV bt bs) (.int .u64 (md : Int)) (.int .u64 (hi : Int)) _ _ _ _ _ _ _ _ _ _
          (fun w' => Kept [w.heap.size] w1 w')
          (fun w' => Kept [] w1 w')
          (fun u w' => u = .agg (brow D1) ∧ Kept [] w1 w')
          (fun u y w' => u = .agg (brow D1) ∧ y = .agg (brow D2) ∧ Kept [] w1 w')
          (fun u y x w' => u = .agg (brow D1) ∧ y = .agg (brow D2) ∧ x = .agg (brow D) ∧ Kept [] w1 w')
          (fun u y x q w' => w'.heap[w.heap.size]? = some (.cells (brow D) 23 (0, 0)) ∧ Kept [w.heap.size] w1 w')
          (by simp only [Act.put, List.setIfInBounds_toArray, List.set_cons_zero, List.set_cons_succ]; rfl) (by exact Or.inl ⟨by rfl, fun W' hW' => by have h9 := hW'.cell cb (by simp; omega); go_simp⟩)
          (by simp only [Act.put, List.setIfInBounds_toArray, List.set_cons_zero, List.set_cons_succ]; rfl) (by exact Or.inl ⟨by rfl, fun W' hW' => by go_simp⟩)
          (by simp only [Act.put, List.setIfInBounds_toArray, List.set_cons_zero, List.set_cons_succ]; rfl) (by exact Or.inl ⟨by rfl, fun W' hW' => by go_simp⟩)
          (by simp only [Act.put, List.setIfInBounds_toArray, List.set_cons_zero, List.set_cons_succ]; rfl) (by exact Or.inl ⟨by rfl, fun W' hW' => by have h9 := hW'.cell ct (by simp; omega); go_simp⟩)
          (by simp only [Act.put, List.setIfInBounds_toArray, List.set_cons_zero, List.set_cons_succ]; rfl) (by exact Or.inl ⟨by rfl, fun W' hW' => by have h9 := hW'.cell cs (by simp; omega); go_simp⟩)
          (by simp only [Act.put, List.setIfInBounds_toArray, List.set_cons_zero, List.set_cons_succ]; rfl) (by exact Or.inl ⟨by rfl, fun W' hW' => by go_simp⟩)
          (by simp only [Act.put, List.setIfInBounds_toArray, List.set_cons_zero, List.set_cons_succ]; rfl) (by exact Or.inl ⟨by rfl, fun W' hW' => by go_simp⟩)
          (by simp only [Act.put, List.setIfInBounds_toArray, List.set_cons_zero, List.set_cons_succ]; rfl) (by exact Or.inl ⟨by rfl, fun W' hW' => by have h9 := hW'.cell cs (by simp; omega); go_simp⟩)
          (by simp only [Act.put, List.setIfInBounds_toArray, List.set_cons_zero, List.set_cons_succ]; rfl) (by exact Or.inl ⟨by rfl, fun W' hW' => by go_simp⟩)
          (by simp only [Act.put, List.setIfInBounds_toArray, List.set_cons_zero, List.set_cons_succ]; rfl) (by exact Or.inl ⟨by rfl, fun W' hW' => by go_simp⟩)
          (Kept.refl [] w1).drew
          ⟨fun w' h => h.mono (by simp), fun u w' h => h.2.mono (by simp), fun u y w' h => h.2.2.mono (by simp), fun u y x w' h => h.2.2.2.mono (by simp), fun u y x q w' h => h.2⟩
          (by intro w' i K hK; exact wp_callC rfl #[.pointer (some ⟨bt, 0, none⟩), .pointer (some ⟨bs, 0, none⟩)] rfl Tryd.callSum [.int .u64 (lo : Int), .int .u64 (md : Int)] rfl (unhide HR1 w' ((unhide HK1).trans i (by simp))) (fun e w2 h => ⟨_, h.1, hK _ _ ⟨rfl, i.trans h.2 (by simp)⟩⟩))
          (by rintro u w' ⟨rfl, i⟩ K hK; exact wp_callC rfl #[.pointer (some ⟨bt, 0, none⟩), .pointer (some ⟨bs, 0, none⟩)] rfl Tryd.callSum [.int .u64 (md : Int), .int .u64 (hi : Int)] rfl (unhide HR2 w' ((unhide HK1).trans i (by simp))) (fun e w2 h => ⟨_, h.1, hK _ _ ⟨rfl, rfl, i.trans h.2 (by simp)⟩⟩))
          (by
            intro u y w' hh K hK
            simp only [Act.put, List.setIfInBounds_toArray, List.set_cons_zero, List.set_cons_succ] at hK ⊢
            obtain ⟨rfl, rfl, i⟩ := hh
            exact wp_callN rfl Tryd.call63 [.int .i64 z, .agg (brow D1), .agg (brow D2)] rfl (unhide HOV w' ((unhide HK1).trans i (by simp))) (fun e w2 h => ⟨_, h.1, hK _ _ ⟨rfl, rfl, rfl, i.trans h.2 (by simp)⟩⟩))
          (by
            intro u y x w' hh K hK
            simp only [Act.put, List.setIfInBounds_toArray, List.set_cons_zero, List.set_cons_succ] at hK ⊢
            obtain ⟨rfl, rfl, rfl, i⟩ := hh
            exact wp_store_row 23 _ _ rfl w.heap.size (brow D) rfl rfl _ (zb 32) (i.heap (unhide HZ1) (by simp)) (unhide HSZ) (by rw [zb_size, brow_size, hdl]) (brow_one _) (hK undef _ ⟨setRow_heap _ _ _ _ _ _ (i.heap (unhide HZ1) (by simp)), (i.mono (by simp)).setRow (Or.inl (by simp)) _⟩))
          ?_
        rintro u y x1 q Y ⟨hrow, kY⟩
        simp only [Act.put, List.setIfInBounds_toArray, List.set_cons_zero, List.set_cons_succ]
        have HRY := hide hrow
        have HKY := hide (((unhide HKX).trans (unhide HK1) (by simp)).trans kY (by simp))
        clear hrow kY
        go_wp2_with fail
        refine bodyPost_ret (v := .agg (brow D)) ?_ rfl ⟨rfl, unhide HKY⟩
        exact results_cell_row rfl _ _ w.heap.size _ (brow D) (0, 0) _ rfl (unhide HRY) Tryd.underlying23 rfl (unhide HSZ)
end Go.Proofs.YtbljofojeagdkaaDoor
