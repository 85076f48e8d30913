import Derived.Test.YtbljofojeagdkaaDoorTopC
import Derived.Deep.RegionHeld3
import Derived.Test.YtbljofojeagdkaaDoorTopB
namespace Go.Proofs.YtbljofojeagdkaaDoor
open Go.RowKit Go.BigFrame
set_option linter.unusedVariables false
set_option linter.unusedSimpArgs false

theorem Tryd.size_roots : (Tryd.prog.info? 65).map (·.size) = some 64 := by kernel_rfl
/-- A pair of roots. -/
def pw (d : List Nat × List Nat) : Array Value := (d.1.map u8 ++ d.2.map u8).toArray
def opP (o : Option (List Nat × List Nat)) : List Nat × List Nat := o.getD (zD, zD)
def opF (o : Option (List Nat × List Nat)) : Nat := if o.isSome then 0 else 10

theorem foldl_set (vs : List Value) : ∀ (pre mid post : List Value) (k : Nat), mid.length = vs.length → ((vs.zipIdx k).foldl (fun cs (p : Value × Nat) => cs.setIfInBounds (pre.length + p.2 - k) p.1) (pre ++ (mid ++ post)).toArray) = (pre ++ (vs ++ post)).toArray := by
  induction vs with
  | nil => intro pre mid post k h; have : mid = [] := List.eq_nil_of_length_eq_zero (by simpa using h); subst this; rfl
  | cons v r ih =>
    intro pre mid post k h
    obtain ⟨x, mid, rfl⟩ : ∃ x q, mid = x :: q := by cases mid with | nil => simp at h | cons x q => exact ⟨x, q, rfl⟩
    rw [List.zipIdx_cons, List.foldl_cons]
    have e1 : (pre ++ (x :: mid ++ post)).toArray.setIfInBounds (pre.length + k - k) v = ((pre ++ [v]) ++ (mid ++ post)).toArray := by rw [Nat.add_sub_cancel]; simp
    have h2 := ih (pre ++ [v]) mid post (k + 1) (by simpa using h)
    simp only [e1]
    rw [List.length_append, List.length_cons, List.length_nil] at h2
    have e2 : (fun (cs : Array Value) (p : Value × Nat) => cs.setIfInBounds (pre.length + p.2 - k) p.1) = fun cs p => cs.setIfInBounds (pre.length + (0 + 1) + p.2 - (k + 1)) p.1 := by funext cs p; congr 1; omega
    rw [e2, h2]; simp
theorem pw_size {d : List Nat × List Nat} (h1 : d.1.length = 32) (h2 : d.2.length = 32) : (pw d).size = 64 := by simp [pw, h1, h2]
theorem pw_one (d : List Nat × List Nat) : (pw d).all (·.oneCell') = true := by
  rw [Array.all_eq_true_iff_forall_mem]
  intro v hv
  simp [pw] at hv
  rcases hv with ⟨x, _, rfl⟩ | ⟨x, _, rfl⟩ <;> rfl
set_option maxRecDepth 100000 in
theorem Tryd.size_pz : (Tryd.prog.info? 65).map (·.size) = some (pw (zD, zD)).size := by rw [pw_size rfl rfl]; exact Tryd.size_roots
set_option maxRecDepth 100000 in
theorem built_pair (l m : List Nat) (hl : l.length = 32) (hm : m.length = 32) : Tryd.prog.built 65 [(0, .agg (l.map u8).toArray), (1, .agg (m.map u8).toArray)] = some (pw (l, m)) := by
  have hi : (Tryd.prog.info? 65).isSome = true := by kernel_rfl
  obtain ⟨it, hit⟩ := Option.isSome_iff_exists.1 hi
  have hz : (Tryd.prog.info? 65).bind (·.zero) = some (.agg (pw (zD, zD))) := by kernel_rfl
  rw [hit, Option.bind_some] at hz
  have hpl : ∀ fs, Tryd.prog.underlying 65 = some (.struct fs) → fs.toList.mapM (fun f => (Tryd.prog.info? f.type).map fun i => (f.offset, i.size)) = some [(0, 32), (32, 32)] := by
    intro fs hfs
    rw [Tryd.underlying65] at hfs
    injection hfs with hfs
    injection hfs with hfs
    subst hfs
    kernel_rfl
  have hex : ∃ fs, Tryd.prog.underlying 65 = some (.struct fs) := ⟨_, Tryd.underlying65⟩
  obtain ⟨fs, hfs⟩ := hex
  have hpl := hpl fs hfs
  unfold Program.built
  rw [hit, hfs]
  simp only [hz, hpl]
  have z1 : zD.length = 32 := zD_dg.1
  have f2 := foldl_set (l.map u8) [] (zD.map u8) (zD.map u8) 0 (by simp [hl, z1])
  have f3 := foldl_set (m.map u8) (l.map u8) (zD.map u8) [] 0 (by simp [hm, z1])
  simp [Instr.fill, Value.cells, pw, hl, hm, z1] at f2 f3 ⊢
  rw [f2]
  exact ⟨by simp [hl, z1], f3⟩

set_option maxRecDepth 100000 in
set_option maxHeartbeats 1000000 in
theorem lowest_any (old : List Nat) (b : Bool) (pv : Value) (p : List (List Nat)) (w : World) (ho : Dg old) (hp : RdD w pv p) (z : Int) (n : Nat) :
    Calls Tryd.prog 51 #[.agg (brow old), .bool b, pv] w fun e w' => e = .returned (.tuple #[.agg (pw (opP (twD z old p.reverse n n b))), .int .i64 (opF (twD z old p.reverse n n b))]) ∧ Kept [] w w' := by
  have HP := hide hp
  obtain ⟨ao, len, cap, rfl, h1, h2, h3, h4, h5⟩ := hp
  subst h1
  have H5 := hide h5
  clear h4 h5
  have HO := hide ho
  have hol := ho.1
  obtain ⟨F, hF⟩ : ∃ F, twD z old p.reverse n n b = F := ⟨_, rfl⟩
  have HF := hide hF
  rw [hF]
  clear hF
  go_enter Tryd.func51, Tryd.ntmps51
  have HGL := hide (((Kept.refl [] (w.alloc (.cells (brow old) 23))).alloc (.cells (zb 64) 65)).heap (heap_alloc_new w (.cells (brow old) 23)) (by simp))
  have HGZ := hide (alloc_at w (.cells (brow old) 23) (.cells (zb 64) 65))
  have HK0 := hide (((Kept.refl [] w).alloc (.cells (brow old) 23)).alloc (.cells (zb 64) 65))
  match p, HP, H5, HF, h2 with
  | [], HP, H5, HF, h2 =>
    clear H5
    simp only [List.length_nil] at *
    cases b with
    | true =>
      have HC := hide (by rw [← unhide HF]; simp [twD] : F = some (old, old))
      go_wp2_with (first
        | (refine wpList_load_mid rfl 23 _ rfl w.heap.size 0 rfl (old.map u8) _ (range_row (unhide HGL)) Tryd.underlying23 rfl (by rw [List.length_map, hol]; exact Tryd.size_dig) ?_)
        | (refine wpList_build_as rfl 65 _ rfl (pw (old, old)) (by simp only [List.map_toArray, List.map_cons, List.map_nil]; exact built_pair old old hol hol) ?_)
        | (rw [zb64]; refine wpList_store_row rfl 65 _ _ rfl (w.heap.size + 1) (pw (old, old)) rfl rfl _ (zb 64) (unhide HGZ) (by rw [pw_size hol hol]; exact Tryd.size_roots) (by rw [zb_size, pw_size hol hol]) (pw_one _) ?_))
      rw [unhide HC]
      refine bodyPost_ret (v := .tuple #[.agg (pw (old, old)), .int .i64 0]) ?_ rfl ⟨rfl, (unhide HK0).setRow (Or.inr (by omega)) _⟩
      exact results_cell_tmp rfl _ _ (w.heap.size + 1) _ (pw (old, old)) (0, 0) _ rfl (setRow_heap _ _ _ _ _ _ (unhide HGZ)) Tryd.underlying65 rfl (by rw [pw_size hol hol]; exact Tryd.size_roots) _ rfl
    | false =>
      have HC := hide (by rw [← unhide HF]; simp [twD] : F = none)
      go_wp2_with (first
        | (refine wpList_build_as rfl 65 #[] rfl (pw (zD, zD)) (by kernel_rfl) ?_)
        | (rw [zb64]; refine wpList_store_row rfl 65 _ _ rfl (w.heap.size + 1) (pw (zD, zD)) rfl rfl _ (zb 64) (unhide HGZ) Tryd.size_pz (by rw [zb_size, pw_size rfl rfl]) (pw_one _) ?_))
      rw [unhide HC]
      refine bodyPost_ret (v := .tuple #[.agg (pw (zD, zD)), .int .i64 10]) ?_ rfl ⟨rfl, (unhide HK0).setRow (Or.inr (by omega)) _⟩
      exact results_cell_tmp rfl _ _ (w.heap.size + 1) _ (pw (zD, zD)) (0, 0) _ rfl (setRow_heap _ _ _ _ _ _ (unhide HGZ)) Tryd.underlying65 rfl Tryd.size_pz _ rfl
  | [x], HP, H5, HF, h2 =>
    have hx := (unhide HP).dg (show x ∈ [x] by simp)
    have hxl := hx.1
    obtain ⟨b0, off, rfl, hc⟩ := unhide H5 (by simp)
    have HRG := hide (range_kept (by simpa using hc 0 (by simp) : w.rangeAt b0 off (x.map u8)) (unhide HK0) (by simp))
    clear H5 hc hx
    simp only [List.length_cons, List.length_nil, Nat.zero_add] at *
    cases b with
    | true =>
      have HC := hide (by rw [← unhide HF]; simp [twD] : F = none)
      go_wp2_with (first
        | (refine wpList_build_as rfl 65 #[] rfl (pw (zD, zD)) (by kernel_rfl) ?_)
        | (rw [zb64]; refine wpList_store_row rfl 65 _ _ rfl (w.heap.size + 1) (pw (zD, zD)) rfl rfl _ (zb 64) (unhide HGZ) Tryd.size_pz (by rw [zb_size, pw_size rfl rfl]) (pw_one _) ?_))
      rw [unhide HC]
      refine bodyPost_ret (v := .tuple #[.agg (pw (zD, zD)), .int .i64 10]) ?_ rfl ⟨rfl, (unhide HK0).setRow (Or.inr (by omega)) _⟩
      exact results_cell_tmp rfl _ _ (w.heap.size + 1) _ (pw (zD, zD)) (0, 0) _ rfl (setRow_heap _ _ _ _ _ _ (unhide HGZ)) Tryd.underlying65 rfl Tryd.size_pz _ rfl
    | false =>
      have HC := hide (by rw [← unhide HF]; simp [twD] : F = some (x, x))
      go_wp2_with fail
      rw [zb64]
      obtain ⟨W, hW⟩ : ∃ W, (w.alloc (.cells (brow old) 23)).alloc (.cells (zb 64) 65) = W := ⟨_, rfl⟩
      rw [hW] at HGZ HK0 HRG ⊢
      have HSX := hide (by rw [List.length_map, hxl]; exact Tryd.size_dig : (Tryd.prog.info? 23).map (·.size) = some (x.map u8).length)
      refine wp_quiet_tail 6 (by kernel_rfl) (by kernel_rfl) ?_
      simp only [List.take_succ_cons, List.take_zero, List.drop_succ_cons, List.drop_zero]
      repeat (go_big_quiet_step (fail))
      refine wpQuiet_mid rfl 23 _ rfl b0 off rfl (x.map u8) _ (fun w' hw' => by obtain ⟨n, rfl⟩ := hw'; exact unhide HRG) Tryd.underlying23 rfl (unhide HSX) ?_
      simp only [Act.put, List.setIfInBounds_toArray, List.set_cons_succ, List.set_cons_zero]
      repeat (go_big_quiet_step (fail))
      refine wpQuiet_mid rfl 23 _ rfl b0 off rfl (x.map u8) _ (fun w' hw' => by obtain ⟨n, rfl⟩ := hw'; exact unhide HRG) Tryd.underlying23 rfl (unhide HSX) ?_
      simp only [Act.put, List.setIfInBounds_toArray, List.set_cons_succ, List.set_cons_zero]
      refine wpQuiet_nil ?_
      rintro _ ⟨n1, rfl⟩
      go_wp2_with (first
        | (refine wpList_build_as rfl 65 _ rfl (pw (x, x)) (by simp only [List.map_toArray, List.map_cons, List.map_nil]; exact built_pair x x hxl hxl) ?_)
        | (refine wpList_store_row rfl 65 _ _ rfl (w.heap.size + 1) (pw (x, x)) rfl rfl _ (zb 64) (unhide HGZ) (by rw [pw_size hxl hxl]; exact Tryd.size_roots) (by rw [zb_size, pw_size hxl hxl]) (pw_one _) ?_))
      rw [unhide HC]
      refine bodyPost_ret (v := .tuple #[.agg (pw (x, x)), .int .i64 0]) ?_ rfl ⟨rfl, ((unhide HK0).drewN n1).setRow (Or.inr (by omega)) _⟩
      exact results_cell_tmp rfl _ ((W.drewN n1).setRow (w.heap.size + 1) (pw (x, x))) (w.heap.size + 1) _ (pw (x, x)) (0, 0) _ (by rfl) (setRow_heap (W.drewN n1) _ _ _ _ _ (unhide HGZ)) Tryd.underlying65 rfl (by rw [pw_size hxl hxl]; exact Tryd.size_roots) _ rfl
  | x :: y :: r, HP, H5, HF, h2 =>
    clear H5
    have hn0 : (((r.length + 1 + 1 : Nat) : Int) == 0) = false := by simp; omega
    have hn1 : (((r.length + 1 + 1 : Nat) : Int) == 1) = false := by simp; omega
    simp only [List.length_cons] at *
    have HC := hide (by
      rw [← unhide HF]
      obtain ⟨u, v, hu⟩ : ∃ u v, (x :: y :: r).reverse = u :: v := by
        cases h9 : (x :: y :: r).reverse with
        | nil => simp at h9
        | cons u v => exact ⟨u, v, rfl⟩
      have hv : v ≠ [] := by
        intro h
        have := congrArg List.length hu
        rw [h] at this
        simp at this
      rw [hu]
      simp [twD, hv] : F = none)
    cases b with
    | true =>
      go_wp2_with (first
        | (refine wpList_build_as rfl 65 #[] rfl (pw (zD, zD)) (by kernel_rfl) ?_)
        | (rw [zb64]; refine wpList_store_row rfl 65 _ _ rfl (w.heap.size + 1) (pw (zD, zD)) rfl rfl _ (zb 64) (unhide HGZ) Tryd.size_pz (by rw [zb_size, pw_size rfl rfl]) (pw_one _) ?_))
      rw [unhide HC]
      refine bodyPost_ret (v := .tuple #[.agg (pw (zD, zD)), .int .i64 10]) ?_ rfl ⟨rfl, (unhide HK0).setRow (Or.inr (by omega)) _⟩
      exact results_cell_tmp rfl _ _ (w.heap.size + 1) _ (pw (zD, zD)) (0, 0) _ rfl (setRow_heap _ _ _ _ _ _ (unhide HGZ)) Tryd.underlying65 rfl Tryd.size_pz _ rfl
    | false =>
      go_wp2_with (first
        | (refine wpList_build_as rfl 65 #[] rfl (pw (zD, zD)) (by kernel_rfl) ?_)
        | (rw [zb64]; refine wpList_store_row rfl 65 _ _ rfl (w.heap.size + 1) (pw (zD, zD)) rfl rfl _ (zb 64) (unhide HGZ) Tryd.size_pz (by rw [zb_size, pw_size rfl rfl]) (pw_one _) ?_))
      rw [unhide HC]
      refine bodyPost_ret (v := .tuple #[.agg (pw (zD, zD)), .int .i64 10]) ?_ rfl ⟨rfl, (unhide HK0).setRow (Or.inr (by omega)) _⟩
      exact results_cell_tmp rfl _ _ (w.heap.size + 1) _ (pw (zD, zD)) (0, 0) _ rfl (setRow_heap _ _ _ _ _ _ (unhide HGZ)) Tryd.underlying65 rfl Tryd.size_pz _ rfl
end Go.Proofs.YtbljofojeagdkaaDoor
namespace Go.Proofs.YtbljofojeagdkaaDoor
open Go.RowKit Go.BigFrame
set_option linter.unusedVariables false
set_option linter.unusedSimpArgs false

theorem opP_dg {o : Option (List Nat × List Nat)} (h : ∀ d, o = some d → Dg d.1 ∧ Dg d.2) : Dg (opP o).1 ∧ Dg (opP o).2 := by
  cases o with
  | none => exact ⟨zD_dg, zD_dg⟩
  | some d => exact h d rfl
theorem pw_ranges {w : World} {g : Nat} {t : TypeId} {fr : Nat × Nat} {d : List Nat × List Nat} (h : w.heap[g]? = some (.cells (pw d) t fr)) (h1 : d.1.length = 32) : w.rangeAt g 0 (d.1.map u8) ∧ w.rangeAt g 32 (d.2.map u8) := by
  unfold pw at h
  exact ⟨a_mid (n := 0) [] _ _ (by simpa using h) rfl, a_mid (n := 32) (d.1.map u8) (d.2.map u8) [] (by simpa using h) (by simp [h1])⟩
theorem opE_map (O : Option (List Nat × List Nat)) (f : List Nat × List Nat → List Nat) : opE (O.map f) = opF O := by cases O <;> rfl
theorem opD_fst (O : Option (List Nat × List Nat)) : opD (O.map (fun p => p.1)) = (opP O).1 := by cases O <;> rfl
theorem opD_snd (O : Option (List Nat × List Nat)) : opD (O.map (fun p => p.2)) = (opP O).2 := by cases O <;> rfl

theorem over_sl (z : Int) (O : Option (List Nat × List Nat)) (x : List Nat) (w : World) (hz : -9223372036854775808 ≤ z ∧ z ≤ 9223372036854775807) (hw : widthB z = true) (hO : ∀ d, O = some d → (Dg d.1 ∧ formB z d.1 = true) ∧ (Dg d.2 ∧ formB z d.2 = true)) (hx : Dg x) (hxf : formB z x = true) (hT : Tabs w) :
    Calls Tryd.prog 45 #[.int .i64 (opF O), .int .i64 z, .agg (brow (opP O).2), .agg (brow x)] w fun e w' => e = .returned (.tuple #[.agg (brow (opD (O.map (fun y => nodS z y.2 x)))), .int .i64 (opF O)]) ∧ Kept [] w w' := by
  cases O with
  | none => exact over_bad 10 z _ _ w (by decide)
  | some d => exact over_ok z d.2 x w hz hw (hO d rfl).2.1 hx (hO d rfl).2.2 hxf hT
theorem over_rf (z : Int) (O : Option (List Nat × List Nat)) (x : List Nat) (w : World) (hz : -9223372036854775808 ≤ z ∧ z ≤ 9223372036854775807) (hw : widthB z = true) (hO : ∀ d, O = some d → (Dg d.1 ∧ formB z d.1 = true) ∧ (Dg d.2 ∧ formB z d.2 = true)) (hx : Dg x) (hxf : formB z x = true) (hT : Tabs w) :
    Calls Tryd.prog 45 #[.int .i64 (opF O), .int .i64 z, .agg (brow x), .agg (brow (opP O).1)] w fun e w' => e = .returned (.tuple #[.agg (brow (opD (O.map (fun y => nodS z x y.1)))), .int .i64 (opF O)]) ∧ Kept [] w w' := by
  cases O with
  | none => exact over_bad 10 z _ _ w (by decide)
  | some d => exact over_ok z x d.1 w hz hw hx (hO d rfl).1.1 hxf (hO d rfl).1.2 hT
theorem over_rs (z : Int) (O : Option (List Nat × List Nat)) (x : List Nat) (w : World) (hz : -9223372036854775808 ≤ z ∧ z ≤ 9223372036854775807) (hw : widthB z = true) (hO : ∀ d, O = some d → (Dg d.1 ∧ formB z d.1 = true) ∧ (Dg d.2 ∧ formB z d.2 = true)) (hx : Dg x) (hxf : formB z x = true) (hT : Tabs w) :
    Calls Tryd.prog 45 #[.int .i64 (opF O), .int .i64 z, .agg (brow x), .agg (brow (opP O).2)] w fun e w' => e = .returned (.tuple #[.agg (brow (opD (O.map (fun y => nodS z x y.2)))), .int .i64 (opF O)]) ∧ Kept [] w w' := by
  cases O with
  | none => exact over_bad 10 z _ _ w (by decide)
  | some d => exact over_ok z x d.2 w hz hw hx (hO d rfl).2.1 hxf (hO d rfl).2.2 hT
theorem opD_map_dg (O : Option (List Nat × List Nat)) (f : List Nat × List Nat → List Nat) (h : ∀ y, Dg (f y)) : Dg (opD (O.map f)) := by
  cases O with
  | none => exact zD_dg
  | some d => exact h d

set_option maxRecDepth 100000 in
set_option maxHeartbeats 2000000 in
theorem climbBoth_any (z : Int) (old : List Nat) (hz : -9223372036854775808 ≤ z ∧ z ≤ 9223372036854775807) (hw : widthB z = true) (ho : Dg old) (hf : formB z old = true) : ∀ (rp : List (List Nat)) (m n : Nat) (b : Bool) (pv : Value) (w : World), 1 ≤ m → m ≤ n → n < 18446744073709551616 → RdD w pv rp.reverse → (∀ x ∈ rp, formB z x = true) → Tabs w →
    Calls Tryd.prog 30 #[.int .i64 z, .int .u64 m, .int .u64 n, .agg (brow old), .bool b, pv] w fun e w' => e = .returned (.tuple #[.agg (pw (opP (twD z old rp m n b))), .int .i64 (opF (twD z old rp m n b))]) ∧ Kept [] w w' := by
  intro rp
  induction rp with
  | nil =>
    intro m n b pv w hm1 hmn hn hp hpf hT
    have HP := hide hp
    obtain ⟨ao, len, cap, rfl, h1, h2, h3, h4, h5⟩ := hp
    have hlen : len = 0 := by simpa using h1.symm
    subst hlen
    clear h1 h2 h3 h4 h5 hpf hT
    have hol := ho.1
    have HO := hide ho
    have HSL := hide (by rw [List.length_map, hol]; exact Tryd.size_dig : (Tryd.prog.info? 23).map (·.size) = some (old.map u8).length)
    have HTW := hide (fun d hd => twD_ok hw ho hf [] m n b d (by simp) hd)
    obtain ⟨F, hF⟩ : ∃ F, twD z old [] m n b = F := ⟨_, rfl⟩
    rw [hF] at HTW
    have HFF := hide hF
    rw [hF]
    clear hF
    have hdg := opP_dg (o := F) (fun d hd => ⟨(unhide HTW d hd).1.1, (unhide HTW d hd).2.1⟩)
    have hFs := pw_size hdg.1.1 hdg.2.1
    have HSF := hide (by rw [hFs]; exact Tryd.size_roots : (Tryd.prog.info? 65).map (·.size) = some (pw (opP F)).size)
    clear hdg
    go_enter Tryd.func30, Tryd.ntmps30
    have HGL := hide (((Kept.refl [] (w.alloc (.cells (brow old) 23))).alloc (.cells (zb 64) 65)).heap (heap_alloc_new w (.cells (brow old) 23)) (by simp))
    have HGZ := hide (alloc_at w (.cells (brow old) 23) (.cells (zb 64) 65))
    have HK0 := hide (((Kept.refl [] w).alloc (.cells (brow old) 23)).alloc (.cells (zb 64) 65))
    by_cases h1 : m = n
    · have h1' : ((m : Int) == n) = true := by simp; omega
      subst h1
      go_wp2_with (refine wpList_load_mid rfl 23 _ rfl w.heap.size 0 rfl (old.map u8) _ (range_row (unhide HGL)) Tryd.underlying23 rfl (unhide HSL) ?_)
      rw [zb64]
      refine Calls.mono (lowest_any old b _ [] _ (unhide HO) ((unhide HP).old (unhide HK0)) z m) ?_
      rintro e w1 ⟨rfl, k1⟩
      rw [List.reverse_nil, unhide HFF]
      have HZ1 := hide (k1.heap (unhide HGZ) (by simp))
      have HK1 := hide ((unhide HK0).trans k1 (by simp))
      clear k1
      go_wp2_with (refine wpList_store_row rfl 65 _ _ rfl (w.heap.size + 1) (pw (opP F)) rfl rfl _ (zb 64) (unhide HZ1) (unhide HSF) (by rw [zb_size, hFs]) (pw_one _) ?_)
      refine bodyPost_ret (v := .tuple #[.agg (pw (opP F)), .int .i64 (opF F)]) ?_ rfl ⟨rfl, (unhide HK1).setRow (Or.inr (by omega)) _⟩
      exact results_cell_tmp rfl _ _ (w.heap.size + 1) _ (pw (opP F)) (0, 0) _ rfl (setRow_heap _ _ _ _ _ _ (unhide HZ1)) Tryd.underlying65 rfl (unhide HSF) _ rfl
    · have h1' : ((m : Int) == n) = false := by simp; omega
      have HC := hide (by rw [← unhide HFF]; simp [twD, h1] : F = none)
      go_wp2_with (first
        | (refine wpList_build_as rfl 65 #[] rfl (pw (zD, zD)) (by kernel_rfl) ?_)
        | (rw [zb64]; refine wpList_store_row rfl 65 _ _ rfl (w.heap.size + 1) (pw (zD, zD)) rfl rfl _ (zb 64) (unhide HGZ) Tryd.size_pz (by rw [zb_size, pw_size rfl rfl]) (pw_one _) ?_))
      rw [unhide HC]
      refine bodyPost_ret (v := .tuple #[.agg (pw (zD, zD)), .int .i64 10]) ?_ rfl ⟨rfl, (unhide HK0).setRow (Or.inr (by omega)) _⟩
      exact results_cell_tmp rfl _ _ (w.heap.size + 1) _ (pw (zD, zD)) (0, 0) _ rfl (setRow_heap _ _ _ _ _ _ (unhide HGZ)) Tryd.underlying65 rfl Tryd.size_pz _ rfl
  | cons x r ih =>
    intro m n b pv w hm1 hmn hn hp hpf hT
    have HP := hide hp
    obtain ⟨ao, len, cap, rfl, h1, h2, h3, h4, h5⟩ := hp
    have hlen : len = r.length + 1 := by rw [← h1]; simp
    subst hlen
    clear h1 h4 h5
    have HT := hide hT
    have HPF := hide hpf
    have hol := ho.1
    have HO := hide ho
    have HX := hide ((unhide HP).dg (show x ∈ (x :: r).reverse by simp))
    have hxl := (unhide HX).1
    have HSL := hide (by rw [List.length_map, hol]; exact Tryd.size_dig : (Tryd.prog.info? 23).map (·.size) = some (old.map u8).length)
    have HPD := hide (fun y hy => ⟨(unhide HP).dg (List.mem_reverse.2 hy), hpf y hy⟩ : ∀ y ∈ x :: r, Dg y ∧ formB z y = true)
    have HTW := hide (fun d hd => twD_ok hw ho hf (x :: r) m n b d (unhide HPD) hd)
    clear hT hpf
    obtain ⟨F, hF⟩ : ∃ F, twD z old (x :: r) m n b = F := ⟨_, rfl⟩
    rw [hF] at HTW
    have HFF := hide hF
    rw [hF]
    clear hF
    have hdg := opP_dg (o := F) (fun d hd => ⟨(unhide HTW d hd).1.1, (unhide HTW d hd).2.1⟩)
    have hFs := pw_size hdg.1.1 hdg.2.1
    have HSF := hide (by rw [hFs]; exact Tryd.size_roots : (Tryd.prog.info? 65).map (·.size) = some (pw (opP F)).size)
    clear hdg HTW
    go_enter Tryd.func30, Tryd.ntmps30
    have HGL := hide (((Kept.refl [] (w.alloc (.cells (brow old) 23))).alloc (.cells (zb 64) 65)).heap (heap_alloc_new w (.cells (brow old) 23)) (by simp))
    have HGZ := hide (alloc_at w (.cells (brow old) 23) (.cells (zb 64) 65))
    have HK0 := hide (((Kept.refl [] w).alloc (.cells (brow old) 23)).alloc (.cells (zb 64) 65))
    by_cases h1 : m = n
    · have h1' : ((m : Int) == n) = true := by simp; omega
      subst h1
      go_wp2_with (refine wpList_load_mid rfl 23 _ rfl w.heap.size 0 rfl (old.map u8) _ (range_row (unhide HGL)) Tryd.underlying23 rfl (unhide HSL) ?_)
      rw [zb64]
      refine Calls.mono (lowest_any old b _ (x :: r).reverse _ (unhide HO) ((unhide HP).old (unhide HK0)) z m) ?_
      rintro e w1 ⟨rfl, k1⟩
      rw [List.reverse_reverse, unhide HFF]
      have HZ1 := hide (k1.heap (unhide HGZ) (by simp))
      have HK1 := hide ((unhide HK0).trans k1 (by simp))
      clear k1
      go_wp2_with (refine wpList_store_row rfl 65 _ _ rfl (w.heap.size + 1) (pw (opP F)) rfl rfl _ (zb 64) (unhide HZ1) (unhide HSF) (by rw [zb_size, hFs]) (pw_one _) ?_)
      refine bodyPost_ret (v := .tuple #[.agg (pw (opP F)), .int .i64 (opF F)]) ?_ rfl ⟨rfl, (unhide HK1).setRow (Or.inr (by omega)) _⟩
      exact results_cell_tmp rfl _ _ (w.heap.size + 1) _ (pw (opP F)) (0, 0) _ rfl (setRow_heap _ _ _ _ _ _ (unhide HZ1)) Tryd.underlying65 rfl (unhide HSF) _ rfl
    · have h1' : ((m : Int) == n) = false := by simp; omega
      have hne : (((r.length : Int) + 1) == 0) = false := by simp; omega
      go_wp2_with fail
      refine Calls.mono (parted_any _ (x :: r).reverse r x _ ((unhide HP).old (unhide HK0)) (by simp)) ?_
      rintro e w1 ⟨u1, rfl, d1, k1⟩
      have HD1 := hide d1
      have HG1 := hide (k1.heap (unhide HGL) (by simp))
      have HZ1 := hide (k1.heap (unhide HGZ) (by simp))
      have HK1 := hide ((unhide HK0).trans k1 (by simp))
      obtain ⟨a1, n1, c1, rfl, _⟩ := id d1
      clear d1 k1 HGL HGZ
      have HXW := hide (setRow_heap (w1.alloc (.cells (zb 32) 23)) w1.heap.size (zb 32) (brow x) 23 (0, 0) (heap_alloc_new _ _))
      have k2 := ((Kept.refl [] w1).alloc (.cells (zb 32) 23)).setRow (g := w1.heap.size) (Or.inr (Nat.le_refl _)) (brow x)
      have HSX := hide (by rw [brow_size, hxl]; exact Tryd.size_dig : (Tryd.prog.info? 23).map (·.size) = some (brow x).size)
      have HSXL := hide (by rw [List.length_map, hxl]; exact Tryd.size_dig : (Tryd.prog.info? 23).map (·.size) = some (x.map u8).length)
      have HD2 := hide ((unhide HD1).old k2)
      have HG2 := hide (k2.heap (unhide HG1) (by simp))
      have HZ2 := hide (k2.heap (unhide HZ1) (by simp))
      have HK2 := hide ((unhide HK1).trans k2 (by simp))
      clear k2 HD1 HG1 HZ1
      go_wp2_with (rw [zb32]; refine wpList_store_row rfl 23 _ _ rfl w1.heap.size (brow x) rfl rfl _ (zb 32) (heap_alloc_new _ _) (unhide HSX) (by rw [zb_size, brow_size, hxl]) (brow_one _) ?_)
      refine Calls.mono (split_any n _ (by omega) hn) ?_
      rintro e w3 ⟨rfl, k3⟩
      have HX3 := hide (k3.heap (unhide HXW) (by simp))
      have HD3 := hide ((unhide HD2).old k3)
      have HG3 := hide (k3.heap (unhide HG2) (by simp))
      have HZ3 := hide (k3.heap (unhide HZ2) (by simp))
      have HK3 := hide ((unhide HK2).trans k3 (by simp))
      clear k3 HXW HD2 HG2 HZ2
      have hk1 := spl_pos n
      have hk2 := spl_lt (n := n) (by omega)
      have HXF := hide (unhide HPF x (by simp))
      have HRF := hide (fun y hy => unhide HPF y (by simp [hy]) : ∀ y ∈ r, formB z y = true)
      have HRD := hide (fun y hy => unhide HPD y (by simp [hy]) : ∀ y ∈ r, Dg y ∧ formB z y = true)
      by_cases hik : m ≤ spl n
      · have hik' : (m : Int) ≤ (spl n : Nat) := by omega
        have HC := hide (by rw [← unhide HFF]; conv => lhs; unfold twD; rw [if_neg h1, if_pos hik] : F = (twD z old r m (spl n) b).map (fun y => (y.1, nodS z y.2 x)))
        have IH := fun (w' : World) (h' : RdD w' (.slice a1 n1 c1) r.reverse) (t' : Tabs w') => ih m (spl n) b (.slice a1 n1 c1) w' hm1 hik (by omega) h' (unhide HRF) t'
        have HOK := hide (fun d hd => twD_ok hw ho hf r m (spl n) b d (unhide HRD) hd)
        generalize twD z old r m (spl n) b = O at HC IH HOK
        go_wp2_with (refine wpList_load_mid rfl 23 _ rfl w.heap.size 0 rfl (old.map u8) _ (range_row (unhide HG3)) Tryd.underlying23 rfl (unhide HSL) ?_)
        refine Calls.mono (IH _ (unhide HD3) ((unhide HT).k (unhide HK3))) ?_
        rintro e w4 ⟨rfl, k4⟩
        have HX4 := hide (k4.heap (unhide HX3) (by simp))
        have HZ4 := hide (k4.heap (unhide HZ3) (by simp))
        have HK4 := hide ((unhide HK3).trans k4 (by simp))
        clear k4 HX3 HD3 HG3 HZ3 IH
        have hdg := opP_dg (o := O) (fun d hd => ⟨(unhide HOK d hd).1.1, (unhide HOK d hd).2.1⟩)
        have hol1 := hdg.1.1
        have hol2 := hdg.2.1
        have hOs := pw_size hol1 hol2
        have HSO := hide (by rw [hOs]; exact Tryd.size_roots : (Tryd.prog.info? 65).map (·.size) = some (pw (opP O)).size)
        have HNW := hide (setRow_heap (w4.alloc (.cells (zb 64) 65)) w4.heap.size (zb 64) (pw (opP O)) 65 (0, 0) (heap_alloc_new _ _))
        have k5 := ((Kept.refl [] w4).alloc (.cells (zb 64) 65)).setRow (g := w4.heap.size) (Or.inr (Nat.le_refl _)) (pw (opP O))
        have HX5 := hide (k5.heap (unhide HX4) (by simp))
        have HZ5 := hide (k5.heap (unhide HZ4) (by simp))
        have HK5 := hide ((unhide HK4).trans k5 (by simp))
        have HR1 := hide (pw_ranges (unhide HNW) hol1).1
        have HR2 := hide (pw_ranges (unhide HNW) hol1).2
        have HS1 := hide (by rw [List.length_map, hol1]; exact Tryd.size_dig : (Tryd.prog.info? 23).map (·.size) = some ((opP O).1.map u8).length)
        have HS2 := hide (by rw [List.length_map, hol2]; exact Tryd.size_dig : (Tryd.prog.info? 23).map (·.size) = some ((opP O).2.map u8).length)
        clear k5 HX4 HZ4
        go_wp2_with (first
          | (rw [zb64]; refine wpList_store_row rfl 65 _ _ rfl w4.heap.size (pw (opP O)) rfl rfl _ (zb 64) (heap_alloc_new _ _) (unhide HSO) (by rw [zb_size, hOs]) (pw_one _) ?_)
          | (refine wpList_load_mid rfl 23 _ rfl w4.heap.size 32 rfl ((opP O).2.map u8) _ (unhide HR2) Tryd.underlying23 rfl (unhide HS2) ?_)
          | (refine wpList_load_mid rfl 23 _ rfl w1.heap.size 0 rfl (x.map u8) _ (range_row (unhide HX5)) Tryd.underlying23 rfl (unhide HSXL) ?_))
        refine Calls.mono (over_sl z O x _ hz hw (unhide HOK) (unhide HX) (unhide HXF) ((unhide HT).k (unhide HK5))) ?_
        rintro e w6 ⟨rfl, k6⟩
        have HZ6 := hide (k6.heap (unhide HZ5) (by simp))
        have HK6 := hide ((unhide HK5).trans k6 (by simp))
        have HR6 := hide (range_kept (unhide HR1) k6 (by simp))
        clear k6 HX5 HZ5 HNW HR1 HR2
        have hNl := (opD_map_dg O (fun y => nodS z y.2 x) (fun y => nodS_dg _ _ _)).1
        obtain ⟨N, hN⟩ : ∃ N, opD (O.map (fun y => nodS z y.2 x)) = N := ⟨_, rfl⟩
        have HNE := hide hN
        rw [hN] at hNl ⊢
        clear hN
        have HSN := hide (by rw [brow_size, hNl]; exact Tryd.size_dig : (Tryd.prog.info? 23).map (·.size) = some (brow N).size)
        have HSLN := hide (by rw [List.length_map, hNl]; exact Tryd.size_dig : (Tryd.prog.info? 23).map (·.size) = some (N.map u8).length)
        have HNN := hide (setRow_heap (w6.alloc (.cells (zb 32) 23)) w6.heap.size (zb 32) (brow N) 23 (0, 0) (heap_alloc_new _ _))
        have kN := ((Kept.refl [] w6).alloc (.cells (zb 32) 23)).setRow (g := w6.heap.size) (Or.inr (Nat.le_refl _)) (brow N)
        have HZ7 := hide (kN.heap (unhide HZ6) (by simp))
        have HK7 := hide ((unhide HK6).trans kN (by simp))
        have HR7 := hide (range_kept (unhide HR6) kN (by simp))
        clear kN HZ6 HR6
        have HPF2 := hide (by rw [unhide HC, ← unhide HNE]; cases O <;> exact ⟨rfl, rfl⟩ : ((opP O).1, N) = opP F ∧ opF O = opF F)
        have HPS := hide (by rw [(unhide HPF2).1]; exact unhide HSF : (Tryd.prog.info? 65).map (·.size) = some (pw ((opP O).1, N)).size)
        have HPZ := hide (by rw [(unhide HPF2).1, zb_size, hFs] : (zb 64).size = (pw ((opP O).1, N)).size)
        go_wp2_with (first
          | (rw [zb32]; refine wpList_store_row rfl 23 _ _ rfl w6.heap.size (brow N) rfl rfl _ (zb 32) (heap_alloc_new _ _) (unhide HSN) (by rw [zb_size, brow_size, hNl]) (brow_one _) ?_)
          | (refine wpList_load_mid rfl 23 _ rfl w4.heap.size 0 rfl ((opP O).1.map u8) _ (unhide HR7) Tryd.underlying23 rfl (unhide HS1) ?_)
          | (refine wpList_load_mid rfl 23 _ rfl w6.heap.size 0 rfl (N.map u8) _ (range_row (unhide HNN)) Tryd.underlying23 rfl (unhide HSLN) ?_)
          | (refine wpList_build_as rfl 65 _ rfl (pw ((opP O).1, N)) (by simp only [List.map_toArray, List.map_cons, List.map_nil]; exact built_pair (opP O).1 N hol1 hNl) ?_)
          | (refine wpList_store_row rfl 65 _ _ rfl (w.heap.size + 1) (pw ((opP O).1, N)) rfl rfl _ (zb 64) (unhide HZ7) (unhide HPS) (unhide HPZ) (pw_one _) ?_))
        refine bodyPost_ret (v := .tuple #[.agg (pw ((opP O).1, N)), .int .i64 (opF O)]) ?_ rfl ⟨by rw [(unhide HPF2).1, (unhide HPF2).2], (unhide HK7).setRow (Or.inr (by omega)) _⟩
        exact results_cell_tmp rfl _ _ (w.heap.size + 1) _ (pw ((opP O).1, N)) (0, 0) _ rfl (setRow_heap _ _ _ _ _ _ (unhide HZ7)) Tryd.underlying65 rfl (unhide HPS) _ rfl
      · have hik' : ¬ (m : Int) ≤ (spl n : Nat) := by omega
        have hs1 : ((m : Int) - (spl n : Nat)) = ((m - spl n : Nat) : Int) := by omega
        have hs2 : ((n : Int) - (spl n : Nat)) = ((n - spl n : Nat) : Int) := by omega
        have hb1 : ((spl n : Nat) : Int) ≤ m := by omega
        have hb2 : ((spl n : Nat) : Int) ≤ n := by omega
        have HC := hide (by rw [← unhide HFF]; conv => lhs; unfold twD; rw [if_neg h1, if_neg hik] : F = (twD z old r (m - spl n) (n - spl n) false).map (fun y => (nodS z x y.1, nodS z x y.2)))
        have IH := fun (w' : World) (h' : RdD w' (.slice a1 n1 c1) r.reverse) (t' : Tabs w') => ih (m - spl n) (n - spl n) false (.slice a1 n1 c1) w' (by omega) (by omega) (by omega) h' (unhide HRF) t'
        have HOK := hide (fun d hd => twD_ok hw ho hf r (m - spl n) (n - spl n) false d (unhide HRD) hd)
        generalize twD z old r (m - spl n) (n - spl n) false = O at HC IH HOK
        go_wp2_with (refine wpList_load_mid rfl 23 _ rfl w.heap.size 0 rfl (old.map u8) _ (range_row (unhide HG3)) Tryd.underlying23 rfl (unhide HSL) ?_)
        refine Calls.mono (IH _ (unhide HD3) ((unhide HT).k (unhide HK3))) ?_
        rintro e w4 ⟨rfl, k4⟩
        have HX4 := hide (k4.heap (unhide HX3) (by simp))
        have HZ4 := hide (k4.heap (unhide HZ3) (by simp))
        have HK4 := hide ((unhide HK3).trans k4 (by simp))
        clear k4 HX3 HD3 HG3 HZ3 IH
        have hdg := opP_dg (o := O) (fun d hd => ⟨(unhide HOK d hd).1.1, (unhide HOK d hd).2.1⟩)
        have hol1 := hdg.1.1
        have hol2 := hdg.2.1
        have hOs := pw_size hol1 hol2
        have HSO := hide (by rw [hOs]; exact Tryd.size_roots : (Tryd.prog.info? 65).map (·.size) = some (pw (opP O)).size)
        have HNW := hide (setRow_heap (w4.alloc (.cells (zb 64) 65)) w4.heap.size (zb 64) (pw (opP O)) 65 (0, 0) (heap_alloc_new _ _))
        have k5 := ((Kept.refl [] w4).alloc (.cells (zb 64) 65)).setRow (g := w4.heap.size) (Or.inr (Nat.le_refl _)) (pw (opP O))
        have HX5 := hide (k5.heap (unhide HX4) (by simp))
        have HZ5 := hide (k5.heap (unhide HZ4) (by simp))
        have HK5 := hide ((unhide HK4).trans k5 (by simp))
        have HR1 := hide (pw_ranges (unhide HNW) hol1).1
        have HR2 := hide (pw_ranges (unhide HNW) hol1).2
        have HS1 := hide (by rw [List.length_map, hol1]; exact Tryd.size_dig : (Tryd.prog.info? 23).map (·.size) = some ((opP O).1.map u8).length)
        have HS2 := hide (by rw [List.length_map, hol2]; exact Tryd.size_dig : (Tryd.prog.info? 23).map (·.size) = some ((opP O).2.map u8).length)
        clear k5 HX4 HZ4
        go_wp2_with (first
          | (rw [zb64]; refine wpList_store_row rfl 65 _ _ rfl w4.heap.size (pw (opP O)) rfl rfl _ (zb 64) (heap_alloc_new _ _) (unhide HSO) (by rw [zb_size, hOs]) (pw_one _) ?_)
          | (refine wpList_load_mid rfl 23 _ rfl w4.heap.size 0 rfl ((opP O).1.map u8) _ (unhide HR1) Tryd.underlying23 rfl (unhide HS1) ?_)
          | (refine wpList_load_mid rfl 23 _ rfl w1.heap.size 0 rfl (x.map u8) _ (range_row (unhide HX5)) Tryd.underlying23 rfl (unhide HSXL) ?_))
        refine Calls.mono (over_rf z O x _ hz hw (unhide HOK) (unhide HX) (unhide HXF) ((unhide HT).k (unhide HK5))) ?_
        rintro e w6 ⟨rfl, k6⟩
        have HZ6 := hide (k6.heap (unhide HZ5) (by simp))
        have HX6 := hide (k6.heap (unhide HX5) (by simp))
        have HK6 := hide ((unhide HK5).trans k6 (by simp))
        have HR6 := hide (range_kept (unhide HR2) k6 (by simp))
        clear k6 HX5 HZ5 HNW HR1 HR2
        have hMl := (opD_map_dg O (fun y => nodS z x y.1) (fun y => nodS_dg _ _ _)).1
        obtain ⟨M, hM⟩ : ∃ M, opD (O.map (fun y => nodS z x y.1)) = M := ⟨_, rfl⟩
        have HME := hide hM
        rw [hM] at hMl ⊢
        clear hM
        have HSM := hide (by rw [brow_size, hMl]; exact Tryd.size_dig : (Tryd.prog.info? 23).map (·.size) = some (brow M).size)
        have HSLM := hide (by rw [List.length_map, hMl]; exact Tryd.size_dig : (Tryd.prog.info? 23).map (·.size) = some (M.map u8).length)
        have HNM := hide (setRow_heap (w6.alloc (.cells (zb 32) 23)) w6.heap.size (zb 32) (brow M) 23 (0, 0) (heap_alloc_new _ _))
        have kM := ((Kept.refl [] w6).alloc (.cells (zb 32) 23)).setRow (g := w6.heap.size) (Or.inr (Nat.le_refl _)) (brow M)
        have HZ7 := hide (kM.heap (unhide HZ6) (by simp))
        have HX7 := hide (kM.heap (unhide HX6) (by simp))
        have HK7 := hide ((unhide HK6).trans kM (by simp))
        have HR7 := hide (range_kept (unhide HR6) kM (by simp))
        clear kM HZ6 HR6 HX6
        go_wp2_with (first
          | (rw [zb32]; refine wpList_store_row rfl 23 _ _ rfl w6.heap.size (brow M) rfl rfl _ (zb 32) (heap_alloc_new _ _) (unhide HSM) (by rw [zb_size, brow_size, hMl]) (brow_one _) ?_)
          | (refine wpList_load_mid rfl 23 _ rfl w4.heap.size 32 rfl ((opP O).2.map u8) _ (unhide HR7) Tryd.underlying23 rfl (unhide HS2) ?_)
          | (refine wpList_load_mid rfl 23 _ rfl w1.heap.size 0 rfl (x.map u8) _ (range_row (unhide HX7)) Tryd.underlying23 rfl (unhide HSXL) ?_))
        refine Calls.mono (over_rs z O x _ hz hw (unhide HOK) (unhide HX) (unhide HXF) ((unhide HT).k (unhide HK7))) ?_
        rintro e w8 ⟨rfl, k8⟩
        have HZ8 := hide (k8.heap (unhide HZ7) (by simp))
        have HM8 := hide (k8.heap (unhide HNM) (by simp))
        have HK8 := hide ((unhide HK7).trans k8 (by simp))
        clear k8 HZ7 HX7 HR7 HNM
        have hNl := (opD_map_dg O (fun y => nodS z x y.2) (fun y => nodS_dg _ _ _)).1
        obtain ⟨N, hN⟩ : ∃ N, opD (O.map (fun y => nodS z x y.2)) = N := ⟨_, rfl⟩
        have HNE := hide hN
        rw [hN] at hNl ⊢
        clear hN
        have HSN := hide (by rw [brow_size, hNl]; exact Tryd.size_dig : (Tryd.prog.info? 23).map (·.size) = some (brow N).size)
        have HSLN := hide (by rw [List.length_map, hNl]; exact Tryd.size_dig : (Tryd.prog.info? 23).map (·.size) = some (N.map u8).length)
        have HNN := hide (setRow_heap (w8.alloc (.cells (zb 32) 23)) w8.heap.size (zb 32) (brow N) 23 (0, 0) (heap_alloc_new _ _))
        have kN := ((Kept.refl [] w8).alloc (.cells (zb 32) 23)).setRow (g := w8.heap.size) (Or.inr (Nat.le_refl _)) (brow N)
        have HZ9 := hide (kN.heap (unhide HZ8) (by simp))
        have HM9 := hide (kN.heap (unhide HM8) (by simp))
        have HK9 := hide ((unhide HK8).trans kN (by simp))
        clear kN HZ8 HM8
        have HPF2 := hide (by rw [unhide HC, ← unhide HNE, ← unhide HME]; cases O <;> exact ⟨rfl, rfl⟩ : (M, N) = opP F ∧ opF O = opF F)
        have HPS := hide (by rw [(unhide HPF2).1]; exact unhide HSF : (Tryd.prog.info? 65).map (·.size) = some (pw (M, N)).size)
        have HPZ := hide (by rw [(unhide HPF2).1, zb_size, hFs] : (zb 64).size = (pw (M, N)).size)
        go_wp2_with (first
          | (rw [zb32]; refine wpList_store_row rfl 23 _ _ rfl w8.heap.size (brow N) rfl rfl _ (zb 32) (heap_alloc_new _ _) (unhide HSN) (by rw [zb_size, brow_size, hNl]) (brow_one _) ?_)
          | (refine wpList_load_mid rfl 23 _ rfl w6.heap.size 0 rfl (M.map u8) _ (range_row (unhide HM9)) Tryd.underlying23 rfl (unhide HSLM) ?_)
          | (refine wpList_load_mid rfl 23 _ rfl w8.heap.size 0 rfl (N.map u8) _ (range_row (unhide HNN)) Tryd.underlying23 rfl (unhide HSLN) ?_)
          | (refine wpList_build_as rfl 65 _ rfl (pw (M, N)) (by simp only [List.map_toArray, List.map_cons, List.map_nil]; exact built_pair M N hMl hNl) ?_)
          | (refine wpList_store_row rfl 65 _ _ rfl (w.heap.size + 1) (pw (M, N)) rfl rfl _ (zb 64) (unhide HZ9) (unhide HPS) (unhide HPZ) (pw_one _) ?_))
        refine bodyPost_ret (v := .tuple #[.agg (pw (M, N)), .int .i64 (opF O)]) ?_ rfl ⟨by rw [(unhide HPF2).1, (unhide HPF2).2], (unhide HK9).setRow (Or.inr (by omega)) _⟩
        exact results_cell_tmp rfl _ _ (w.heap.size + 1) _ (pw (M, N)) (0, 0) _ rfl (setRow_heap _ _ _ _ _ _ (unhide HZ9)) Tryd.underlying65 rfl (unhide HPS) _ rfl
end Go.Proofs.YtbljofojeagdkaaDoor
/-
  A return of two parts of a variable and a number: five reads, two stores, an assign; reads may come up behind stores. One law for all orders.
-/
namespace Go.Proofs.YtbljofojeagdkaaDoor
open Go
section
variable {P : Program} {Q : Exit → Act → World → Prop}
theorem wp_ret8 {id : Nat} {o0 o1 o2 o3 o4 o5 o6 o7 : Oper} {a : Act} {w : World} (S : World → Prop) (hm : P.follows .mixedOrders = true) (hs : Region.noSelect #[o0, o1, o2, o3, o4, o5, o6, o7] = true)
    (f0 : Region.free .any #[o0, o1, o2, o3, o4, o5, o6, o7] #[false, false, false, false, false, false, false, false] 0 = true) (r0 : (Region.ready .any #[o0, o1, o2, o3, o4, o5, o6, o7] #[false, false, false, false, false, false, false, false]).contains 0 = true)
    (f1 : Region.free .any #[o0, o1, o2, o3, o4, o5, o6, o7] #[true, false, false, false, false, false, false, false] 1 = true) (r1 : (Region.ready .any #[o0, o1, o2, o3, o4, o5, o6, o7] #[true, false, false, false, false, false, false, false]).contains 1 = true)
    (f2 : Region.free .any #[o0, o1, o2, o3, o4, o5, o6, o7] #[true, true, false, false, false, false, false, false] 2 = true) (r2 : (Region.ready .any #[o0, o1, o2, o3, o4, o5, o6, o7] #[true, true, false, false, false, false, false, false]).contains 2 = true)
    (f3 : Region.free .any #[o0, o1, o2, o3, o4, o5, o6, o7] #[true, true, true, false, false, false, false, false] 3 = true) (r3 : (Region.ready .any #[o0, o1, o2, o3, o4, o5, o6, o7] #[true, true, true, false, false, false, false, false]).contains 3 = true)
    (f4 : Region.free .any #[o0, o1, o2, o3, o4, o5, o6, o7] #[true, true, true, true, false, false, false, false] 4 = true) (r4 : (Region.ready .any #[o0, o1, o2, o3, o4, o5, o6, o7] #[true, true, true, true, false, false, false, false]).contains 4 = true)
    (r5 : Region.ready .any #[o0, o1, o2, o3, o4, o5, o6, o7] #[true, true, true, true, true, false, false, false] = [5]) (r6 : Region.ready .any #[o0, o1, o2, o3, o4, o5, o6, o7] #[true, true, true, true, true, true, false, false] = [6])
    (f7 : Region.free .any #[o0, o1, o2, o3, o4, o5, o6, o7] #[true, true, true, true, true, true, true, false] 7 = true) (r7 : (Region.ready .any #[o0, o1, o2, o3, o4, o5, o6, o7] #[true, true, true, true, true, true, true, false]).contains 7 = true)
    (r8 : Region.ready .any #[o0, o1, o2, o3, o4, o5, o6, o7] #[true, true, true, true, true, true, true, true] = [])
    (g5 : o5.guard = none) (g6 : o6.guard = none)
    (hS : S w.drew) (v0 v1 v2 v3 v4 v7 : Value) (A0 A1 A2 A3 A A5 A6 A7 : Act)
    (p0 : a.put o0.dst v0 = A0) (p1 : A0.put o1.dst v1 = A1) (p2 : A1.put o2.dst v2 = A2) (p3 : A2.put o3.dst v3 = A3) (p4 : A3.put o4.dst v4 = A) (p5 : A.put o5.dst undef = A5) (p6 : A5.put o6.dst undef = A6) (p7 : A6.put o7.dst v7 = A7)
    (hy0 : YieldsIf P #[o0, o1, o2, o3, o4, o5, o6, o7] S o0 v0 a) (hy1 : YieldsIf P #[o0, o1, o2, o3, o4, o5, o6, o7] S o1 v1 A0) (hy2 : YieldsIf P #[o0, o1, o2, o3, o4, o5, o6, o7] S o2 v2 A1) (hy3 : YieldsIf P #[o0, o1, o2, o3, o4, o5, o6, o7] S o3 v3 A2) (hy4 : YieldsIf P #[o0, o1, o2, o3, o4, o5, o6, o7] S o4 v4 A3)
    (t5 t6 : TypeId) (x5 y5 x6 y6 : Operand) (h5 : o5.op = .store t5 x5 y5) (h6 : o6.op = .store t6 x6 y6)
    (b5 b6 : Nat) (cs5 cs6 old5 old6 : Array Value) (u5 u6 : TypeId)
    (e5 : A.eval x5 = .pointer (some ⟨b5, 0, none⟩)) (z5 : A.eval y5 = .agg cs5) (hg5 : w.drew.heap[b5]? = some (.cells old5 u5 (0, 0))) (i5 : (P.info? t5).map (·.size) = some cs5.size) (l5 : old5.size = cs5.size) (n5 : cs5.all (·.oneCell') = true) (S5 : S (w.drew.setRow b5 cs5))
    (e6 : A5.eval x6 = .pointer (some ⟨b6, 0, none⟩)) (z6 : A5.eval y6 = .agg cs6) (hg6 : (w.drew.setRow b5 cs5).heap[b6]? = some (.cells old6 u6 (0, 0))) (i6 : (P.info? t6).map (·.size) = some cs6.size) (l6 : old6.size = cs6.size) (n6 : cs6.all (·.oneCell') = true) (S6 : S ((w.drew.setRow b5 cs5).setRow b6 cs6))
    (hy7 : YieldsIf P #[o0, o1, o2, o3, o4, o5, o6, o7] S o7 v7 A6)
    (h : Q .normal A7 ((w.drew.setRow b5 cs5).setRow b6 cs6)) :
    (Code.region id #[o0, o1, o2, o3, o4, o5, o6, o7] true).wp P Q a w := by
  subst p0 p1 p2 p3 p4 p5 p6 p7
  refine wp_region_noPanic ?_
  refine wp_region_held_drew (S := S) hm hS (fun hH => ?_)
  show wpAnyH P .any #[o0, o1, o2, o3, o4, o5, o6, o7] (NoPanic Q) S 8 #[false, false, false, false, false, false, false, false] a w.drew
  refine wpAnyH_take (i := 0) (oi := o0) rfl hs f0 r0 (fun _ _ _ h => h) hy0 hS ?_
  refine wpAnyH_take (i := 1) (oi := o1) rfl hs f1 r1 (fun _ _ _ h => h) hy1 hS ?_
  refine wpAnyH_take (i := 2) (oi := o2) rfl hs f2 r2 (fun _ _ _ h => h) hy2 hS ?_
  refine wpAnyH_take (i := 3) (oi := o3) rfl hs f3 r3 (fun _ _ _ h => h) hy3 hS ?_
  refine wpAnyH_take (i := 4) (oi := o4) rfl hs f4 r4 (fun _ _ _ h => h) hy4 hS ?_
  refine wpAnyH_ready (rs := [5]) r5 (by simp) (AllReadyH.cons (o := o5) rfl (fun K hK => ?_) AllReadyH.nil)
  have w5 : ∀ y, Region.wanted o5 y = true := fun y => by unfold Region.wanted; rw [g5]
  rw [if_pos (w5 _)]
  refine wp_store_row t5 x5 y5 h5 b5 cs5 e5 z5 u5 old5 hg5 i5 l5 n5 ?_
  refine hK.out _ _ S5 (fun _ => ?_)
  refine wpAnyH_ready (rs := [6]) r6 (by simp) (AllReadyH.cons (o := o6) rfl (fun K hK => ?_) AllReadyH.nil)
  have w6 : ∀ y, Region.wanted o6 y = true := fun y => by unfold Region.wanted; rw [g6]
  rw [if_pos (w6 _)]
  refine wp_store_row t6 x6 y6 h6 b6 cs6 e6 z6 u6 old6 hg6 i6 l6 n6 ?_
  refine hK.out _ _ S6 (fun _ => ?_)
  refine wpAnyH_take (i := 7) (oi := o7) rfl hs f7 r7 (fun _ _ _ h => h) hy7 S6 ?_
  exact ⟨r8, NoPanic.normal h⟩
end
end Go.Proofs.YtbljofojeagdkaaDoor
namespace Go.Proofs.YtbljofojeagdkaaDoor
open Go.RowKit Go.BigFrame
set_option linter.unusedVariables false
set_option linter.unusedSimpArgs false

theorem rootsE_f {z : Int} {old : List Nat} {m n : Nat} {p : List (List Nat)} (h : formedE z (old :: p) ≠ 0) : rootsE z old m n p = formedE z (old :: p) ∧ rootsD z old m n p = (zD, zD) := by
  have e : rootsE z old m n p = formedE z (old :: p) := by unfold rootsE; rw [if_pos h]
  exact ⟨e, by unfold rootsD; rw [e, if_neg h]⟩
theorem rootsE_r {z : Int} {old : List Nat} {m n : Nat} {p : List (List Nat)} (h : formedE z (old :: p) = 0) (hr : m = 0 ∨ n ≤ m) : rootsE z old m n p = 4 ∧ rootsD z old m n p = (zD, zD) := by
  have e : rootsE z old m n p = 4 := by unfold rootsE; rw [if_neg (by omega), if_pos hr]
  exact ⟨e, by unfold rootsD; rw [e, if_neg (by decide)]⟩
theorem rootsE_c {z : Int} {old : List Nat} {m n : Nat} {p : List (List Nat)} (h : formedE z (old :: p) = 0) (hr : ¬ (m = 0 ∨ n ≤ m)) : rootsE z old m n p = opF (twD z old p.reverse m n true) ∧ rootsD z old m n p = opP (twD z old p.reverse m n true) := by
  have e : rootsE z old m n p = opF (twD z old p.reverse m n true) := by unfold rootsE; rw [if_neg (by omega), if_neg hr]; rfl
  refine ⟨e, ?_⟩
  unfold rootsD
  rw [e]
  unfold opF opP twO
  cases twD z old p.reverse m n true <;> rfl
theorem rootsD_dg {z : Int} {old : List Nat} {m n : Nat} {p : List (List Nat)} (hl : Dg old) (hp : ∀ d ∈ p, Dg d) : Dg (rootsD z old m n p).1 ∧ Dg (rootsD z old m n p).2 := by
  by_cases h : formedE z (old :: p) = 0
  · obtain ⟨hw, hf⟩ := formedE_zero h
    by_cases hr : m = 0 ∨ n ≤ m
    · rw [(rootsE_r h hr).2]; exact ⟨zD_dg, zD_dg⟩
    · rw [(rootsE_c h hr).2]
      refine opP_dg fun d hd => ?_
      have := twD_ok hw hl (hf old (by simp)) _ _ _ _ d (fun y hy => ⟨hp y (List.mem_reverse.1 hy), hf y (by simp at hy; simp [hy])⟩) hd
      exact ⟨this.1.1, this.2.1⟩
  · rw [(rootsE_f h).2]; exact ⟨zD_dg, zD_dg⟩
theorem results_cell_cell_tmp {P : Program} {fn : Func} {p p2 q : Tmp} {ty ty2 : TypeId} (h : fn.results = #[.cell p ty, .cell p2 ty2, .tmp q]) (tmps : Array Value) (w : World) (g g2 : Nat) (t t2 : TypeId) (cs cs2 : Array Value) (fr fr2 : Nat × Nat) (d d2 : TypeDesc)
    (hp : tmps.getD p undef = .pointer (some ⟨g, 0, none⟩)) (hg : w.heap[g]? = some (.cells cs t fr)) (hp2 : tmps.getD p2 undef = .pointer (some ⟨g2, 0, none⟩)) (hg2 : w.heap[g2]? = some (.cells cs2 t2 fr2))
    (hu : P.underlying ty = some d) (hd : (match d with | .struct _ | .array _ _ => true | _ => false) = true) (hi : (P.info? ty).map (·.size) = some cs.size)
    (hu2 : P.underlying ty2 = some d2) (hd2 : (match d2 with | .struct _ | .array _ _ => true | _ => false) = true) (hi2 : (P.info? ty2).map (·.size) = some cs2.size) (v : Value) (hq : tmps.getD q undef = v) :
    (results fn tmps).run P w = .ok (.tuple #[.agg cs, .agg cs2, v]) w := by
  have hp' : tmps[p]?.getD undef = .pointer (some ⟨g, 0, none⟩) := by simpa using hp
  have hp2' : tmps[p2]?.getD undef = .pointer (some ⟨g2, 0, none⟩) := by simpa using hp2
  have hq' : tmps[q]?.getD undef = v := by simpa using hq
  simp [results, h, hp', hp2', hq', asAddr, run_loadVar_row w g t ty cs fr d hg hu hd hi, run_loadVar_row w g2 t2 ty2 cs2 fr2 d2 hg2 hu2 hd2 hi2]

theorem there_zb {w : World} {g n : Nat} {t : TypeId} (h : w.heap[g]? = some (.cells (zb n) t (0, 0))) : w.there g 0 n := fun j hj =>
  ⟨by rw [cell_of_row w g (0 + j) _ t _ h, Nat.zero_add]; simp [zb, brow, hj], frozen_of_row _ _ _ _ _ h⟩
theorem lt_of_heap {w : World} {g : Nat} {o : Obj} (h : w.heap[g]? = some o) : g < w.heap.size := (Array.getElem?_eq_some_iff.1 h).1

set_option maxRecDepth 100000 in
set_option maxHeartbeats 2000000 in
theorem rootsOf_any (z : Int) (m n : Nat) (old : List Nat) (pv : Value) (p : List (List Nat)) (w : World) (hz : -9223372036854775808 ≤ z ∧ z ≤ 9223372036854775807) (hl : Dg old) (hm : m < 18446744073709551616) (hn : n < 18446744073709551616) (hp : RdD w pv p) (hT : Tabs w) :
    Calls Tryd.prog 11 #[.int .i64 z, .int .u64 m, .int .u64 n, .agg (brow old), pv] w fun e w' => e = .returned (.tuple #[.agg (brow (rootsD z old m n p).1), .agg (brow (rootsD z old m n p).2), .int .i64 (rootsE z old m n p)]) ∧ Kept [] w w' := by
  have HP := hide hp
  have hdg := rootsD_dg (z := z) (m := m) (n := n) hl (fun d hd => hp.dg hd)
  obtain ⟨ao, len, cap, rfl, h1, h2, h3, h4, h5⟩ := hp
  clear h4 h5
  have HT := hide hT
  have HL := hide hl
  have hll := hl.1
  clear hT
  obtain ⟨D, hD⟩ : ∃ D, rootsD z old m n p = D := ⟨_, rfl⟩
  obtain ⟨E, hE⟩ : ∃ E, rootsE z old m n p = E := ⟨_, rfl⟩
  have HD := hide hD
  have HE := hide hE
  rw [hD] at hdg
  rw [hD, hE]
  clear hD hE
  obtain ⟨D1, D2⟩ := D
  have hd1 := hdg.1.1
  have hd2 := hdg.2.1
  simp only at hd1 hd2 ⊢
  clear hdg
  go_enter Tryd.func11, Tryd.ntmps11
  have HGL := hide ((((Kept.refl [] (w.alloc (.cells (brow old) 23))).alloc (.cells (zb 32) 23)).alloc (.cells (zb 32) 23)).heap (heap_alloc_new w (.cells (brow old) 23)) (by simp))
  have HGZ := hide (((Kept.refl [] ((w.alloc (.cells (brow old) 23)).alloc (.cells (zb 32) 23))).alloc (.cells (zb 32) 23)).heap (alloc_at w (.cells (brow old) 23) (.cells (zb 32) 23)) (by simp))
  have HGY := hide (alloc3_at w (.cells (brow old) 23) (.cells (zb 32) 23) (.cells (zb 32) 23))
  have HK0 := hide ((((Kept.refl [] w).alloc (.cells (brow old) 23)).alloc (.cells (zb 32) 23)).alloc (.cells (zb 32) 23))
  have HSL := hide (by rw [List.length_map, hll]; exact Tryd.size_dig : (Tryd.prog.info? 23).map (·.size) = some (old.map u8).length)
  go_wp2_with (refine wpList_load_mid rfl 23 _ rfl w.heap.size 0 rfl (old.map u8) _ (range_row (unhide HGL)) Tryd.underlying23 rfl (unhide HSL) ?_)
  rw [zb32, one_dig old hll]
  obtain ⟨W0, hW0⟩ : ∃ W0, ((w.alloc (.cells (brow old) 23)).alloc (.cells (zb 32) 23)).alloc (.cells (zb 32) 23) = W0 := ⟨_, rfl⟩
  have hsz : w.heap.size + 1 + 1 + 1 = W0.heap.size := by rw [← hW0]; simp
  rw [hW0] at HGL HGZ HGY HK0 ⊢
  have k0 := (Kept.refl [] W0).alloc (.cells (brow old) 23)
  refine Calls.mono (mformed_any z _ _ p [old] _ hz ((unhide HP).old ((unhide HK0).trans k0 (by simp))) (RdD.one (by rw [hsz]; exact heap_alloc_new _ _) (unhide HL))) ?_
  rintro e w1 ⟨rfl, k1⟩
  have k01 := k0.trans k1 (by simp)
  have HK1 := hide ((unhide HK0).trans k01 (by simp))
  have HL1 := hide (k01.heap (unhide HGL) (by simp))
  have HZ1 := hide (k01.heap (unhide HGZ) (by simp))
  have HY1 := hide (k01.heap (unhide HGY) (by simp))
  clear k0 k1 k01 HGL HGZ HGY hW0
  obtain ⟨f, hf⟩ : ∃ f, formedE z ([old] ++ p) = f := ⟨_, rfl⟩
  have HF := hide (show formedE z (old :: p) = f from hf)
  rw [hf]
  clear hf
  by_cases hf0 : f = 0
  · subst hf0
    obtain ⟨hw, hff⟩ := formedE_zero (unhide HF)
    have HFF := hide hff
    clear hff
    by_cases hr : m = 0 ∨ n ≤ m
    · have HC := hide (by rw [← unhide HE, ← unhide HD]; exact rootsE_r (unhide HF) hr : E = 4 ∧ (D1, D2) = (zD, zD))
      have HYD := hide ((setRow_other w1 (w.heap.size + 1) (w.heap.size + 1 + 1) (zb 32) (by omega)).trans (unhide HY1))
      have HKK := hide (((unhide HK1).setRow (g := w.heap.size + 1) (Or.inr (by omega)) (zb 32)).setRow (g := w.heap.size + 1 + 1) (Or.inr (by omega)) (zb 32))
      have HZR := hide ((setRow_other (w1.setRow (w.heap.size + 1) (zb 32)) (w.heap.size + 1 + 1) (w.heap.size + 1) (zb 32) (by omega)).trans (setRow_heap w1 _ _ (zb 32) _ _ (unhide HZ1)))
      have HYR := hide (setRow_heap (w1.setRow (w.heap.size + 1) (zb 32)) _ _ (zb 32) _ _ (unhide HYD))
      by_cases hm0 : m = 0
      · have hr1 : ((m : Int) == 0) = true := by simp; omega
        go_wp2_with (first
          | (rw [zb32]; refine wpList_store_row rfl 23 _ _ rfl (w.heap.size + 1) (zb 32) rfl rfl _ (zb 32) (unhide HZ1) (by rw [zb_size]; exact Tryd.size_dig) rfl (brow_one _) ?_)
          | (refine wpList_store_row rfl 23 _ _ rfl (w.heap.size + 1 + 1) (zb 32) rfl rfl _ (zb 32) (unhide HYD) (by rw [zb_size]; exact Tryd.size_dig) rfl (brow_one _) ?_))
        rw [(unhide HC).1]
        have HC1 := hide (Prod.mk.inj (unhide HC).2).1
        have HC2 := hide (Prod.mk.inj (unhide HC).2).2
        rw [unhide HC1, unhide HC2]
        refine bodyPost_ret (v := .tuple #[.agg (zb 32), .agg (zb 32), .int .i64 4]) ?_ rfl ⟨rfl, unhide HKK⟩
        exact results_cell_cell_tmp rfl _ _ (w.heap.size + 1) (w.heap.size + 1 + 1) _ _ (zb 32) (zb 32) (0, 0) (0, 0) _ _ rfl (unhide HZR) rfl (unhide HYR) Tryd.underlying23 rfl (by rw [zb_size]; exact Tryd.size_dig) Tryd.underlying23 rfl (by rw [zb_size]; exact Tryd.size_dig) _ rfl
      · have hr1 : ((m : Int) == 0) = false := by simp; omega
        have hr2 : (n : Int) ≤ m := by omega
        go_wp2_with (first
          | (rw [zb32]; refine wpList_store_row rfl 23 _ _ rfl (w.heap.size + 1) (zb 32) rfl rfl _ (zb 32) (unhide HZ1) (by rw [zb_size]; exact Tryd.size_dig) rfl (brow_one _) ?_)
          | (refine wpList_store_row rfl 23 _ _ rfl (w.heap.size + 1 + 1) (zb 32) rfl rfl _ (zb 32) (unhide HYD) (by rw [zb_size]; exact Tryd.size_dig) rfl (brow_one _) ?_))
        rw [(unhide HC).1]
        have HC1 := hide (Prod.mk.inj (unhide HC).2).1
        have HC2 := hide (Prod.mk.inj (unhide HC).2).2
        rw [unhide HC1, unhide HC2]
        refine bodyPost_ret (v := .tuple #[.agg (zb 32), .agg (zb 32), .int .i64 4]) ?_ rfl ⟨rfl, unhide HKK⟩
        exact results_cell_cell_tmp rfl _ _ (w.heap.size + 1) (w.heap.size + 1 + 1) _ _ (zb 32) (zb 32) (0, 0) (0, 0) _ _ rfl (unhide HZR) rfl (unhide HYR) Tryd.underlying23 rfl (by rw [zb_size]; exact Tryd.size_dig) Tryd.underlying23 rfl (by rw [zb_size]; exact Tryd.size_dig) _ rfl
    · have hr1 : ((m : Int) == 0) = false := by simp; omega
      have hr2 : ¬ (n : Int) ≤ m := by omega
      have HC := hide (by rw [← unhide HE, ← unhide HD]; exact rootsE_c (unhide HF) hr : E = opF (twD z old p.reverse m n true) ∧ (D1, D2) = opP (twD z old p.reverse m n true))
      go_wp2_with (refine wpList_load_mid rfl 23 _ rfl w.heap.size 0 rfl (old.map u8) _ (range_row (unhide HL1)) Tryd.underlying23 rfl (unhide HSL) ?_)
      refine Calls.mono (climbBoth_any z old hz hw (unhide HL) (unhide HFF old (by simp)) p.reverse m n true _ _ (by omega) (by omega) hn (by rw [List.reverse_reverse]; exact (unhide HP).old (unhide HK1)) (fun y hy => unhide HFF y (by simp at hy; simp [hy])) ((unhide HT).k (unhide HK1))) ?_
      rintro e w2 ⟨rfl, k2⟩
      rw [← (unhide HC).1, ← (unhide HC).2]
      have HZ2 := hide (k2.heap (unhide HZ1) (by simp))
      have HY2 := hide (k2.heap (unhide HY1) (by simp))
      have HK2 := hide ((unhide HK1).trans k2 (by simp))
      have HZ2' := HZ2
      have HY2' := HY2
      clear k2 HZ1 HL1 HY1
      have hOs : (pw (D1, D2)).size = 64 := pw_size hd1 hd2
      have HSO := hide (by rw [hOs]; exact Tryd.size_roots : (Tryd.prog.info? 65).map (·.size) = some (pw (D1, D2)).size)
      have HNW := hide (setRow_heap (w2.alloc (.cells (zb 64) 65)) w2.heap.size (zb 64) (pw (D1, D2)) 65 (0, 0) (heap_alloc_new _ _))
      have k5 := ((Kept.refl [] w2).alloc (.cells (zb 64) 65)).setRow (g := w2.heap.size) (Or.inr (Nat.le_refl _)) (pw (D1, D2))
      have HZ5 := hide (k5.heap (unhide HZ2) (by simp))
      have HY5 := hide (k5.heap (unhide HY2) (by simp))
      have HK5 := hide ((unhide HK2).trans k5 (by simp))
      have HR1 := hide (pw_ranges (unhide HNW) hd1).1
      have HR2 := hide (pw_ranges (unhide HNW) hd1).2
      clear k5 HZ2 HY2
      go_wp2_with (rw [zb64]; refine wpList_store_row rfl 65 _ _ rfl w2.heap.size (pw (D1, D2)) rfl rfl _ (zb 64) (heap_alloc_new _ _) (unhide HSO) (by rw [zb_size, hOs]) (pw_one _) ?_)
      obtain ⟨W5, hW5⟩ : ∃ W5, (w2.alloc (.cells (zb 64) 65)).setRow w2.heap.size (pw (D1, D2)) = W5 := ⟨_, rfl⟩
      have hs2 := (unhide HK2).size
      have hlt1 : w.heap.size + 1 < w2.heap.size := by have := lt_of_heap (unhide HZ2'); omega
      rw [hW5] at HZ5 HY5 HK5 HR1 HR2 ⊢
      have hud := Tryd.underlying23
      have hi1 : (Tryd.prog.info? 23).map (·.size) = some (D1.map u8).length := by rw [List.length_map, hd1]; exact Tryd.size_dig
      have hi2 : (Tryd.prog.info? 23).map (·.size) = some (D2.map u8).length := by rw [List.length_map, hd2]; exact Tryd.size_dig
      have hr1 := unhide HR1
      have hr2 := unhide HR2
      have hlt2 : w.heap.size + 1 + 1 < w2.heap.size := by have := lt_of_heap (unhide HY2'); omega
      have HYD := hide ((setRow_other W5.drew (w.heap.size + 1) (w.heap.size + 1 + 1) (brow D1) (by omega)).trans (unhide HY5))
      have kA := (Kept.refl [w.heap.size + 1] W5.drew).setRow (g := w.heap.size + 1) (by simp) (brow D1)
      have kB := (Kept.refl [w.heap.size + 1 + 1] (W5.drew.setRow (w.heap.size + 1) (brow D1))).setRow (g := w.heap.size + 1 + 1) (by simp) (brow D2)
      have hH6 : (W5.drew.setRow (w.heap.size + 1) (brow D1)).rangeAt w2.heap.size 0 (D1.map u8) ∧ (W5.drew.setRow (w.heap.size + 1) (brow D1)).rangeAt w2.heap.size 32 (D2.map u8) := And.intro (range_kept (w := W5.drew) hr1 kA (by simp; omega)) (range_kept (w := W5.drew) hr2 kA (by simp; omega))
      have hH7 := And.intro (range_kept hH6.1 kB (by simp; omega)) (range_kept hH6.2 kB (by simp; omega))
      have HKK := hide ((((unhide HK5).drew).setRow (g := w.heap.size + 1) (Or.inr (by omega)) (brow D1)).setRow (g := w.heap.size + 1 + 1) (Or.inr (by omega)) (brow D2))
      have HZR := hide ((setRow_other (W5.drew.setRow (w.heap.size + 1) (brow D1)) (w.heap.size + 1 + 1) (w.heap.size + 1) (brow D2) (by omega)).trans (setRow_heap W5.drew _ _ (brow D1) _ _ (unhide HZ5)))
      have HYR := hide (setRow_heap (W5.drew.setRow (w.heap.size + 1) (brow D1)) _ _ (brow D2) _ _ (unhide HYD))
      clear kA kB
      refine wp_ret8 (fun w' => w'.rangeAt w2.heap.size 0 (D1.map u8) ∧ w'.rangeAt w2.heap.size 32 (D2.map u8)) (by kernel_rfl) (by kernel_rfl) (by kernel_rfl) (by kernel_rfl) (by kernel_rfl) (by kernel_rfl) (by kernel_rfl) (by kernel_rfl) (by kernel_rfl) (by kernel_rfl) (by kernel_rfl) (by kernel_rfl) (by kernel_rfl) (by kernel_rfl) (by kernel_rfl) (by kernel_rfl) (by kernel_rfl) rfl rfl
        ⟨hr1, hr2⟩ (.pointer (some ⟨w2.heap.size, 0, none⟩)) (.agg (D1.map u8).toArray) (.pointer (some ⟨w2.heap.size, 32, none⟩)) (.agg (D2.map u8).toArray) (.int .i64 E) (.int .i64 E)
        _ _ _ _ _ _ _ _ (by simp only [Act.put, List.setIfInBounds_toArray, List.set_cons_zero, List.set_cons_succ]; rfl) (by simp only [Act.put, List.setIfInBounds_toArray, List.set_cons_zero, List.set_cons_succ]; rfl) (by simp only [Act.put, List.setIfInBounds_toArray, List.set_cons_zero, List.set_cons_succ]; rfl) (by simp only [Act.put, List.setIfInBounds_toArray, List.set_cons_zero, List.set_cons_succ]; rfl) (by simp only [Act.put, List.setIfInBounds_toArray, List.set_cons_zero, List.set_cons_succ]; rfl) (by simp only [Act.put, List.setIfInBounds_toArray, List.set_cons_zero, List.set_cons_succ]; rfl) (by simp only [Act.put, List.setIfInBounds_toArray, List.set_cons_zero, List.set_cons_succ]; rfl) (by simp only [Act.put, List.setIfInBounds_toArray, List.set_cons_zero, List.set_cons_succ]; rfl)
        (by exact Or.inl ⟨by rfl, fun W hW => by go_simp⟩)
        (by exact yieldsIf_load_mid (by rfl) _ _ rfl w2.heap.size 0 rfl (D1.map u8) _ (fun W hW => hW.1) Tryd.underlying23 rfl hi1)
        (by exact Or.inl ⟨by rfl, fun W hW => by go_simp⟩)
        (by exact yieldsIf_load_mid (by rfl) _ _ rfl w2.heap.size 32 rfl (D2.map u8) _ (fun W hW => hW.2) Tryd.underlying23 rfl hi2)
        (by exact Or.inl ⟨by rfl, fun W hW => by go_simp⟩)
        23 23 _ _ _ _ rfl rfl (w.heap.size + 1) (w.heap.size + 1 + 1) (brow D1) (brow D2) (zb 32) (zb 32) 23 23
        (by rfl) (by rfl) (unhide HZ5) (by rw [brow_size, hd1]; exact Tryd.size_dig) (by rw [zb_size, brow_size, hd1]) (brow_one _) hH6
        (by rfl) (by rfl) (unhide HYD) (by rw [brow_size, hd2]; exact Tryd.size_dig) (by rw [zb_size, brow_size, hd2]) (brow_one _) hH7
        (by exact Or.inl ⟨by rfl, fun W hW => by go_simp⟩) ?_
      go_wp2_with fail
      refine bodyPost_ret (v := .tuple #[.agg (brow D1), .agg (brow D2), .int .i64 E]) ?_ rfl ⟨rfl, unhide HKK⟩
      exact results_cell_cell_tmp rfl _ _ (w.heap.size + 1) (w.heap.size + 1 + 1) _ _ (brow D1) (brow D2) (0, 0) (0, 0) _ _ rfl (unhide HZR) rfl (unhide HYR) Tryd.underlying23 rfl (by rw [brow_size, hd1]; exact Tryd.size_dig) Tryd.underlying23 rfl (by rw [brow_size, hd2]; exact Tryd.size_dig) _ rfl
  · have hb : ((f : Int) != 0) = true := by simp; omega
    have HC := hide (by rw [← unhide HE, ← unhide HD, ← unhide HF]; exact rootsE_f (by rw [unhide HF]; exact hf0) : E = f ∧ (D1, D2) = (zD, zD))
    have HYD := hide ((setRow_other w1 (w.heap.size + 1) (w.heap.size + 1 + 1) (zb 32) (by omega)).trans (unhide HY1))
    have HKK := hide (((unhide HK1).setRow (g := w.heap.size + 1) (Or.inr (by omega)) (zb 32)).setRow (g := w.heap.size + 1 + 1) (Or.inr (by omega)) (zb 32))
    have HZR := hide ((setRow_other (w1.setRow (w.heap.size + 1) (zb 32)) (w.heap.size + 1 + 1) (w.heap.size + 1) (zb 32) (by omega)).trans (setRow_heap w1 _ _ (zb 32) _ _ (unhide HZ1)))
    have HYR := hide (setRow_heap (w1.setRow (w.heap.size + 1) (zb 32)) _ _ (zb 32) _ _ (unhide HYD))
    go_wp2_with (first
      | (rw [zb32]; refine wpList_store_row rfl 23 _ _ rfl (w.heap.size + 1) (zb 32) rfl rfl _ (zb 32) (unhide HZ1) (by rw [zb_size]; exact Tryd.size_dig) rfl (brow_one _) ?_)
      | (refine wpList_store_row rfl 23 _ _ rfl (w.heap.size + 1 + 1) (zb 32) rfl rfl _ (zb 32) (unhide HYD) (by rw [zb_size]; exact Tryd.size_dig) rfl (brow_one _) ?_))
    rw [(unhide HC).1]
    have HC1 := hide (Prod.mk.inj (unhide HC).2).1
    have HC2 := hide (Prod.mk.inj (unhide HC).2).2
    rw [unhide HC1, unhide HC2]
    refine bodyPost_ret (v := .tuple #[.agg (zb 32), .agg (zb 32), .int .i64 f]) ?_ rfl ⟨rfl, unhide HKK⟩
    exact results_cell_cell_tmp rfl _ _ (w.heap.size + 1) (w.heap.size + 1 + 1) _ _ (zb 32) (zb 32) (0, 0) (0, 0) _ _ rfl (unhide HZR) rfl (unhide HYR) Tryd.underlying23 rfl (by rw [zb_size]; exact Tryd.size_dig) Tryd.underlying23 rfl (by rw [zb_size]; exact Tryd.size_dig) _ rfl
end Go.Proofs.YtbljofojeagdkaaDoor
namespace Go.Proofs.YtbljofojeagdkaaDoor
open Go.RowKit Go.BigFrame
set_option linter.unusedVariables false
set_option linter.unusedSimpArgs false

theorem formedE_ok {z : Int} {ds : List (List Nat)} (hw : widthB z = true) (h : ∀ d ∈ ds, formB z d = true) : formedE z ds = 0 := by
  unfold formedE
  rw [if_neg (by rw [hw]; simp), if_pos (List.all_eq_true.2 h)]
theorem spl_bel (n : Nat) : spl n = belT n := rfl
theorem cl_path (z : Int) (leaf : List Nat) (i : Nat) : ∀ (c : Nat) (p : List (List Nat)) (lo hi : Nat), lo ≤ i → i < hi → hi - lo ≤ 2 ^ c → (clD z leaf p (i - lo) (hi - lo)).isSome = decide (p.length = (pathF i c lo hi).length)
  | c, p, lo, hi, h1, h2, h3 => by
    by_cases hone : hi - lo = 1
    · rw [pathF_one i c (by omega)]
      cases p with
      | nil => simp [clD, hone]
      | cons d r => simp [clD, hone]
    · cases c with
      | zero => simp at h3; omega
      | succ c =>
        have hb := belT_lt (n := hi - lo) (by omega)
        have hh := belT_half (n := hi - lo) (c := c) (by omega) h3
        cases p with
        | nil =>
          have hne : pathF i (c + 1) lo hi ≠ [] := by
            by_cases hs : i < lo + belT (hi - lo)
            · rw [pathF_l (by omega) hs]; simp
            · rw [pathF_r (by omega) hs]; simp
          have : ¬ (0 = (pathF i (c + 1) lo hi).length) := fun e => hne (List.length_eq_zero_iff.1 e.symm)
          simp [clD, hone, this]
        | cons d r =>
          unfold clD
          rw [if_neg hone, spl_bel]
          by_cases hs : i < lo + belT (hi - lo)
          · rw [if_pos (by omega), Option.isSome_map, pathF_l (by omega) hs, List.length_append]
            have ih := cl_path z leaf i c r lo (lo + belT (hi - lo)) h1 hs (by omega)
            rw [Nat.add_sub_cancel_left] at ih
            rw [ih]
            simp
          · rw [if_neg (by omega), Option.isSome_map, pathF_r (by omega) hs, List.length_append]
            have ih := cl_path z leaf i c r (lo + belT (hi - lo)) hi (by omega) h2 (by omega)
            rw [show i - (lo + belT (hi - lo)) = i - lo - belT (hi - lo) by omega, show hi - (lo + belT (hi - lo)) = hi - lo - belT (hi - lo) by omega] at ih
            rw [ih]
            simp
theorem tw_seam (z : Int) (old : List Nat) (m : Nat) : ∀ (c : Nat) (p : List (List Nat)) (lo hi : Nat) (wh : Bool), lo < m → m ≤ hi → hi - lo ≤ 2 ^ c → (twD z old p (m - lo) (hi - lo) wh).isSome = decide (p.length = (seamF m c lo hi wh).length)
  | c, p, lo, hi, wh, h1, h2, h3 => by
    by_cases hone : m = hi
    · rw [seamF_end hone]
      subst hone
      cases p with
      | nil => cases wh <;> simp [twD]
      | cons d r =>
        cases wh with
        | true => simp [twD]
        | false =>
          cases r with
          | nil => simp [twD]
          | cons x y => simp [twD]
    · cases c with
      | zero => simp at h3; omega
      | succ c =>
        have hb := belT_lt (n := hi - lo) (by omega)
        have hh := belT_half (n := hi - lo) (c := c) (by omega) h3
        cases p with
        | nil =>
          have hne : seamF m (c + 1) lo hi wh ≠ [] := by
            by_cases hs : m ≤ lo + belT (hi - lo)
            · rw [seamF_l hone hs]; simp
            · rw [seamF_r hone hs]; simp
          have : ¬ (0 = (seamF m (c + 1) lo hi wh).length) := fun e => hne (List.length_eq_zero_iff.1 e.symm)
          have h9 : ¬ (m - lo = hi - lo) := by omega
          simp [twD, this, h9]
        | cons d r =>
          unfold twD
          rw [if_neg (by omega), spl_bel]
          by_cases hs : m ≤ lo + belT (hi - lo)
          · rw [if_pos (by omega), Option.isSome_map, seamF_l hone hs, List.length_append]
            have ih := tw_seam z old m c r lo (lo + belT (hi - lo)) wh h1 hs (by omega)
            rw [Nat.add_sub_cancel_left] at ih
            rw [ih]
            simp
          · rw [if_neg (by omega), Option.isSome_map, seamF_r hone hs, List.length_append]
            have ih := tw_seam z old m c r (lo + belT (hi - lo)) hi false (by omega) h2 (by omega)
            rw [show m - (lo + belT (hi - lo)) = m - lo - belT (hi - lo) by omega, show hi - (lo + belT (hi - lo)) = hi - lo - belT (hi - lo) by omega] at ih
            rw [ih]
            simp
/-- RootOf's error, of a proof that is formed. -/
theorem rootE_len {z : Int} {leaf : List Nat} {i n : Nat} {p : List (List Nat)} (hf : formedE z (leaf :: p) = 0) (hi : i < n) (hn : n < 18446744073709551616) : rootE z leaf i n p = if p.length = (pathF i 64 0 n).length then 0 else 10 := by
  unfold rootE clO
  rw [if_neg (by omega), if_neg (by omega)]
  have h := cl_path z leaf i 64 p.reverse 0 n (by omega) hi (by omega)
  rw [Nat.sub_zero, Nat.sub_zero, List.length_reverse] at h
  rw [h]
  simp
theorem rootsE_len {z : Int} {old : List Nat} {m n : Nat} {p : List (List Nat)} (hf : formedE z (old :: p) = 0) (h0 : 0 < m) (hm : m < n) (hn : n < 18446744073709551616) : rootsE z old m n p = if p.length = (smL m n).length then 0 else 10 := by
  have hs : smL m n = seamF m 64 0 n true := by unfold smL; rw [if_neg (by omega)]
  rw [hs]
  unfold rootsE twO
  rw [if_neg (by omega), if_neg (by omega)]
  have h := tw_seam z old m 64 p.reverse 0 n true h0 (by omega) (by omega)
  rw [Nat.sub_zero, Nat.sub_zero, List.length_reverse] at h
  rw [h]
  simp
end Go.Proofs.YtbljofojeagdkaaDoor
namespace Go.Proofs.YtbljofojeagdkaaDoor
open Go.RowKit Go.BigFrame
set_option linter.unusedVariables false
set_option linter.unusedSimpArgs false

theorem rngD_oneH {z : Int} {no : List Nat} {L : List (List Nat)} {lo : Nat} (h : lo < L.length) : rngD z no L lo (lo + 1) = L.getD lo [] := by
  unfold rngD
  rw [Nat.add_sub_cancel_left, List.drop_eq_getElem_cons h, List.take_succ_cons, List.take_zero, logT_one, List.getD_eq_getElem?_getD, List.getElem?_eq_getElem h]
  rfl
theorem belT_same {n k : Nat} (hn : 2 ≤ n) (h1 : belT n < k) (h2 : k ≤ n) : belT k = belT n := by
  have hb := belT_lt hn
  unfold belT at h1 hb ⊢
  congr 1
  rw [Nat.log2_eq_iff (by omega)]
  have hlt := Nat.lt_log2_self (n := n - 1)
  rw [Nat.pow_succ] at hlt ⊢
  omega
/-- The proof of a leaf leads to the root. -/
theorem cl_val (z : Int) (no : List Nat) (L : List (List Nat)) (i : Nat) : ∀ (c lo hi : Nat), lo ≤ i → i < hi → hi ≤ L.length → hi - lo ≤ 2 ^ c → clD z (L.getD i []) ((pathF i c lo hi).map fun s => rngD z no L s.1 s.2).reverse (i - lo) (hi - lo) = some (rngD z no L lo hi)
  | c, lo, hi, h1, h2, h0, h3 => by
    by_cases hone : hi - lo = 1
    · rw [pathF_one i c (by omega)]
      have e1 : i = lo := by omega
      have e2 : hi = lo + 1 := by omega
      subst e1
      subst e2
      rw [rngD_oneH (by omega)]
      simp [clD]
    · cases c with
      | zero => simp at h3; omega
      | succ c =>
        have hb := belT_lt (n := hi - lo) (by omega)
        have hh := belT_half (n := hi - lo) (c := c) (by omega) h3
        by_cases hs : i < lo + belT (hi - lo)
        · rw [pathF_l (by omega) hs, List.map_append, List.reverse_append, List.map_cons, List.map_nil, List.reverse_singleton, List.singleton_append]
          unfold clD
          rw [if_neg hone, spl_bel, if_pos (by omega)]
          have ih := cl_val z no L i c lo (lo + belT (hi - lo)) h1 hs (by omega) (by omega)
          rw [Nat.add_sub_cancel_left] at ih
          rw [ih, Option.map_some, rngD_cut (lo := lo) (hi := hi) (by omega) h0]
          rfl
        · rw [pathF_r (by omega) hs, List.map_append, List.reverse_append, List.map_cons, List.map_nil, List.reverse_singleton, List.singleton_append]
          unfold clD
          rw [if_neg hone, spl_bel, if_neg (by omega)]
          have ih := cl_val z no L i c (lo + belT (hi - lo)) hi (by omega) h2 h0 (by omega)
          rw [show i - (lo + belT (hi - lo)) = i - lo - belT (hi - lo) by omega, show hi - (lo + belT (hi - lo)) = hi - lo - belT (hi - lo) by omega] at ih
          rw [ih, Option.map_some, rngD_cut (lo := lo) (hi := hi) (by omega) h0]
          rfl
/-- The proof of a beginning leads to both roots. -/
theorem tw_val (z : Int) (no old : List Nat) (L : List (List Nat)) (m : Nat) : ∀ (c lo hi : Nat) (wh : Bool), lo < m → m ≤ hi → hi ≤ L.length → hi - lo ≤ 2 ^ c → (wh = true → old = rngD z no L lo m) → twD z old ((seamF m c lo hi wh).map fun s => rngD z no L s.1 s.2).reverse (m - lo) (hi - lo) wh = some (rngD z no L lo m, rngD z no L lo hi)
  | c, lo, hi, wh, h1, h2, h0, h3, hold => by
    by_cases hone : m = hi
    · rw [seamF_end hone]
      subst hone
      cases wh with
      | true => simp [twD, hold rfl]
      | false => simp [twD]
    · cases c with
      | zero => simp at h3; omega
      | succ c =>
        have hb := belT_lt (n := hi - lo) (by omega)
        have hh := belT_half (n := hi - lo) (c := c) (by omega) h3
        by_cases hs : m ≤ lo + belT (hi - lo)
        · rw [seamF_l hone hs, List.map_append, List.reverse_append, List.map_cons, List.map_nil, List.reverse_singleton, List.singleton_append]
          unfold twD
          rw [if_neg (by omega), spl_bel, if_pos (by omega)]
          have ih := tw_val z no old L m c lo (lo + belT (hi - lo)) wh h1 hs (by omega) (by omega) hold
          rw [Nat.add_sub_cancel_left] at ih
          rw [ih, Option.map_some, rngD_cut (lo := lo) (hi := hi) (by omega) h0]
          rfl
        · rw [seamF_r hone hs, List.map_append, List.reverse_append, List.map_cons, List.map_nil, List.reverse_singleton, List.singleton_append]
          unfold twD
          rw [if_neg (by omega), spl_bel, if_neg (by omega)]
          have ih := tw_val z no old L m c (lo + belT (hi - lo)) hi false (by omega) h2 h0 (by omega) (fun h => by simp at h)
          rw [show m - (lo + belT (hi - lo)) = m - lo - belT (hi - lo) by omega, show hi - (lo + belT (hi - lo)) = hi - lo - belT (hi - lo) by omega] at ih
          have hsame := belT_same (n := hi - lo) (k := m - lo) (by omega) (by omega) (by omega)
          rw [ih, Option.map_some, rngD_cut (lo := lo) (hi := hi) (by omega) h0, rngD_cut (lo := lo) (hi := m) (by omega) (by omega), hsame]
          rfl
theorem rgL_rng {z : Int} {L : List (List Nat)} {ss : List (Nat × Nat)} (h : ∀ s ∈ ss, s.1 < s.2 ∧ s.2 ≤ L.length) : (ss.map fun s => rgD z L s.1 s.2) = ss.map fun s => rngD z (noT z) L s.1 s.2 := by
  apply List.map_congr_left
  intro s hs
  have := h s hs
  exact if_neg (by omega)
theorem opD_some (x : List Nat) : opD (some x) = x := rfl
end Go.Proofs.YtbljofojeagdkaaDoor
namespace Go.Proofs.YtbljofojeagdkaaDoor
open Go.RowKit Go.BigFrame
set_option linter.unusedVariables false
set_option linter.unusedSimpArgs false

set_option maxRecDepth 100000 in
set_option maxHeartbeats 1000000 in
theorem twidth_any (n : Nat) (w : World) (hn : n < 256) :
    Calls Tryd.prog 21 #[.int .u8 n] w fun e w' => e = .returned (.int .i64 ((1 + n % 32 : Nat) : Int)) ∧ w' = w := by
  have h1 : IntKind.i64.wrap (n : Int) = n := by simp [IntKind.wrap, IntKind.signed, IntKind.bits]; omega
  obtain ⟨y, hy⟩ : ∃ y, n % 32 = y := ⟨_, rfl⟩
  have hy2 : (n : Int) % 32 = y := by omega
  have hy3 : (n : Int).tmod 32 = y := by rw [Int.tmod_eq_emod_of_nonneg (by omega)]; omega
  have hy32 : (y : Int) < 32 := by omega
  rw [hy]
  have HY := hide hy
  clear hy
  go_enter Tryd.func21, Tryd.ntmps21
  go_wp2
  go_ret
  exact ⟨by congr 2, rfl⟩

def cI (k i : Nat) (d : List Nat) : List Nat := (d.take k ++ List.replicate (i - k) 0) ++ d.drop i
theorem cI_len {k i : Nat} {d : List Nat} (h : k ≤ i) (hi : i ≤ 32) (hd : d.length = 32) : (cI k i d).length = 32 := by simp [cI, hd]; omega
theorem cI_set {k i : Nat} {d : List Nat} (h : k ≤ i) (hi : i < 32) (hd : d.length = 32) : (brow (cI k i d)).setIfInBounds i (.int .u8 0) = brow (cI k (i + 1) d) := by
  have hA : (d.take k ++ List.replicate (i - k) 0).length = i := by simp [hd]; omega
  have e1 : (cI k i d).set i 0 = cI k (i + 1) d := by
    unfold cI
    rw [List.set_append_right _ _ (by omega), hA, Nat.sub_self, List.drop_eq_getElem_cons (show i < d.length by omega), List.set_cons_zero, show i + 1 - k = (i - k) + 1 by omega, List.replicate_succ']
    simp
  rw [← e1]
  unfold brow
  rw [List.setIfInBounds_toArray, List.map_set]
  rfl
theorem cI_end {k : Nat} {d : List Nat} (hd : d.length = 32) : cI k 32 d = cutL k d := by unfold cI cutL; rw [List.drop_eq_nil_of_le (by omega), List.append_nil]
theorem cI_start {k : Nat} {d : List Nat} : cI k k d = d := by simp [cI]

set_option maxRecDepth 100000 in
set_option maxHeartbeats 1000000 in
theorem tcut_any (k : Nat) (d : List Nat) (w : World) (h1 : 1 ≤ k) (h2 : k ≤ 32) (hd : d.length = 32) (hb : ∀ x ∈ d, x < 256) :
    Calls Tryd.prog 39 #[.int .i64 k, .agg (brow d)] w fun e w' => e = .returned (.agg (brow (cutL k d))) ∧ Kept [] w w' := by
  have hcl := cutL_len k d h2 hd
  have HCE := hide (cI_end (k := k) hd)
  clear hb
  go_enter Tryd.func39, Tryd.ntmps39
  go_wp2_with fail
  rw [zb32]
  have HA := hide (heap_alloc2_old w (.cells (brow d) 23) (.cells (zb 32) 23))
  have HB := hide (heap_alloc2_new w (.cells (brow d) 23) (.cells (zb 32) 23))
  have HK := hide (((Kept.refl [] w).alloc (.cells (brow d) 23)).alloc (.cells (zb 32) 23))
  obtain ⟨W, hW⟩ : ∃ W, (w.alloc (.cells (brow d) 23)).alloc (.cells (zb 32) 23) = W := ⟨_, rfl⟩
  rw [hW] at HA HB HK ⊢
  clear hW
  go_loopw [5] (fun t wr => ∃ (i : Nat), k ≤ i ∧ i ≤ 32 ∧ t = .int .i64 i ∧ Hid (wr.heap[w.heap.size]? = some (.cells (brow (cI k i d)) 23 (0, 0))) ∧ Hid (wr.heap[w.heap.size + 1]? = some (.cells (zb 32) 23 (0, 0))) ∧ Hid (Kept [] w wr)) (fun t _ => 32 - (intOf t).toNat)
  case atStart => exact ⟨k, Nat.le_refl _, h2, rfl, hide (by rw [cI_start]; exact unhide HA), HB, HK⟩
  case round =>
    obtain ⟨i, hi1, hi2, rfl, HG, HZ, HKr⟩ := hrel
    by_cases hlt : i < 32
    · have hlt' : (i : Int) < 32 := by omega
      have q0 := brow_cell (unhide HG) i (by rw [cI_len hi1 hi2 hd]; exact hlt)
      simp only [Go.Proofs.YtbljofojeagdkaaDoor.u8] at q0
      have z0 : wr.frozen? ⟨w.heap.size, i, none⟩ = false := frozen_of_row _ _ _ _ _ (unhide HG)
      have k1 := (Kept.refl [w.heap.size] wr).setCell (p := ⟨w.heap.size, i, none⟩) (Or.inl (by simp)) (.int .u8 0)
      have HG2 := hide (by have h9 := heap_setCell_same wr w.heap.size i _ 23 (.int .u8 0) (unhide HG); rw [cI_set hi1 hlt hd] at h9; exact h9 : (wr.setCell ⟨w.heap.size, i, none⟩ (.int .u8 0)).heap[w.heap.size]? = some (.cells (brow (cI k (i + 1) d)) 23 (0, 0)))
      have HZ2 := hide (k1.heap (unhide HZ) (by simp))
      have HK2 := hide ((unhide HKr).setCell (p := ⟨w.heap.size, i, none⟩) (Or.inr (Nat.le_refl _)) (.int .u8 0))
      clear k1
      go_wp2
      refine ⟨⟨i + 1, by omega, by omega, by go_num, HG2, HZ2, HK2⟩, ?_⟩
      simp [intOf]; omega
    · have hlt' : ¬ (i : Int) < 32 := by omega
      have hi32 : i = 32 := by omega
      subst hi32
      rw [unhide HCE] at HG
      go_wp2_with (first
        | (refine wpList_load_row rfl 23 _ rfl w.heap.size rfl _ (brow (cutL k d)) (0, 0) _ (unhide HG) Tryd.underlying23 rfl (by rw [brow_size, hcl]; exact Tryd.size_dig) ?_)
        | (refine wpList_store_row rfl 23 _ _ rfl (w.heap.size + 1) (brow (cutL k d)) rfl rfl _ (zb 32) (unhide HZ) (by rw [brow_size, hcl]; exact Tryd.size_dig) (by rw [zb_size, brow_size, hcl]) (brow_one _) ?_))
      refine bodyPost_ret (v := .agg (brow (cutL k d))) ?_ rfl ⟨rfl, (unhide HKr).setRow (Or.inr (by omega)) _⟩
      exact results_cell_row rfl _ _ (w.heap.size + 1) _ (brow (cutL k d)) (0, 0) _ rfl (setRow_heap _ _ _ _ _ _ (unhide HZ)) Tryd.underlying23 rfl (by rw [brow_size, hcl]; exact Tryd.size_dig)

theorem wpList_load_midT {P : Program} {ops : Array Oper} {rest : List Oper} {op : Oper} {a : Act} {w : World} {Q : Exit → Act → World → Prop} (hw : Region.wanted op (yielded ops a.tmps) = true) (ty : TypeId) (x : Operand) (ho : op.op = .load ty x)
    (b o : Nat) (hx : a.eval x = .pointer (some ⟨b, o, none⟩)) (cs : List Value) (d : TypeDesc) (hc : w.rangeAt b o cs)
    (hu : P.underlying ty = some d) (hd : d.isRow = true) (hi : (P.info? ty).map (·.size) = some cs.length)
    (h : wpList P ops Q rest (a.put op.dst (.agg cs.toArray)) w) : wpList P ops Q (op :: rest) a w :=
  wpList_want hw fun _ hK => wp_load_mid ty x ho b o hx cs d hc hu hd hi (hK _ _ h)
theorem RdD_nil {w : World} : RdD w (.slice none 0 0) [] := ⟨none, 0, 0, rfl, rfl, Nat.le_refl _, by omega, fun d hd => by simp at hd, fun h => by omega⟩
theorem cutL_cut2 {k : Nat} {d : List Nat} (hk : k ≤ 32) (hd : d.length = 32) : cutL k (cutL k d) = cutL k d := cutL_cutL k d (by omega)
theorem cut_dg {k : Nat} {d : List Nat} (hk : k ≤ 32) (hd : Dg d) : Dg (cutL k d) := ⟨cutL_len k d hk hd.1, cutL_byte k d hd.2⟩
theorem cut_form {k : Nat} {d : List Nat} (h1 : 1 ≤ k) (hk : k ≤ 32) (hd : Dg d) : formB (k : Int) (cutL k d) = true := by
  have hw : widthB (k : Int) = true := by simp [widthB]; omega
  unfold formB
  rw [hw, Int.toNat_natCast, cutL_cut2 hk hd.1]
  simp

end Go.Proofs.YtbljofojeagdkaaDoor
namespace Go.Proofs.YtbljofojeagdkaaDoor
open Go.RowKit Go.BigFrame
set_option linter.unusedVariables false
set_option linter.unusedSimpArgs false

theorem clD_same (z : Int) (l l' : List Nat) : ∀ (p : List (List Nat)) (i n : Nat), (clD z l p i n).isSome = (clD z l' p i n).isSome
  | [], i, n => by unfold clD; split <;> rfl
  | d :: r, i, n => by
    unfold clD
    split
    · rfl
    · split
      · rw [Option.isSome_map, Option.isSome_map, clD_same z l l' r]
      · rw [Option.isSome_map, Option.isSome_map, clD_same z l l' r]
theorem formedE_all {z : Int} {ds : List (List Nat)} (hw : widthB z = true) (h : ∀ d ∈ ds, formB z d = true) : formedE z ds = 0 := by
  unfold formedE
  rw [if_neg (by rw [hw]; simp), if_pos (List.all_eq_true.2 h)]
/-- Two leaves, one proof: one error. -/
theorem rootE_same {z : Int} {x y : List Nat} {i n : Nat} {p : List (List Nat)} (hw : widthB z = true) (hx : formB z x = true) (hy : formB z y = true) (hp : ∀ d ∈ p, formB z d = true) : rootE z x i n p = rootE z y i n p := by
  have fx : formedE z (x :: p) = 0 := formedE_all hw (by intro d hd; rcases List.mem_cons.1 hd with rfl | h; exact hx; exact hp d h)
  have fy : formedE z (y :: p) = 0 := formedE_all hw (by intro d hd; rcases List.mem_cons.1 hd with rfl | h; exact hy; exact hp d h)
  by_cases hr : n ≤ i
  · rw [(rootE_r fx hr).1, (rootE_r fy hr).1]
  · rw [(rootE_c fx hr).1, (rootE_c fy hr).1]
    unfold opE
    rw [clD_same z x y]
theorem rootE_lt {z : Int} {x : List Nat} {i n : Nat} {p : List (List Nat)} (h : rootE z x i n p = 0) : i < n := by
  unfold rootE at h
  split at h
  · omega
  · split at h
    · omega
    · omega
theorem rootD_bad {z : Int} {x : List Nat} {i n : Nat} {p : List (List Nat)} (h : rootE z x i n p ≠ 0) : rootD z x i n p = zD := by
  unfold rootD; rw [if_neg h]
/-- What a proof leads to has the form. -/
theorem rootD_form {z : Int} {x : List Nat} {i n : Nat} {p : List (List Nat)} (hw : widthB z = true) (hx : formB z x = true) (hxd : Dg x) (hp : ∀ d ∈ p, formB z d = true) (h : rootE z x i n p = 0) : formB z (rootD z x i n p) = true := by
  have fx : formedE z (x :: p) = 0 := formedE_all hw (by intro d hd; rcases List.mem_cons.1 hd with rfl | h; exact hx; exact hp d h)
  have hr : ¬ n ≤ i := by have := rootE_lt h; omega
  have h2 := rootE_c (i := i) (n := n) fx hr
  rw [h2.2]
  rw [h2.1] at h
  cases hc : clD z x p.reverse i n with
  | none => rw [hc] at h; simp [opE] at h
  | some d => exact (clD_ok hw hxd hx _ _ _ d hc).2
theorem inc_root {z : Int} {x r : List Nat} {i n : Nat} {p : List (List Nat)} (hw : widthB z = true) (hx : formB z x = true) (hr : formB z r = true) (hp : ∀ d ∈ p, formB z d = true) (h : rootE z x i n p = 0) : incE z x i n p r = if rootD z x i n p = r then 0 else 10 := by
  unfold incE
  rw [if_neg (by rw [formedE_all hw (by intro d hd; simp at hd; rcases hd with rfl | rfl | hd; exact hx; exact hr; exact hp d hd)]; simp), if_neg (by rw [h]; simp)]
theorem root_one {z : Int} {x : List Nat} (hw : widthB z = true) (hx : formB z x = true) : rootE z x 0 1 [] = 0 ∧ rootD z x 0 1 [] = x := by
  have fx : formedE z [x] = 0 := formedE_all hw (by intro d hd; simp at hd; subst hd; exact hx)
  have h := rootE_c (z := z) (leaf := x) (i := 0) (n := 1) (p := []) fx (by decide)
  rw [show clD z x ([] : List (List Nat)).reverse 0 1 = some x by simp [clD]] at h
  exact h
end Go.Proofs.YtbljofojeagdkaaDoor
namespace Go.Proofs.YtbljofojeagdkaaDoor
open Go.RowKit Go.BigFrame
set_option linter.unusedVariables false
set_option linter.unusedSimpArgs false

/-- The digests of ranges. -/
def rgL (z : Int) (L : List (List Nat)) (ss : List (Nat × Nat)) : List (List Nat) := ss.map fun s => rgD z L s.1 s.2
/-- A list of digests in memory of its own. -/
structure OwD (w0 w : World) (v : Value) (ds : List (List Nat)) : Prop where
  own : w.ownsRow w0.heap.size 23 32 v ds.length (flatD ds)
  dg : ∀ d ∈ ds, Dg d
  kept : Kept [] w0 w
theorem OwD.rd {w0 w : World} {v : Value} {ds : List (List Nat)} (h : OwD w0 w v ds) : RdD w v ds := rdd_owns h.own h.dg
theorem OwD.pass {w0 w w' : World} {v : Value} {ds : List (List Nat)} (h : OwD w0 w v ds) (k : Kept [] w w') : OwD w0 w' v ds := ⟨k.owns h.own (by simp), h.dg, h.kept.trans k (by simp)⟩
theorem OwD.nil (w : World) : OwD w w (.slice none 0 0) [] := ⟨World.ownsRow_nil _ _ _ _, by simp, Kept.refl _ _⟩
theorem OwD.push {w0 w w1 : World} {v u : Value} {ds : List (List Nat)} {d : List Nat} (h : OwD w0 w v ds) (hd : Dg d) (o : w1.ownsRow w0.heap.size 23 32 u (ds ++ [d]).length (flatD (ds ++ [d]))) (g : w.grownBy w1 v.ownBlock) : OwD w0 w1 u (ds ++ [d]) := by
  refine ⟨o, ?_, h.kept.grown g (by intro k hk; right; exact (h.own.lt k hk).1)⟩
  intro x hx
  rcases List.mem_append.1 hx with hx | hx
  · exact h.dg x hx
  · rw [List.mem_singleton] at hx; subst hx; exact hd

theorem Tryd.size_span : (Tryd.prog.info? 101).map (·.size) = some 2 := by kernel_rfl
theorem SpAt.cells {w0 w : World} {ao : Option Addr} {n c : Nat} {ss : List (Nat × Nat)} (h : SpAt w0 w (.slice ao n c) ss) (i : Nat) (hi : i < ss.length) : ∃ g, ao = some ⟨g, 0, none⟩ ∧ w.rangeAt g (i * 2) [.int .u64 (ss[i].1 : Int), .int .u64 (ss[i].2 : Int)] := by
  obtain ⟨base, _, h⟩ := h
  rcases h.2 with ⟨e, h0⟩ | ⟨g, cap, cur, e, _⟩
  · omega
  · cases e
    refine ⟨g, rfl, ?_⟩
    have hx := cellsS_get ss i hi
    have c1 := h.cells (g := g) rfl (2 * i) _ hx.1
    have c2 := h.cells (g := g) rfl (2 * i + 1) _ hx.2
    rw [Addr.add_mid, Nat.zero_add] at c1 c2
    intro j v hv
    match j, hv with
    | 0, hv => simp at hv; subst hv; rw [show i * 2 + 0 = 2 * i by omega]; exact c1
    | 1, hv => simp at hv; subst hv; rw [show i * 2 + 1 = 2 * i + 1 by omega]; exact c2
    | j + 2, hv => simp at hv
theorem one_digP (l : List Nat) (hl : l.length = 32) : List.foldl (fun cs x => cs.setIfInBounds x.snd x.fst) (zb 32) (List.map u8 l).zipIdx = brow l := by
  have h := fold_put (l.map u8) (zb 32) 0 0 (by rw [zb_size]; simp [hl])
  simp only [Nat.zero_add] at h
  rw [h]
  unfold brow
  rw [List.take_zero, List.nil_append, List.drop_eq_nil_of_le (by rw [List.length_map, hl, Array.length_toList, zb_size]; exact Nat.le_refl _), List.append_nil]

set_option maxRecDepth 100000 in
set_option maxHeartbeats 400000 in
theorem digests_nil (n : Int) (lv : Value) (w : World) :
    Calls Tryd.prog 35 #[.pointer none, .int .u64 n, lv] w fun e w' => e = .returned (.tuple #[.slice none 0 0, .int .i64 5]) ∧ w' = w := by
  go_enter Tryd.func35, Tryd.ntmps35
  go_wp2_with fail
  exact ⟨rfl, _, results_tmp2 rfl _ _ _, rfl, rfl⟩

set_option maxRecDepth 100000 in
set_option maxHeartbeats 400000 in
theorem digests_bad (z : Int) (t : Nat) (v lv : Value) (ps : List Pk) (n : Nat) (w : World) (hT : TreeAt z w t v ps) (hn : (leavesK ps).length < n) :
    Calls Tryd.prog 35 #[.pointer (some ⟨t, 0, none⟩), .int .u64 n, lv] w fun e w' => e = .returned (.tuple #[.slice none 0 0, .int .i64 4]) ∧ Kept [] w w' := by
  have HS := hide (sizeT_any t z v ps w hT)
  have hn' : ((leavesK ps).length : Int) < n := by omega
  generalize (leavesK ps).length = m at HS hn'
  go_enter Tryd.func35, Tryd.ntmps35
  go_wp2_with fail
  refine (unhide HS).mono ?_
  rintro e w1 ⟨rfl, rfl⟩
  go_wp2_with fail
  exact ⟨rfl, _, results_tmp2 rfl _ _ _, rfl, Kept.refl _ _⟩

set_option maxRecDepth 100000 in
set_option maxHeartbeats 1000000 in
theorem digests_any (z : Int) (t : Nat) (v lv : Value) (ps : List Pk) (n : Nat) (ss : List (Nat × Nat)) (w0 w : World) (hT : TreeAt z w t v ps) (hn : n ≤ (leavesK ps).length) (hb : (leavesK ps).length < 32768) (hs : SpAt w0 w lv ss) (hl : ss.length ≤ 1000) (hTb : Tabs w) (h6 : Tab6 w) :
    Calls Tryd.prog 35 #[.pointer (some ⟨t, 0, none⟩), .int .u64 n, lv] w fun e w' => ∃ u, e = .returned (.tuple #[u, .int .i64 0]) ∧ OwD w w' u (rgL z (leavesK ps) ss) := by
  have HS := hide (sizeT_any t z v ps w hT)
  have hn' : ¬ ((leavesK ps).length : Int) < n := by omega
  have HTR := hide hT
  have HTB := hide hTb
  have H6 := hide h6
  have HSP := hide hs
  have HBN := hide hb
  have HDG := hide (fun a b => rgD_len hT.pk a b)
  obtain ⟨sa, sc, rfl⟩ := hs.form
  generalize (leavesK ps).length = m at HS hn'
  clear hT hTb h6 hs hn hb
  go_enter Tryd.func35, Tryd.ntmps35
  go_wp2_with fail
  refine (unhide HS).mono ?_
  rintro e w1 ⟨rfl, rfl⟩
  go_wp2_with fail
  simp only [show decide (m < n) = false from decide_eq_false (by omega)]
  go_loopw [8, 21] (fun t8 t21 wr => ∃ (i : Nat), i ≤ ss.length ∧ t21 = .int .i64 (i : Int) ∧ Hid (OwD w1 wr t8 (rgL z (leavesK ps) (ss.take i)))) (fun _ t _ => ss.length - (intOf t).toNat)
  case atStart => exact ⟨0, Nat.zero_le _, rfl, hide (OwD.nil _)⟩
  case round =>
    obtain ⟨i, hi, rfl, HO⟩ := hrel
    by_cases hlt : i < ss.length
    · have hlt' : (i : Int) < (ss.length : Int) := by omega
      obtain ⟨g, hsa, hcell⟩ := ((unhide HSP).old (unhide HO).kept).cells i hlt
      subst hsa
      have HSN := hide (by unfold rgL; rw [List.take_add_one, List.getElem?_eq_getElem hlt, List.map_append]; rfl : rgL z (leavesK ps) (ss.take (i + 1)) = rgL z (leavesK ps) (ss.take i) ++ [rgD z (leavesK ps) ss[i].1 ss[i].2])
      have HLN := hide (by unfold rgL; rw [List.length_map, List.length_take]; omega : (rgL z (leavesK ps) (ss.take i)).length + 1 ≤ 1000000)
      have HDG1 := hide (unhide HDG ss[i].1 ss[i].2)
      generalize ss[i].1 = lo at hcell HSN HDG1
      generalize ss[i].2 = hi' at hcell HSN HDG1
      have HRG := hide (fun W (k : Kept [] w1 W) => rangeT_all z t v ps lo hi' W ((unhide HTR).old k) (unhide HBN) ((unhide HTB).kept k (by simp) (by simp)) ((unhide H6).kept k))
      generalize rgD z (leavesK ps) lo hi' = D at HRG HSN HDG1
      generalize rgE (leavesK ps) lo hi' = E at HRG
      have hdl := (unhide HDG1).1
      generalize rgL z (leavesK ps) (ss.take i) = ds at HO HSN HLN
      obtain ⟨ua, ucap, rfl⟩ := owns_form (unhide HO).own
      have ia : ¬ (i : Int) < 0 := by omega
      have ib : ¬ (ss.length : Int) ≤ i := by omega
      have kA := (Kept.refl [] wr).alloc (.cells #[.int .u64 (lo : Int), .int .u64 (hi' : Int)] 101)
      have HOA := hide ((unhide HO).pass kA)
      have HRC := hide (unhide HRG _ (unhide HOA).kept)
      have HCL := hide hcell
      clear hcell kA HRG
      go_wp2_with (first
        | (refine wpList_load_mid rfl 101 _ rfl g (i * 2) rfl [.int .u64 (lo : Int), .int .u64 (hi' : Int)] _ (unhide HCL) Tryd.underlying101 rfl (by exact Tryd.size_span) ?_))
      refine (unhide HRC).mono ?_
      rintro e wa ⟨rfl, ka⟩
      have HOB := hide (((unhide HOA).pass ka).pass (kept_old wa D))
      have HN := hide (cell_new wa D)
      clear ka HRC HOA HO HCL
      obtain ⟨wb, hwb⟩ : ∃ wb, (wa.alloc (.cells (zb 32) 23)).setRow wa.heap.size (brow D) = wb := ⟨_, rfl⟩
      rw [hwb] at HOB HN
      have HWB := hide hwb
      have HOC := hide ((unhide HOB).pass ((Kept.refl [] wb).alloc (.cells (brow D) 23)))
      have HNC := hide (heap_alloc_new wb (.cells (brow D) 23))
      clear hwb
      go_wp2_with (first
        | (rw [zb32]; refine wpList_store_row rfl 23 (.tmp 11) _ rfl wa.heap.size (brow D) rfl rfl _ (zb 32) (heap_alloc_new _ _) (Tryd.szD hdl) (by rw [zb_size, brow_size, hdl]) (brow_one _) ?_; rw [unhide HWB])
        | (refine wpList_load_mid rfl 23 _ rfl wa.heap.size 0 rfl (D.map u8) _ (range_row (unhide HN)) Tryd.underlying23 rfl (by rw [List.length_map, hdl]; exact Tryd.size_dig) ?_)
        | (at_builtin; rw [zb32, one_digP D hdl]; refine wpList_appendD rfl _ _ rfl rfl (wb.alloc (.cells (brow D) 23)) w1.heap.size (.slice ua ds.length ucap) ds [D] (some ⟨wb.heap.size, 0, none⟩) 1 1 (unhide HOC).own (RdD.oneP (unhide HNC) (unhide HDG1)) (by have := unhide HLN; simp; omega) (unhide HOC).kept.size rfl rfl ?_; intro ao3 cap3 w3 HO3 HG3; have HO4 := hide ((unhide HOC).push (unhide HDG1) (unhide HO3) (unhide HG3)); clear HO3 HG3))
      go_roundw
      case rel => exact ⟨i + 1, by omega, by simp, by rw [unhide HSN]; exact HO4⟩
      case measure => simp [intOf]; omega
    · have hlt' : ¬ (i : Int) < (ss.length : Int) := by omega
      have HE := hide (by rw [List.take_of_length_le (by omega)] : ss.take i = ss)
      go_wp2_with fail
      exact ⟨rfl, _, results_tmp2 rfl _ _ _, _, rfl, by have h9 := unhide HO; rw [unhide HE] at h9; exact h9⟩
end Go.Proofs.YtbljofojeagdkaaDoor
namespace Go.Proofs.YtbljofojeagdkaaDoor
open Go.RowKit Go.BigFrame
set_option linter.unusedVariables false
set_option linter.unusedSimpArgs false

theorem OwD.back {w0 w w' : World} {v : Value} {ds : List (List Nat)} (h : OwD w w' v ds) (k : Kept [] w0 w) : OwD w0 w' v ds := by
  refine ⟨⟨h.own.1, ?_⟩, h.dg, k.trans h.kept (by simp)⟩
  rcases h.own.2 with h1 | ⟨g, cap, cur, h1, h2, h3⟩
  · exact Or.inl h1
  · exact Or.inr ⟨g, cap, cur, h1, Nat.le_trans k.size h2, h3⟩
theorem OwD.form {w0 w : World} {v : Value} {ds : List (List Nat)} (h : OwD w0 w v ds) : ∃ ao cap, v = .slice ao ds.length cap := owns_form h.own
theorem OwD.zero {w0 w : World} (k : Kept [] w0 w) : OwD w0 w (.slice none 0 0) [] := (OwD.nil w).back k

/-- What Inclusion answers. -/
def inE (L : List (List Nat)) (i n : Nat) : Int := if n ≤ i ∨ L.length < n then 4 else 0
def inD (z : Int) (L : List (List Nat)) (i n : Nat) : List (List Nat) := if n ≤ i ∨ L.length < n then [] else rgL z L (pathF i 64 0 n)

set_option maxRecDepth 100000 in
set_option maxHeartbeats 400000 in
theorem mincl_any (z : Int) (t : Nat) (v : Value) (ps : List Pk) (i n : Nat) (w : World) (hT : TreeAt z w t v ps) (hb : (leavesK ps).length < 32768) (hTb : Tabs w) (h6 : Tab6 w) (hn64 : n < 18446744073709551616) :
    Calls Tryd.prog 18 #[.pointer (some ⟨t, 0, none⟩), .int .u64 i, .int .u64 n] w fun e w' => ∃ u, e = .returned (.tuple #[u, .int .i64 (inE (leavesK ps) i n)]) ∧ OwD w w' u (inD z (leavesK ps) i n) := by
  unfold inE inD
  by_cases h1 : n ≤ i
  · have h1' : (n : Int) ≤ (i : Int) := by omega
    rw [if_pos (Or.inl h1), if_pos (Or.inl h1)]
    go_enter Tryd.func18, Tryd.ntmps18
    go_wp2_with fail
    exact ⟨rfl, _, results_tmp2 rfl _ _ _, _, rfl, OwD.nil _⟩
  · have h1' : ¬ (n : Int) ≤ (i : Int) := by omega
    have HPA := hide (path_any i n w (by omega) hn64)
    have hpl := pathF_len i 64 0 n
    by_cases h2 : (leavesK ps).length < n
    · rw [if_pos (Or.inr h2), if_pos (Or.inr h2)]
      have HDB := hide (fun lv W (k : Kept [] w W) => digests_bad z t v lv ps n W (hT.old k) h2)
      clear hT h2
      go_enter Tryd.func18, Tryd.ntmps18
      go_wp2_with fail
      refine (unhide HPA).mono ?_
      rintro e w1 ⟨v1, rfl, s1, k1⟩
      have HK1 := hide k1
      clear s1 k1
      go_wp2_with fail
      refine (unhide HDB v1 w1 (unhide HK1)).mono ?_
      rintro e w2 ⟨rfl, k2⟩
      have HK2 := hide ((unhide HK1).trans k2 (by simp))
      clear k2
      go_wp2_with fail
      exact ⟨rfl, _, results_tmp2 rfl _ _ _, _, rfl, OwD.zero (unhide HK2)⟩
    · rw [if_neg (by omega), if_neg (by omega)]
      have HDB := hide (fun lv w0 W (k : Kept [] w W) (hs : SpAt w0 W lv (pathF i 64 0 n)) => digests_any z t v lv ps n _ w0 W (hT.old k) (by omega) hb hs (by omega) (hTb.kept k (by simp) (by simp)) (h6.kept k))
      clear hT h2 hb hTb h6
      generalize pathF i 64 0 n = ss at HPA HDB hpl ⊢
      generalize rgL z (leavesK ps) ss = ds at HDB ⊢
      go_enter Tryd.func18, Tryd.ntmps18
      go_wp2_with fail
      refine (unhide HPA).mono ?_
      rintro e w1 ⟨v1, rfl, s1, k1⟩
      have HK1 := hide k1
      have HS1 := hide s1
      clear s1 k1
      go_wp2_with fail
      refine (unhide HDB v1 w w1 (unhide HK1) (unhide HS1)).mono ?_
      rintro e w2 ⟨u, rfl, o2⟩
      have HO2 := hide (o2.back (unhide HK1))
      clear o2
      go_wp2_with fail
      exact ⟨rfl, _, results_tmp2 rfl _ _ _, u, rfl, unhide HO2⟩

/-- What Consistency answers. -/
def csE (L : List (List Nat)) (m n : Nat) : Int := if n < m ∨ L.length < n then 4 else 0
def csD (z : Int) (L : List (List Nat)) (m n : Nat) : List (List Nat) := if n < m ∨ L.length < n then [] else rgL z L (smL m n)
theorem smL_le (m n : Nat) : (smL m n).length ≤ 65 := by
  unfold smL
  have := seamF_len m 64 0 n true
  split
  · simp
  · omega

set_option maxRecDepth 100000 in
set_option maxHeartbeats 400000 in
theorem mcons_any (z : Int) (t : Nat) (v : Value) (ps : List Pk) (i n : Nat) (w : World) (hT : TreeAt z w t v ps) (hb : (leavesK ps).length < 32768) (hTb : Tabs w) (h6 : Tab6 w) (hn64 : n < 18446744073709551616) :
    Calls Tryd.prog 20 #[.pointer (some ⟨t, 0, none⟩), .int .u64 i, .int .u64 n] w fun e w' => ∃ u, e = .returned (.tuple #[u, .int .i64 (csE (leavesK ps) i n)]) ∧ OwD w w' u (csD z (leavesK ps) i n) := by
  unfold csE csD
  by_cases h1 : n < i
  · have h1' : (n : Int) < (i : Int) := by omega
    rw [if_pos (Or.inl h1), if_pos (Or.inl h1)]
    go_enter Tryd.func20, Tryd.ntmps20
    go_wp2_with fail
    exact ⟨rfl, _, results_tmp2 rfl _ _ _, _, rfl, OwD.nil _⟩
  · have h1' : ¬ (n : Int) < (i : Int) := by omega
    have HPA := hide (seam_any i n w (by omega) hn64)
    have hpl := smL_le i n
    by_cases h2 : (leavesK ps).length < n
    · rw [if_pos (Or.inr h2), if_pos (Or.inr h2)]
      have HDB := hide (fun lv W (k : Kept [] w W) => digests_bad z t v lv ps n W (hT.old k) h2)
      clear hT h2
      go_enter Tryd.func20, Tryd.ntmps20
      go_wp2_with fail
      refine (unhide HPA).mono ?_
      rintro e w1 ⟨v1, rfl, s1, k1⟩
      have HK1 := hide k1
      clear s1 k1
      go_wp2_with fail
      refine (unhide HDB v1 w1 (unhide HK1)).mono ?_
      rintro e w2 ⟨rfl, k2⟩
      have HK2 := hide ((unhide HK1).trans k2 (by simp))
      clear k2
      go_wp2_with fail
      exact ⟨rfl, _, results_tmp2 rfl _ _ _, _, rfl, OwD.zero (unhide HK2)⟩
    · rw [if_neg (by omega), if_neg (by omega)]
      have HDB := hide (fun lv w0 W (k : Kept [] w W) (hs : SpAt w0 W lv (smL i n)) => digests_any z t v lv ps n _ w0 W (hT.old k) (by omega) hb hs (by omega) (hTb.kept k (by simp) (by simp)) (h6.kept k))
      clear hT h2 hb hTb h6
      generalize smL i n = ss at HPA HDB hpl ⊢
      generalize rgL z (leavesK ps) ss = ds at HDB ⊢
      go_enter Tryd.func20, Tryd.ntmps20
      go_wp2_with fail
      refine (unhide HPA).mono ?_
      rintro e w1 ⟨v1, rfl, s1, k1⟩
      have HK1 := hide k1
      have HS1 := hide s1
      clear s1 k1
      go_wp2_with fail
      refine (unhide HDB v1 w w1 (unhide HK1) (unhide HS1)).mono ?_
      rintro e w2 ⟨u, rfl, o2⟩
      have HO2 := hide (o2.back (unhide HK1))
      clear o2
      go_wp2_with fail
      exact ⟨rfl, _, results_tmp2 rfl _ _ _, u, rfl, unhide HO2⟩
end Go.Proofs.YtbljofojeagdkaaDoor
namespace Go.Proofs.YtbljofojeagdkaaDoor
open Go.RowKit Go.BigFrame
set_option linter.unusedVariables false
set_option linter.unusedSimpArgs false

/-- Leaves of a width. -/
structure LvO (z : Int) (L : List (List Nat)) : Prop where
  wid : widthB z = true
  dg : ∀ d ∈ L, Dg d
  fm : ∀ d ∈ L, formB z d = true
theorem LvO.rng {z : Int} {L : List (List Nat)} (h : LvO z L) (a b : Nat) : Dg (rngD z (noT z) L a b) ∧ formB z (rngD z (noT z) L a b) = true :=
  ⟨log_dg _ _ _ (noT_dg _) (fun d hd => h.dg d (List.mem_of_mem_drop (List.mem_of_mem_take hd))), log_form _ _ _ h.wid (noT_form h.wid) (fun d hd => h.fm d (List.mem_of_mem_drop (List.mem_of_mem_take hd)))⟩
theorem LvO.rg {z : Int} {L : List (List Nat)} (h : LvO z L) {a b : Nat} (h1 : a ≤ b) (h2 : b ≤ L.length) : rgD z L a b = rngD z (noT z) L a b := if_neg (by omega)
theorem LvO.getD {z : Int} {L : List (List Nat)} (h : LvO z L) {i : Nat} (hi : i < L.length) : Dg (L.getD i []) ∧ formB z (L.getD i []) = true := by
  have hm : L.getD i [] ∈ L := by rw [List.getD_eq_getElem?_getD, List.getElem?_eq_getElem hi]; exact List.getElem_mem hi
  exact ⟨h.dg _ hm, h.fm _ hm⟩
theorem LvO.path {z : Int} {L : List (List Nat)} (h : LvO z L) {ss : List (Nat × Nat)} {n : Nat} (hn : n ≤ L.length) (hs : ∀ s ∈ ss, s.1 < s.2 ∧ s.2 ≤ n) : rgL z L ss = (ss.map fun s => rngD z (noT z) L s.1 s.2) ∧ ∀ d ∈ rgL z L ss, Dg d ∧ formB z d = true := by
  have e : rgL z L ss = (ss.map fun s => rngD z (noT z) L s.1 s.2) := rgL_rng (fun s hs' => by have := hs s hs'; omega)
  refine ⟨e, ?_⟩
  intro d hd
  rw [e] at hd
  obtain ⟨s, _, rfl⟩ := List.mem_map.1 hd
  exact h.rng s.1 s.2
theorem path_ok {i n : Nat} : ∀ s ∈ pathF i 64 0 n, s.1 < s.2 ∧ s.2 ≤ n := fun s hs => by have := pathF_in i 64 0 n s hs; omega
theorem smL_ok {m n : Nat} (hm : m ≤ n) (hn : n < 18446744073709551616) : ∀ s ∈ smL m n, s.1 < s.2 ∧ s.2 ≤ n := by
  intro s hs
  unfold smL at hs
  split at hs
  · simp at hs
  · have := seamF_in m 64 0 n true (by omega) hm (by omega) s hs
    omega
theorem honest_root {z : Int} {L : List (List Nat)} (h : LvO z L) {i n : Nat} (hi : i < n) (hn : n ≤ L.length) (h64 : n < 18446744073709551616) :
    rootE z (L.getD i []) i n (rgL z L (pathF i 64 0 n)) = 0 ∧ rootD z (L.getD i []) i n (rgL z L (pathF i 64 0 n)) = rgD z L 0 n := by
  have hp := h.path hn (path_ok (i := i))
  have hf : formedE z (L.getD i [] :: rgL z L (pathF i 64 0 n)) = 0 := formedE_ok h.wid (by
    intro d hd
    rcases List.mem_cons.1 hd with rfl | hd
    · exact (h.getD (by omega)).2
    · exact (hp.2 d hd).2)
  have hc := rootE_c hf (show ¬ n ≤ i by omega)
  have hv := cl_val z (noT z) L i 64 0 n (by omega) hi hn (by omega)
  rw [← hp.1, Nat.sub_zero, Nat.sub_zero] at hv
  rw [hc.1, hc.2, hv, h.rg (by omega) hn]
  exact ⟨rfl, rfl⟩
theorem honest_inc {z : Int} {L : List (List Nat)} (h : LvO z L) {i n : Nat} (hi : i < n) (hn : n ≤ L.length) (h64 : n < 18446744073709551616) :
    incE z (L.getD i []) i n (rgL z L (pathF i 64 0 n)) (rgD z L 0 n) = 0 := by
  have hp := h.path hn (path_ok (i := i))
  have hr := honest_root h hi hn h64
  rw [inc_root h.wid (h.getD (by omega)).2 (by rw [h.rg (by omega) hn]; exact (h.rng 0 n).2) (fun d hd => (hp.2 d hd).2) hr.1, if_pos hr.2]
theorem honest_other {z : Int} {L : List (List Nat)} (h : LvO z L) {x : List Nat} (hx : formB z x = true) {i n : Nat} (hi : i < n) (hn : n ≤ L.length) (h64 : n < 18446744073709551616) :
    rootE z x i n (rgL z L (pathF i 64 0 n)) = 0 ∧ incE z x i n (rgL z L (pathF i 64 0 n)) (rgD z L 0 n) = if rootD z x i n (rgL z L (pathF i 64 0 n)) = rgD z L 0 n then 0 else 10 := by
  have hp := h.path hn (path_ok (i := i))
  have hf : formedE z (x :: rgL z L (pathF i 64 0 n)) = 0 := formedE_ok h.wid (by
    intro d hd
    rcases List.mem_cons.1 hd with rfl | hd
    · exact hx
    · exact (hp.2 d hd).2)
  have he : rootE z x i n (rgL z L (pathF i 64 0 n)) = 0 := by
    rw [rootE_len hf hi h64, if_pos (by unfold rgL; rw [List.length_map])]
  exact ⟨he, inc_root h.wid hx (by rw [h.rg (by omega) hn]; exact (h.rng 0 n).2) (fun d hd => (hp.2 d hd).2) he⟩
theorem honest_con {z : Int} {L : List (List Nat)} (h : LvO z L) {m n : Nat} (hm : m ≤ n) (hn : n ≤ L.length) (h64 : n < 18446744073709551616) :
    conE z m n (rgD z L 0 m) (rgD z L 0 n) (rgL z L (smL m n)) = 0 := by
  have hp := h.path hn (smL_ok hm h64)
  have f0 : formB z (rgD z L 0 m) = true := by rw [h.rg (by omega) (by omega)]; exact (h.rng 0 m).2
  have f1 : formB z (rgD z L 0 n) = true := by rw [h.rg (by omega) hn]; exact (h.rng 0 n).2
  have hf : formedE z (rgD z L 0 m :: rgD z L 0 n :: rgL z L (smL m n)) = 0 := formedE_ok h.wid (by
    intro d hd
    rcases List.mem_cons.1 hd with rfl | hd
    · exact f0
    · rcases List.mem_cons.1 hd with rfl | hd
      · exact f1
      · exact (hp.2 d hd).2)
  unfold conE
  rw [if_neg (by rw [hf]; simp), if_neg (by omega)]
  by_cases e1 : m = n
  · rw [if_pos e1, if_pos ⟨by rw [e1]; unfold smL; rw [if_pos (Or.inr rfl)]; rfl, by rw [e1]⟩]
  · rw [if_neg e1]
    by_cases e0 : m = 0
    · rw [if_pos e0, if_pos ⟨by rw [e0]; unfold smL; rw [if_pos (Or.inl rfl)]; rfl, by rw [e0, h.rg (Nat.le_refl _) (Nat.zero_le _), rngD_self]; rfl⟩]
    · rw [if_neg e0]
      have hf2 : formedE z (rgD z L 0 m :: rgL z L (smL m n)) = 0 := formedE_ok h.wid (by
        intro d hd
        rcases List.mem_cons.1 hd with rfl | hd
        · exact f0
        · exact (hp.2 d hd).2)
      have hs : smL m n = seamF m 64 0 n true := by unfold smL; rw [if_neg (by omega)]
      have hv := tw_val z (noT z) (rgD z L 0 m) L m 64 0 n true (by omega) hm hn (by omega) (fun _ => h.rg (by omega) (by omega))
      rw [← hs, ← hp.1, Nat.sub_zero, Nat.sub_zero] at hv
      have hE : rootsE z (rgD z L 0 m) m n (rgL z L (smL m n)) = 0 := by
        unfold rootsE twO
        rw [if_neg (by omega), if_neg (by omega), hv]
        rfl
      have hD : rootsD z (rgD z L 0 m) m n (rgL z L (smL m n)) = (rngD z (noT z) L 0 m, rngD z (noT z) L 0 n) := by
        unfold rootsD twO
        rw [if_pos hE, hv]
        rfl
      rw [if_neg (by rw [hE]; simp), if_pos (by rw [hD]; exact ⟨(h.rg (by omega) (by omega)).symm, (h.rg (by omega) hn).symm⟩)]
theorem honest_same {z : Int} {L : List (List Nat)} (h : LvO z L) {n : Nat} (hn : n ≤ L.length) : conE z n n (rgD z L 0 n) (rgD z L 0 n) [] = 0 := by
  have f1 : formB z (rgD z L 0 n) = true := by rw [h.rg (by omega) hn]; exact (h.rng 0 n).2
  have hf : formedE z [rgD z L 0 n, rgD z L 0 n] = 0 := formedE_ok h.wid (by intro d hd; simp at hd; subst hd; exact f1)
  unfold conE
  rw [if_neg (by rw [hf]; simp), if_neg (by omega), if_pos rfl, if_pos ⟨rfl, rfl⟩]
end Go.Proofs.YtbljofojeagdkaaDoor
namespace Go.Proofs.YtbljofojeagdkaaDoor
open Go.RowKit Go.BigFrame
set_option linter.unusedVariables false
set_option linter.unusedSimpArgs false

theorem zD_form {z : Int} (hw : widthB z = true) : formB z zD = true := by
  have hz : 1 ≤ z ∧ z ≤ 32 := by simpa [widthB] using hw
  obtain ⟨k, rfl⟩ : ∃ k : Nat, z = (k : Int) := ⟨z.toNat, by omega⟩
  unfold formB
  rw [hw, Bool.true_and, decide_eq_true_iff]
  unfold cutL zD
  rw [Int.toNat_natCast, List.take_replicate, List.replicate_append_replicate]
  congr 1
  omega
theorem rgL_length (z : Int) (L : List (List Nat)) (ss : List (Nat × Nat)) : (rgL z L ss).length = ss.length := by unfold rgL; rw [List.length_map]
/-- Inclusion, of a proof of another length. -/
theorem inc_badlen {z : Int} {x r : List Nat} {i n : Nat} {p : List (List Nat)} (hw : widthB z = true) (hx : formB z x = true) (hr : formB z r = true) (hp : ∀ d ∈ p, formB z d = true) (hi : i < n) (hn : n < 18446744073709551616) (hl : p.length ≠ (pathF i 64 0 n).length) : incE z x i n p r = 10 := by
  have hf : formedE z (x :: p) = 0 := formedE_ok hw (by
    intro d hd
    rcases List.mem_cons.1 hd with rfl | hd
    · exact hx
    · exact hp d hd)
  have hf2 : formedE z (x :: r :: p) = 0 := formedE_ok hw (by
    intro d hd
    rcases List.mem_cons.1 hd with rfl | hd
    · exact hx
    · rcases List.mem_cons.1 hd with rfl | hd
      · exact hr
      · exact hp d hd)
  have he := rootE_len hf hi hn
  rw [if_neg hl] at he
  unfold incE
  rw [if_neg (by rw [hf2]; simp), if_pos (by rw [he]; simp), he]
theorem inc_range {z : Int} {x r : List Nat} {n : Nat} {p : List (List Nat)} (hw : widthB z = true) (hx : formB z x = true) (hr : formB z r = true) (hp : ∀ d ∈ p, formB z d = true) : incE z x n n p r = 4 := by
  have hf : formedE z (x :: p) = 0 := formedE_ok hw (by
    intro d hd
    rcases List.mem_cons.1 hd with rfl | hd
    · exact hx
    · exact hp d hd)
  have hf2 : formedE z (x :: r :: p) = 0 := formedE_ok hw (by
    intro d hd
    rcases List.mem_cons.1 hd with rfl | hd
    · exact hx
    · rcases List.mem_cons.1 hd with rfl | hd
      · exact hr
      · exact hp d hd)
  have he : rootE z x n n p = 4 := by
    unfold rootE
    rw [if_neg (by rw [hf]; simp), if_pos (Nat.le_refl _)]
  unfold incE
  rw [if_neg (by rw [hf2]; simp), if_pos (by rw [he]; simp), he]
/-- All that Inclusion says of a leaf's own proof. -/
structure WIh (z : Int) (X R : List Nat) (P : List (List Nat)) (i n : Nat) : Prop where
  re : rootE z X i n P = 0
  rd : rootD z X i n P = R
  ok : incE z X i n P R = 0
  long : incE z X i n (P ++ [zD]) R = 10
  short : 0 < P.length → incE z X i n (P.take (P.length - 1)) R = 10
  rng : incE z X n n P R = 4
  dx : Dg X
  dr : Dg R
theorem wih_of {z : Int} {L : List (List Nat)} (h : LvO z L) {i n : Nat} (hi : i < n) (hn : n ≤ L.length) (h64 : n < 18446744073709551616) : WIh z (L.getD i []) (rgD z L 0 n) (rgL z L (pathF i 64 0 n)) i n := by
  have hp := h.path hn (path_ok (i := i))
  have hr := honest_root h hi hn h64
  have hx := h.getD (i := i) (by omega)
  have hR : Dg (rgD z L 0 n) ∧ formB z (rgD z L 0 n) = true := by rw [h.rg (by omega) hn]; exact h.rng 0 n
  have hl := rgL_length z L (pathF i 64 0 n)
  refine ⟨hr.1, hr.2, honest_inc h hi hn h64, ?_, ?_, inc_range h.wid hx.2 hR.2 (fun d hd => (hp.2 d hd).2), hx.1, hR.1⟩
  · refine inc_badlen h.wid hx.2 hR.2 ?_ hi h64 (by rw [List.length_append, hl]; simp)
    intro d hd
    rcases List.mem_append.1 hd with hd | hd
    · exact (hp.2 d hd).2
    · rw [List.mem_singleton.1 hd]; exact zD_form h.wid
  · intro h0
    refine inc_badlen h.wid hx.2 hR.2 (fun d hd => (hp.2 d (List.mem_of_mem_take hd)).2) hi h64 (by rw [List.length_take, ← hl]; omega)
/-- All that Consistency says of an older root's own proof. -/
structure WIc (z : Int) (R0 R : List Nat) (Q : List (List Nat)) (m n : Nat) : Prop where
  ok : conE z m n R0 R Q = 0
  nil : (m = 0 ∨ m = n) → Q = []
  re : ¬ (m = 0 ∨ m = n) → rootsE z R0 m n Q = 0 ∧ rootsD z R0 m n Q = (R0, R)
  more : ¬ (m = 0 ∨ m = n) → conE z m n R0 R (Q ++ [zD]) = 10
  dr : Dg R0
theorem wic_of {z : Int} {L : List (List Nat)} (h : LvO z L) {m n : Nat} (hm : m ≤ n) (hn : n ≤ L.length) (h64 : n < 18446744073709551616) : WIc z (rgD z L 0 m) (rgD z L 0 n) (rgL z L (smL m n)) m n := by
  have hp := h.path hn (smL_ok hm h64)
  have hR0 : Dg (rgD z L 0 m) ∧ formB z (rgD z L 0 m) = true := by rw [h.rg (by omega) (by omega)]; exact h.rng 0 m
  have hR : Dg (rgD z L 0 n) ∧ formB z (rgD z L 0 n) = true := by rw [h.rg (by omega) hn]; exact h.rng 0 n
  have hl := rgL_length z L (smL m n)
  refine ⟨honest_con h hm hn h64, fun e => ?_, fun e => ?_, fun e => ?_, hR0.1⟩
  · unfold smL rgL
    rw [if_pos e]
    rfl
  · have hs : smL m n = seamF m 64 0 n true := by unfold smL; rw [if_neg e]
    have hf2 : formedE z (rgD z L 0 m :: rgL z L (smL m n)) = 0 := formedE_ok h.wid (by
      intro d hd
      rcases List.mem_cons.1 hd with rfl | hd
      · exact hR0.2
      · exact (hp.2 d hd).2)
    have hv := tw_val z (noT z) (rgD z L 0 m) L m 64 0 n true (by omega) hm hn (by omega) (fun _ => h.rg (by omega) (by omega))
    rw [← hs, ← hp.1, Nat.sub_zero, Nat.sub_zero] at hv
    have hE : rootsE z (rgD z L 0 m) m n (rgL z L (smL m n)) = 0 := by
      unfold rootsE twO
      rw [if_neg (by omega), if_neg (by omega), hv]
      rfl
    refine ⟨hE, ?_⟩
    unfold rootsD twO
    rw [if_pos hE, hv, h.rg (a := 0) (b := m) (by omega) (by omega), h.rg (a := 0) (b := n) (by omega) hn]
    rfl
  · have hq : ∀ d ∈ rgL z L (smL m n) ++ [zD], formB z d = true := by
      intro d hd
      rcases List.mem_append.1 hd with hd | hd
      · exact (hp.2 d hd).2
      · rw [List.mem_singleton.1 hd]; exact zD_form h.wid
    have hf2 : formedE z (rgD z L 0 m :: (rgL z L (smL m n) ++ [zD])) = 0 := formedE_ok h.wid (by
      intro d hd
      rcases List.mem_cons.1 hd with rfl | hd
      · exact hR0.2
      · exact hq d hd)
    have hf : formedE z (rgD z L 0 m :: rgD z L 0 n :: (rgL z L (smL m n) ++ [zD])) = 0 := formedE_ok h.wid (by
      intro d hd
      rcases List.mem_cons.1 hd with rfl | hd
      · exact hR0.2
      · rcases List.mem_cons.1 hd with rfl | hd
        · exact hR.2
        · exact hq d hd)
    have he := rootsE_len (m := m) (n := n) hf2 (by omega) (by omega) h64
    rw [if_neg (by rw [List.length_append, hl]; simp)] at he
    unfold conE
    rw [if_neg (by rw [hf]; simp), if_neg (by omega), if_neg (by omega), if_neg (by omega), if_pos (by rw [he]; simp), he]
end Go.Proofs.YtbljofojeagdkaaDoor
namespace Go.Proofs.YtbljofojeagdkaaDoor
open Go.RowKit Go.BigFrame
set_option linter.unusedVariables false
set_option linter.unusedSimpArgs false

set_option maxRecDepth 100000 in
set_option maxHeartbeats 4000000 in
theorem push_any (z : Int) (t N base : Nat) (v : Value) (ps : List Pk) (leaf : List Nat) (w : World) (hrow : w.heap[t]? = some (.cells #[.int .i64 z, .int .u64 (N : Int), v] 83 (0, 0))) (hown0 : w.ownsRow base 87 33 v ps.length (cellsK ps)) (hpk : PKs z w ps) (hNl : N = (leavesK ps).length) (hN : N ≤ 1000000000) (hbw : base ≤ w.heap.size) (hw : widthB z = true) (hfar : Far t v) (hl : Dg leaf) (hf : formB z leaf = true) (hT : Tabs w) (h6 : Tab6 w) :
    Calls Tryd.prog 42 #[.pointer (some ⟨t, 0, none⟩), .agg (brow leaf)] w fun e w' => e = .returned (.tuple #[]) ∧ PushD z t N base v ps leaf w w' := by
  have hnp : ps.length ≤ N := by have := len_le_sum (ps.reverse.map (·.h)); rw [hNl, leavesK_len hpk.ok]; simpa using this
  obtain ⟨n, hn0⟩ : ∃ n, ps.length = n := ⟨_, rfl⟩
  obtain ⟨xs, hxs0⟩ : ∃ xs, cellsK ps = xs := ⟨_, rfl⟩
  have hown : w.ownsRow base 87 33 v n xs := by rw [← hn0, ← hxs0]; exact hown0
  have hn : n ≤ 1000000000 := by omega
  have HV0 := hide (by
    intro b hb
    rcases hown.2 with ⟨h9, _⟩ | ⟨g, cap, cur, h1, h2, h3, _⟩
    · rw [h9] at hb; simp [Value.ownBlock] at hb
    · rw [h1] at hb; simp [Value.ownBlock] at hb; subst hb; exact ⟨_, _, h3⟩ : ∀ b, v.ownBlock = some b → ∃ cs m, w.heap[b]? = some (.cells cs 87 m))
  have hvb : ∀ b, v.ownBlock = some b → b < w.heap.size ∧ ¬ b = t := fun b hb => ⟨(hown.lt b hb).2, fun e => by
    obtain ⟨cs, m, h9⟩ := unhide HV0 b hb
    rw [e, hrow] at h9; simp at h9⟩
  have HT0 := hide (⟨_, _, hrow⟩ : ∃ cs m, w.heap[t]? = some (.cells cs 83 m))
  have HST := hide (fun (wr : World) g1 cap1 => PuRel.start (t := t) (v := v) (wr := wr) (g1 := g1) (cap1 := cap1) (base := base) hpk hNl hl hf)
  rw [hn0, hxs0] at HST
  have HTw := hide (fun (W : World) (k : Kept (t :: v.ownBlock.toList) w W) => hfar.tabs hT k)
  have H6w := hide (fun (W : World) (k : Kept (t :: v.ownBlock.toList) w W) => hfar.tab6 h6 k)
  clear hnp hn0 hxs0 hown0 hpk hNl hf hT h6 hfar
  have kX := (Kept.refl [] w).alloc (.cells (brow leaf) 23)
  have HGX := hide (heap_alloc_new w (.cells (brow leaf) 23))
  have HRX := hide (kX.heap hrow (by simp))
  have HOX := hide (kX.owns hown (by simp))
  have hXs : (w.alloc (.cells (brow leaf) 23)).heap.size = w.heap.size + 1 := by simp
  go_enter Tryd.func42, Tryd.ntmps42
  go_wp2_with fail
  obtain ⟨X, hX⟩ : ∃ X, w.alloc (.cells (brow leaf) 23) = X := ⟨_, rfl⟩
  rw [hX] at HGX HRX HOX hXs kX ⊢
  have HKX := hide kX
  clear hX kX
  have cq : X.cell? ⟨t, 2, none⟩ = some v := cell_of_row _ _ 2 _ _ _ (unhide HRX)
  have hlb : (brow leaf).size = 32 := by rw [brow_size, hl.1]
  refine wp_pu12 (by kernel_rfl) (by kernel_rfl) (by kernel_rfl) (by kernel_rfl) (by kernel_rfl) (by kernel_rfl) (by kernel_rfl) (by kernel_rfl) (by kernel_rfl) (by kernel_rfl) (by kernel_rfl) (by kernel_rfl) (by kernel_rfl) (by kernel_rfl) (by kernel_rfl) (by kernel_rfl) (by kernel_rfl) (by kernel_rfl) (by kernel_rfl) (by kernel_rfl) (by kernel_rfl) (by kernel_rfl) (by kernel_rfl) (by kernel_rfl) rfl (by kernel_rfl) rfl (by kernel_rfl) rfl (by kernel_rfl) rfl (by kernel_rfl) rfl (by kernel_rfl)
    (.pointer (some ⟨t, 0, none⟩)) (.pointer (some ⟨t, 0, none⟩)) (.pointer (some ⟨t, 0, none⟩)) (.pointer (some ⟨t, 2, none⟩)) v (.agg (brow leaf)) (.agg (partC leaf (.pointer none)).toArray) _ _ _ _ _ _ _
    (fun w' => Kept v.ownBlock.toList X w')
    (fun w' => Kept [] X w')
    (fun u0 w' => (∃ H, u0 = .slice (some ⟨H, 0, none⟩) 1 1 ∧ w'.heap[H]? = some (.cells (partC leaf (.pointer none)).toArray 87 (0, 0))) ∧ Kept [] X w')
    (fun u0 u1 w' => (∃ g cap, u1 = .slice (some ⟨g, 0, none⟩) (n + 1) cap ∧ w'.ownsRow base 87 33 (.slice (some ⟨g, 0, none⟩) (n + 1) cap) (n + 1) (xs ++ partC leaf (.pointer none)) ∧ (v.ownBlock = some g ∨ w.heap.size ≤ g)) ∧ Kept v.ownBlock.toList X w')
    (fun u0 u1 u2 w' => u2 = .pointer (some ⟨t, 0, none⟩) ∧ (∃ g cap, u1 = .slice (some ⟨g, 0, none⟩) (n + 1) cap ∧ w'.ownsRow base 87 33 (.slice (some ⟨g, 0, none⟩) (n + 1) cap) (n + 1) (xs ++ partC leaf (.pointer none)) ∧ (v.ownBlock = some g ∨ w.heap.size ≤ g)) ∧ Kept v.ownBlock.toList X w')
    (fun u0 u1 u2 u3 w' => u3 = .pointer (some ⟨t, 2, none⟩) ∧ u2 = .pointer (some ⟨t, 0, none⟩) ∧ (∃ g cap, u1 = .slice (some ⟨g, 0, none⟩) (n + 1) cap ∧ w'.ownsRow base 87 33 (.slice (some ⟨g, 0, none⟩) (n + 1) cap) (n + 1) (xs ++ partC leaf (.pointer none)) ∧ (v.ownBlock = some g ∨ w.heap.size ≤ g)) ∧ Kept v.ownBlock.toList X w')
    (fun u0 u1 u2 u3 w' => (∃ g cap, u1 = .slice (some ⟨g, 0, none⟩) (n + 1) cap ∧ w'.ownsRow base 87 33 (.slice (some ⟨g, 0, none⟩) (n + 1) cap) (n + 1) (xs ++ partC leaf (.pointer none)) ∧ (v.ownBlock = some g ∨ w.heap.size ≤ g) ∧ w'.heap[t]? = some (.cells #[.int .i64 z, .int .u64 (N : Int), .slice (some ⟨g, 0, none⟩) (n + 1) cap] 83 (0, 0))) ∧ Kept (t :: v.ownBlock.toList) X w')
    (by simp only [Act.put, List.setIfInBounds_toArray, List.set_cons_zero, List.set_cons_succ]; rfl) (by exact Or.inl ⟨by rfl, fun W' hW' => by go_simp⟩)
    (by simp only [Act.put, List.setIfInBounds_toArray, List.set_cons_zero, List.set_cons_succ]; rfl) (by exact Or.inl ⟨by rfl, fun W' hW' => by go_simp⟩)
    (by simp only [Act.put, List.setIfInBounds_toArray, List.set_cons_zero, List.set_cons_succ]; rfl) (by exact Or.inl ⟨by rfl, fun W' hW' => by go_simp⟩)
    (by simp only [Act.put, List.setIfInBounds_toArray, List.set_cons_zero, List.set_cons_succ]; rfl) (by exact Or.inl ⟨by rfl, fun W' hW' => by go_simp⟩)
    (by simp only [Act.put, List.setIfInBounds_toArray, List.set_cons_zero, List.set_cons_succ]; rfl) (by exact Or.inl ⟨by rfl, fun W' hW' => by have h9 := hW'.cell cq (by intro hm; simp only [Option.mem_toList] at hm; have := hvb _ hm; omega); go_simp⟩)
    (by simp only [Act.put, List.setIfInBounds_toArray, List.set_cons_zero, List.set_cons_succ]; rfl) (by
      refine Or.inl ⟨by rfl, fun W' hW' => ?_⟩
      have h9 := run_loadVar_row (P := Tryd.prog) W' w.heap.size 23 23 (brow leaf) (0, 0) _ (hW'.heap (unhide HGX) (by intro hm; simp only [Option.mem_toList] at hm; have := hvb _ hm; omega)) Tryd.underlying23 rfl (by rw [hlb]; exact Tryd.size_dig)
      unfold execOp
      simp only [Instr.loadAt, Instr.sureAddr, Sem.run_bind, Sem.run_pure, Result.andThen_ok]
      change ((Sem.run Tryd.prog (loadVar 23 ⟨w.heap.size, 0, none⟩) W').andThen fun a w' => Result.ok (Next.value a) w') = _
      rw [h9]
      rfl)
    (by simp only [Act.put, List.setIfInBounds_toArray, List.set_cons_zero, List.set_cons_succ]; rfl) (by
      refine Or.inl ⟨by rfl, fun W' hW' => ?_⟩
      unfold execOp
      go_simp
      exact build_part leaf hl.1)
    (Kept.refl [] X).drew
    ⟨fun w' h => h.mono (by simp), fun u0 w' h => h.2.mono (by simp), fun u0 u1 w' h => h.2, fun u0 u1 u2 w' h => h.2.2, fun u0 u1 u2 u3 w' h => h.2.2.2⟩
    (by
      intro w' i K hK
      have hp33 := partC_len (k := .pointer none) hl.1
      have hb1 := hide (build_one leaf (.pointer none) hl.1)
      unfold Oper.wp execOp
      go_simp
      exact hK _ _ ⟨⟨_, rfl, (heap_alloc_new w' _).trans (by rw [← unhide hb1]; rfl)⟩, i.alloc _⟩)
    (by
      rintro u0 w' ⟨⟨H, rfl, hH⟩, i⟩ K hK
      obtain ⟨g, cap, w1, hrun, h3, h4, h5⟩ := pushK w' base v n xs leaf (.pointer none) H (i.owns (unhide HOX) (by simp)) hH hl.1 rfl (by omega) (by have := i.size; omega)
      exact wp_appendT rfl rfl rfl rfl hrun (hK _ _ ⟨⟨_, _, rfl, h3, h5.elim Or.inl (fun e => Or.inr (by have := i.size; omega))⟩, (i.mono (by simp)).grown h4 (by intro k hk; left; simp [hk])⟩))
    (by rintro u0 u1 w' ⟨⟨g, cap, rfl, h3, h8⟩, i⟩ K hK; unfold Oper.wp execOp; go_simp; exact hK _ _ ⟨rfl, ⟨_, _, rfl, h3, h8⟩, i⟩)
    (by rintro u0 u1 u2 w' ⟨rfl, ⟨g, cap, rfl, h3, h8⟩, i⟩ K hK; unfold Oper.wp execOp; go_simp; exact hK _ _ ⟨rfl, rfl, ⟨_, _, rfl, h3, h8⟩, i⟩)
    (by
      rintro u0 u1 u2 u3 w' ⟨rfl, rfl, ⟨g, cap, rfl, h3, h8⟩, i⟩ K hK
      have hq := i.heap (unhide HRX) (by intro hm; simp only [Option.mem_toList] at hm; have := hvb _ hm; omega)
      have cq9 := cell_of_row _ _ 2 _ _ _ hq
      have fz9 : w'.frozen? ⟨t, 2, none⟩ = false := by simp [World.frozen?, hq]
      have hset := heap_setCell_same w' t 2 _ 83 (.slice (some ⟨g, 0, none⟩) (n + 1) cap) hq
      have kS := (Kept.refl [t] w').setCell (p := ⟨t, 2, none⟩) (Or.inl (by simp)) (.slice (some ⟨g, 0, none⟩) (n + 1) cap)
      unfold Oper.wp execOp
      go_simp
      exact hK _ ⟨⟨_, _, rfl, kS.owns h3 (by intro b hb hm; simp [Value.ownBlock] at hb hm; subst hb; exact owns_ne h3 hq (by decide) hm.symm), h8, hset⟩, (i.mono (by simp; intro x hx; right; exact hx)).setCell (Or.inl (by simp)) _⟩)
    ?_
  rintro u0 u1 u2 u3 Y ⟨⟨g, cap, rfl, hO, hlie, hq⟩, kY⟩
  simp only [Act.put, List.setIfInBounds_toArray, List.set_cons_zero, List.set_cons_succ]
  have HO := hide hO
  have HLie := hide hlie
  have HQ := hide hq
  have HKY := hide kY
  have d1 := cell_of_row _ _ 1 _ _ _ hq
  have y1 := frozen_of_row _ _ 1 _ _ hq
  simp at d1
  clear hO hq kY cq hlb HGX HRX HOX hlie
  have hN' : (N : Int) + 1 < 18446744073709551616 := by omega
  have HQ2 := hide (heap_setCell_same _ _ 1 _ _ (.int .u64 ((N : Int) + 1)) (unhide HQ))
  have HK2 := hide ((unhide HKY).setCell (p := ⟨t, 1, none⟩) (Or.inl (by simp)) (.int .u64 ((N : Int) + 1)))
  have HOY := hide ((((Kept.refl [t] Y).setCell (p := ⟨t, 1, none⟩) (Or.inl (by simp)) (.int .u64 ((N : Int) + 1))).owns (unhide HO) (by intro b hb hm; simp [Value.ownBlock] at hb hm; subst hb; exact owns_ne (unhide HO) (unhide HQ) (by decide) hm.symm)))
  go_wp2_with fail
  obtain ⟨Z, hZ⟩ : ∃ Z, Y.setCell ⟨t, 1, none⟩ (.int .u64 ((N : Int) + 1)) = Z := ⟨_, rfl⟩
  rw [hZ] at HQ2 HK2 HOY ⊢
  clear hZ
  have e1 : (N : Int) + 1 = ((N + 1 : Nat) : Int) := by omega
  rw [e1] at HQ2 ⊢
  clear e1
  have HKZ := hide (((unhide HKX).mono (by simp)).trans (unhide HK2) (by intro x hx; left; exact hx) : Kept (t :: v.ownBlock.toList) w Z)
  obtain ⟨m, hcm⟩ := ctz_form (M := N + 1) (by omega) (by omega)
  have HR0 := hide (unhide HST Z g cap (unhide HKZ) (unhide HV0) (unhide HT0) (by simpa using unhide HQ2) (unhide HOY) (unhide HLie))
  have HFI := hide (fun front top g1 cap1 wr (h : PuRel z t (N + 1) base v ps leaf w (Lib.ctz 64 (N + 1)) front top g1 cap1 wr) => h.fin hcm)
  refine (tz64_any (N + 1) Z (by omega) (by omega) (unhide H6w Z ((unhide HKX).mono (by simp) |>.trans (unhide HK2) (by intro x hx; left; exact hx)))).mono ?_
  rintro e w3 ⟨rfl, rfl⟩
  clear hN' d1 y1 HQ HKY HO
  clear HST HOY HQ2 HLie HV0 HT0
  have hc64 := (Lib.lowest_bit 64 (N + 1) (by omega) (by omega)).2
  generalize Lib.ctz 64 (N + 1) = c at hcm HFI hc64 ⊢
  have HCM := hide hcm
  clear hcm
  have hMb : N + 1 ≤ 1000000001 := by omega
  generalize N + 1 = M at HCM HR0 HFI hMb ⊢
  go_wp2_with fail
  go_loopw [30] (fun t30 wr => ∃ (i : Nat) (front : List Pk) (top : Pk) (g1 cap1 : Nat), i ≤ c ∧ t30 = .int .i64 i ∧ Hid (PuRel z t M base v ps leaf w i front top g1 cap1 wr)) (fun t _ => c - (intOf t).toNat)
  case atStart => exact ⟨0, _, _, _, _, Nat.zero_le _, rfl, HR0⟩
  case round =>
    obtain ⟨i, front, top, g1, cap1, hi, rfl, HRL⟩ := hrel
    by_cases hlt : i < c
    · have hlt' : (i : Int) < c := by omega
      obtain ⟨front2, pa, hfr, HF0⟩ := (unhide HRL).facts hw (unhide HCM) hlt
      subst hfr
      have HF := hide HF0
      have cq := HF0.cq
      have cz := HF0.cz
      have htg := HF0.tg
      have hjM := HF0.jM
      have hjc0 := HF0.jc
      have hg1w := HF0.gw
      have hbg1 := HF0.bw
      have Hpa := hide HF0.ra
      have Htop := hide HF0.rt
      have HDGpa := hide HF0.la
      have HDGtop := hide HF0.lt
      have HOpa := hide HF0.oa
      have HOtop := hide HF0.ot
      clear HF0
      obtain ⟨j, hj⟩ : ∃ j, front2.length = j := ⟨_, rfl⟩
      rw [hj] at cq Hpa Htop hjM hjc0
      have hcap : (j : Int) + 2 ≤ 1000000001 := by omega
      have ix0 : ¬ (j : Int) + 1 < 0 := by omega
      have ix1 : ¬ (j : Int) + 2 ≤ j := by omega
      have ix2 : ¬ (j : Int) + 2 ≤ (j : Int) + 1 := by omega
      have wj : IntKind.i64.wrap ((j : Int) + 1) = (j : Int) + 1 := by simp [IntKind.wrap, IntKind.signed, IntKind.bits]; omega
      go_wp2_with fail
      refine wp_pu19 (by kernel_rfl) (by kernel_rfl) (by kernel_rfl) (by kernel_rfl) (by kernel_rfl) (by kernel_rfl) (by kernel_rfl) (by kernel_rfl) (by kernel_rfl) (by kernel_rfl) (by kernel_rfl) (by kernel_rfl) (by kernel_rfl) (by kernel_rfl) (by kernel_rfl) (by kernel_rfl) (by kernel_rfl) (by kernel_rfl) (by kernel_rfl) (by kernel_rfl) (by kernel_rfl) (by kernel_rfl) (by kernel_rfl) (by kernel_rfl) (by kernel_rfl) (by kernel_rfl) (by kernel_rfl) (by kernel_rfl) (by kernel_rfl) (by kernel_rfl) (by kernel_rfl) (by kernel_rfl) (by kernel_rfl) (by kernel_rfl) (by kernel_rfl) (by kernel_rfl) (by kernel_rfl) (by kernel_rfl) rfl rfl rfl rfl (by simp)
        (Value.pointer (some ⟨t, 0, none⟩)) (Value.pointer (some ⟨t, 0, none⟩)) (Value.pointer (some ⟨t, 2, none⟩)) (Value.slice (some ⟨g1, 0, none⟩) (j + 2) cap1) (.int .i64 (j : Int)) (.pointer (some ⟨g1, j * 33, none⟩)) (Value.agg (partC pa.s pa.k).toArray) (Value.pointer (some ⟨t, 0, none⟩)) (Value.pointer (some ⟨t, 0, none⟩)) (Value.pointer (some ⟨t, 2, none⟩)) (Value.slice (some ⟨g1, 0, none⟩) (j + 2) cap1) (.int .i64 (j : Int)) (.int .i64 ((j : Int) + 1)) (.pointer (some ⟨g1, (j + 1) * 33, none⟩)) (Value.agg (partC top.s top.k).toArray) _ _ _ _ _ _ _ _ _ _ _ _ _ _ _
        (fun w' => Kept [] wr w')
        (fun w' => Kept [] wr w')
        (fun u w' => ∃ gl, u = .pointer (some ⟨gl, 0, none⟩) ∧ wr.heap.size ≤ gl ∧ w'.heap[gl]? = some (.cells zP 87 (0, 0)) ∧ Kept [] wr w')
        (fun u w' => ∃ gl, u = .pointer (some ⟨gl, 0, none⟩) ∧ wr.heap.size ≤ gl ∧ w'.heap[gl]? = some (.cells zP 87 (0, 0)) ∧ Kept [] wr w')
        (fun u u' w' => ∃ gl gr, u = .pointer (some ⟨gl, 0, none⟩) ∧ u' = .pointer (some ⟨gr, 0, none⟩) ∧ gl ≠ gr ∧ wr.heap.size ≤ gl ∧ wr.heap.size ≤ gr ∧ w'.heap[gl]? = some (.cells zP 87 (0, 0)) ∧ w'.heap[gr]? = some (.cells zP 87 (0, 0)) ∧ Kept [] wr w')
        (fun u u' _ w' => ∃ gl gr, u = .pointer (some ⟨gl, 0, none⟩) ∧ u' = .pointer (some ⟨gr, 0, none⟩) ∧ gl ≠ gr ∧ wr.heap.size ≤ gl ∧ wr.heap.size ≤ gr ∧ w'.heap[gl]? = some (.cells (partC pa.s pa.k).toArray 87 (0, 0)) ∧ w'.heap[gr]? = some (.cells zP 87 (0, 0)) ∧ Kept [] wr w')
        (fun u u' _ _ w' => ∃ gl gr, u = .pointer (some ⟨gl, 0, none⟩) ∧ u' = .pointer (some ⟨gr, 0, none⟩) ∧ gl ≠ gr ∧ wr.heap.size ≤ gl ∧ wr.heap.size ≤ gr ∧ w'.heap[gl]? = some (.cells (partC pa.s pa.k).toArray 87 (0, 0)) ∧ w'.heap[gr]? = some (.cells (partC top.s top.k).toArray 87 (0, 0)) ∧ Kept [] wr w')
        (by simp only [Act.put, List.setIfInBounds_toArray, List.set_cons_zero, List.set_cons_succ]; rfl) (by exact Or.inl ⟨by rfl, fun W' hW' => by go_simp⟩)
        (by simp only [Act.put, List.setIfInBounds_toArray, List.set_cons_zero, List.set_cons_succ]; rfl) (by exact Or.inl ⟨by rfl, fun W' hW' => by go_simp⟩)
        (by simp only [Act.put, List.setIfInBounds_toArray, List.set_cons_zero, List.set_cons_succ]; rfl) (by exact Or.inl ⟨by rfl, fun W' hW' => by go_simp⟩)
        (by simp only [Act.put, List.setIfInBounds_toArray, List.set_cons_zero, List.set_cons_succ]; rfl) (by exact Or.inl ⟨by rfl, fun W' hW' => by have h9 := hW'.cell cq (by simp); go_simp⟩)
        (by simp only [Act.put, List.setIfInBounds_toArray, List.set_cons_zero, List.set_cons_succ]; rfl) (by exact Or.inl ⟨by rfl, fun W' hW' => by go_simp⟩)
        (by simp only [Act.put, List.setIfInBounds_toArray, List.set_cons_zero, List.set_cons_succ]; rfl) (by exact Or.inl ⟨by rfl, fun W' hW' => by go_simp⟩)
        (by simp only [Act.put, List.setIfInBounds_toArray, List.set_cons_zero, List.set_cons_succ]; rfl) (by
          refine Or.inl ⟨by rfl, fun W' hW' => ?_⟩
          have h9 := run_loadVar_mid (P := Tryd.prog) W' g1 (j * 33) 87 (partC pa.s pa.k) _ (fun k u hk => hW'.cell (unhide Hpa k u hk) (by simp)) Tryd.underlying87 rfl (by rw [partC_len (unhide HDGpa)]; exact size_part)
          unfold execOp
          simp only [Instr.loadAt, Instr.sureAddr, Sem.run_bind, Sem.run_pure, Result.andThen_ok]
          change ((Sem.run Tryd.prog (loadVar 87 ⟨g1, j * 33, none⟩) W').andThen fun a w' => Result.ok (Next.value a) w') = _
          rw [h9]
          rfl)
        (by simp only [Act.put, List.setIfInBounds_toArray, List.set_cons_zero, List.set_cons_succ]; rfl) (by exact Or.inl ⟨by rfl, fun W' hW' => by go_simp⟩)
        (by simp only [Act.put, List.setIfInBounds_toArray, List.set_cons_zero, List.set_cons_succ]; rfl) (by exact Or.inl ⟨by rfl, fun W' hW' => by go_simp⟩)
        (by simp only [Act.put, List.setIfInBounds_toArray, List.set_cons_zero, List.set_cons_succ]; rfl) (by exact Or.inl ⟨by rfl, fun W' hW' => by go_simp⟩)
        (by simp only [Act.put, List.setIfInBounds_toArray, List.set_cons_zero, List.set_cons_succ]; rfl) (by exact Or.inl ⟨by rfl, fun W' hW' => by have h9 := hW'.cell cq (by simp); go_simp⟩)
        (by simp only [Act.put, List.setIfInBounds_toArray, List.set_cons_zero, List.set_cons_succ]; rfl) (by exact Or.inl ⟨by rfl, fun W' hW' => by go_simp⟩)
        (by simp only [Act.put, List.setIfInBounds_toArray, List.set_cons_zero, List.set_cons_succ]; rfl) (by exact Or.inl ⟨by rfl, fun W' hW' => by go_simp⟩)
        (by simp only [Act.put, List.setIfInBounds_toArray, List.set_cons_zero, List.set_cons_succ]; rfl) (by exact Or.inl ⟨by rfl, fun W' hW' => by go_simp⟩)
        (by simp only [Act.put, List.setIfInBounds_toArray, List.set_cons_zero, List.set_cons_succ]; rfl) (by
          refine Or.inl ⟨by rfl, fun W' hW' => ?_⟩
          have h9 := run_loadVar_mid (P := Tryd.prog) W' g1 ((j + 1) * 33) 87 (partC top.s top.k) _ (fun k u hk => hW'.cell (unhide Htop k u hk) (by simp)) Tryd.underlying87 rfl (by rw [partC_len (unhide HDGtop)]; exact size_part)
          unfold execOp
          simp only [Instr.loadAt, Instr.sureAddr, Sem.run_bind, Sem.run_pure, Result.andThen_ok]
          change ((Sem.run Tryd.prog (loadVar 87 ⟨g1, (j + 1) * 33, none⟩) W').andThen fun a w' => Result.ok (Next.value a) w') = _
          rw [h9]
          rfl)
        (Kept.refl [] wr).drew
        ⟨fun w' h => h, fun u w' ⟨gl, _, _, _, k⟩ => k, fun u w' ⟨gl, _, _, _, k⟩ => k, fun u u' w' ⟨gl, gr, _, _, _, _, _, _, _, k⟩ => k, fun u u' _ w' ⟨gl, gr, _, _, _, _, _, _, _, k⟩ => k, fun u u' _ _ w' ⟨gl, gr, _, _, _, _, _, _, _, k⟩ => k⟩
        (by intro w' i K hK; unfold Oper.wp execOp; go_simp; exact hK _ _ ⟨_, rfl, i.size, heap_alloc_new w' (.cells zP 87), i.alloc _⟩)
        (by intro w' i K hK; unfold Oper.wp execOp; go_simp; exact hK _ _ ⟨_, rfl, i.size, heap_alloc_new w' (.cells zP 87), i.alloc _⟩)
        (by rintro u w' ⟨gl, rfl, h1, h2, i⟩ K hK; unfold Oper.wp execOp; go_simp; exact hK _ _ ⟨gl, _, rfl, rfl, by have := lt_of_block h2; omega, h1, i.size, ((Kept.refl [] w').alloc (.cells zP 87)).heap h2 (by simp), heap_alloc_new w' (.cells zP 87), i.alloc _⟩)
        (by rintro u w' ⟨gr, rfl, h1, h2, i⟩ K hK; unfold Oper.wp execOp; go_simp; exact hK _ _ ⟨_, gr, rfl, rfl, by have := lt_of_block h2; omega, i.size, h1, heap_alloc_new w' (.cells zP 87), ((Kept.refl [] w').alloc (.cells zP 87)).heap h2 (by simp), i.alloc _⟩)
        (by
          rintro u u' w' ⟨gl, gr, rfl, rfl, hne, h1, h2, h3, h4, i⟩ K hK
          exact wp_store_row 87 _ _ rfl gl (partC pa.s pa.k).toArray rfl rfl _ zP h3 (by rw [List.size_toArray, partC_len (unhide HDGpa)]; exact size_part) (by rw [zP_size, List.size_toArray, partC_len (unhide HDGpa)]) (unhide HOpa) (hK _ _ ⟨gl, gr, rfl, rfl, hne, h1, h2, setRow_heap _ _ _ _ _ _ h3, (setRow_other w' gl gr _ (fun e => hne e.symm)).trans h4, i.setRow (Or.inr h1) _⟩))
        (by
          rintro u u' u17 w' ⟨gl, gr, rfl, rfl, hne, h1, h2, h3, h4, i⟩ K hK
          exact wp_store_row 87 _ _ rfl gr (partC top.s top.k).toArray rfl rfl _ zP h4 (by rw [List.size_toArray, partC_len (unhide HDGtop)]; exact size_part) (by rw [zP_size, List.size_toArray, partC_len (unhide HDGtop)]) (unhide HOtop) (hK _ _ ⟨gl, gr, rfl, rfl, hne, h1, h2, (setRow_other w' gr gl _ hne).trans h3, setRow_heap _ _ _ _ _ _ h4, i.setRow (Or.inr h2) _⟩))
        ?_
      rintro u15 u16 u17 u18 W6 ⟨gl, gr, rfl, rfl, hne, hgl, hgr, hL6, hR6, k6⟩
      simp only [Act.put, List.setIfInBounds_toArray, List.set_cons_zero, List.set_cons_succ]
      go_wp2_with fail
      have cq6 : W6.cell? ⟨t, 2, none⟩ = some (Value.slice (some ⟨g1, 0, none⟩) (j + 2) cap1) := k6.cell cq (by simp)
      have cz6 : W6.cell? ⟨t, 0, none⟩ = some (.int .i64 z) := k6.cell cz (by simp)
      have hgl1 : ¬ gl = g1 := by omega
      have hgr1 : ¬ gr = g1 := by omega
      have hg1W : g1 < W6.heap.size := Nat.lt_of_lt_of_le hg1w k6.size
      have HLp := hide (range_rowV hL6 : W6.rangeAt gl 0 (partC pa.s pa.k))
      have HRp := hide (range_rowV hR6 : W6.rangeAt gr 0 (partC top.s top.k))
      have HLs := hide (range_part (unhide HLp) : W6.rangeAt gl 0 (pa.s.map u8))
      have HRs := hide (range_part (unhide HRp) : W6.rangeAt gr 0 (top.s.map u8))
      have HT6 := hide (k6.heap (unhide HRL).row (by simp))
      have HO6 := hide (k6.owns (owns_front (unhide HRL).own hj (unhide HF).la (unhide HF).lt (fun p hp => ((unhide HRL).pa p (by simp [hp])).dg.1)) (by simp))
      simp only [List.length_append, List.length_cons, List.length_nil, Nat.zero_add, hj, Nat.add_assoc, Nat.reduceAdd] at HT6
      have hbW : base ≤ W6.heap.size := by omega
      have HK6 := hide k6
      have HOV := hide (fun (w' : World) (k : Kept [] W6 w') => overT_any z pa.s top.s w' hw (unhide HF).da (unhide HF).dt (unhide HF).fa (unhide HF).ft (unhide HTw w' (((unhide HRL).kept.trans k6 (by simp)).trans k (by simp))))
      clear k6 hL6 hR6
      have hjc : (j : Int) ≤ cap1 := by omega
      have hj0 : ¬ (j : Int) < 0 := by omega
      refine wp_pu26 (by kernel_rfl) (by kernel_rfl) (by kernel_rfl) (by kernel_rfl) (by kernel_rfl) (by kernel_rfl) (by kernel_rfl) (by kernel_rfl) (by kernel_rfl) (by kernel_rfl) (by kernel_rfl) (by kernel_rfl) (by kernel_rfl) (by kernel_rfl) (by kernel_rfl) (by kernel_rfl) (by kernel_rfl) (by kernel_rfl) (by kernel_rfl) (by kernel_rfl) (by kernel_rfl) (by kernel_rfl) (by kernel_rfl) (by kernel_rfl) (by kernel_rfl) (by kernel_rfl) (by kernel_rfl) (by kernel_rfl) (by kernel_rfl) (by kernel_rfl) (by kernel_rfl) (by kernel_rfl) (by kernel_rfl) (by kernel_rfl) (by kernel_rfl) (by kernel_rfl) (by kernel_rfl) (by kernel_rfl) (by kernel_rfl) (by kernel_rfl) (by kernel_rfl) (by kernel_rfl) (by kernel_rfl) (by kernel_rfl) (by kernel_rfl) (by kernel_rfl) (by kernel_rfl) (by kernel_rfl) (by kernel_rfl) (by kernel_rfl) (by kernel_rfl) (by kernel_rfl) (by kernel_rfl) (by kernel_rfl) (by kernel_rfl) (by kernel_rfl) (by kernel_rfl) (by kernel_rfl) (by kernel_rfl) rfl rfl (by simp) (by kernel_rfl) rfl (by kernel_rfl) rfl (by kernel_rfl) rfl (by kernel_rfl) rfl (by kernel_rfl) rfl (by kernel_rfl) rfl (by kernel_rfl)
        (Value.pointer (some ⟨t, 0, none⟩)) (Value.pointer (some ⟨t, 0, none⟩)) (Value.pointer (some ⟨t, 0, none⟩)) (Value.pointer (some ⟨t, 2, none⟩)) (Value.slice (some ⟨g1, 0, none⟩) (j + 2) cap1) (.int .i64 (j : Int)) (.slice (some ⟨g1, 0, none⟩) j cap1) (Value.pointer (some ⟨t, 0, none⟩)) (Value.pointer (some ⟨t, 0, none⟩)) (.pointer (some ⟨t, 0, none⟩)) (.int .i64 z) (.pointer (some ⟨gl, 0, none⟩)) (.agg (brow pa.s)) (.pointer (some ⟨gr, 0, none⟩)) (.agg (brow top.s)) (.agg (partC pa.s pa.k).toArray) (.agg (partC top.s top.k).toArray) (.agg (partC pa.s pa.k ++ partC top.s top.k).toArray) _ _ _ _ _ _ _ _ _ _ _ _ _ _ _ _ _ _
        (fun w' => Kept [g1] W6 w')
        (fun w' => Kept [] W6 w')
        (fun u0 w' => u0 = .agg (brow (nodT z pa.s top.s)) ∧ Kept [] W6 w')
        (fun u1 w' => (∃ gk, u1 = .pointer (some ⟨gk, 0, none⟩) ∧ W6.heap.size ≤ gk ∧ w'.heap[gk]? = some (.cells (partC pa.s pa.k ++ partC top.s top.k).toArray 109 (0, 0))) ∧ Kept [] W6 w')
        (fun u0 u1 w' => u0 = .agg (brow (nodT z pa.s top.s)) ∧ (∃ gk, u1 = .pointer (some ⟨gk, 0, none⟩) ∧ W6.heap.size ≤ gk ∧ w'.heap[gk]? = some (.cells (partC pa.s pa.k ++ partC top.s top.k).toArray 109 (0, 0))) ∧ Kept [] W6 w')
        (fun u0 u1 u2 w' => (∃ gk, u1 = .pointer (some ⟨gk, 0, none⟩) ∧ W6.heap.size ≤ gk ∧ w'.heap[gk]? = some (.cells (partC pa.s pa.k ++ partC top.s top.k).toArray 109 (0, 0)) ∧ u2 = .agg (partC (nodT z pa.s top.s) (.pointer (some ⟨gk, 0, none⟩))).toArray) ∧ Kept [] W6 w')
        (fun u0 u1 u2 u3 w' => (∃ gk, u1 = .pointer (some ⟨gk, 0, none⟩) ∧ W6.heap.size ≤ gk ∧ w'.heap[gk]? = some (.cells (partC pa.s pa.k ++ partC top.s top.k).toArray 109 (0, 0)) ∧ ∃ H, u3 = .slice (some ⟨H, 0, none⟩) 1 1 ∧ w'.heap[H]? = some (.cells (partC (nodT z pa.s top.s) (.pointer (some ⟨gk, 0, none⟩))).toArray 87 (0, 0))) ∧ Kept [] W6 w')
        (fun u0 u1 u2 u3 u4 w' => (∃ gk, u1 = .pointer (some ⟨gk, 0, none⟩) ∧ W6.heap.size ≤ gk ∧ w'.heap[gk]? = some (.cells (partC pa.s pa.k ++ partC top.s top.k).toArray 109 (0, 0)) ∧ (∃ g2 cap2, u4 = .slice (some ⟨g2, 0, none⟩) (j + 1) cap2 ∧ w'.ownsRow base 87 33 (.slice (some ⟨g2, 0, none⟩) (j + 1) cap2) (j + 1) (cellsK front2 ++ partC (nodT z pa.s top.s) (.pointer (some ⟨gk, 0, none⟩))) ∧ (g2 = g1 ∨ W6.heap.size ≤ g2))) ∧ Kept [g1] W6 w')
        (fun u0 u1 u2 u3 u4 u5 w' => u5 = (Value.pointer (some ⟨t, 0, none⟩)) ∧ (∃ gk, u1 = .pointer (some ⟨gk, 0, none⟩) ∧ W6.heap.size ≤ gk ∧ w'.heap[gk]? = some (.cells (partC pa.s pa.k ++ partC top.s top.k).toArray 109 (0, 0)) ∧ (∃ g2 cap2, u4 = .slice (some ⟨g2, 0, none⟩) (j + 1) cap2 ∧ w'.ownsRow base 87 33 (.slice (some ⟨g2, 0, none⟩) (j + 1) cap2) (j + 1) (cellsK front2 ++ partC (nodT z pa.s top.s) (.pointer (some ⟨gk, 0, none⟩))) ∧ (g2 = g1 ∨ W6.heap.size ≤ g2))) ∧ Kept [g1] W6 w')
        (fun u0 u1 u2 u3 u4 u5 u6 w' => u6 = (Value.pointer (some ⟨t, 2, none⟩)) ∧ u5 = (Value.pointer (some ⟨t, 0, none⟩)) ∧ (∃ gk, u1 = .pointer (some ⟨gk, 0, none⟩) ∧ W6.heap.size ≤ gk ∧ w'.heap[gk]? = some (.cells (partC pa.s pa.k ++ partC top.s top.k).toArray 109 (0, 0)) ∧ (∃ g2 cap2, u4 = .slice (some ⟨g2, 0, none⟩) (j + 1) cap2 ∧ w'.ownsRow base 87 33 (.slice (some ⟨g2, 0, none⟩) (j + 1) cap2) (j + 1) (cellsK front2 ++ partC (nodT z pa.s top.s) (.pointer (some ⟨gk, 0, none⟩))) ∧ (g2 = g1 ∨ W6.heap.size ≤ g2))) ∧ Kept [g1] W6 w')
        (fun u0 u1 u2 u3 u4 u5 u6 w' => (∃ gk, u1 = .pointer (some ⟨gk, 0, none⟩) ∧ W6.heap.size ≤ gk ∧ w'.heap[gk]? = some (.cells (partC pa.s pa.k ++ partC top.s top.k).toArray 109 (0, 0)) ∧ (∃ g2 cap2, u4 = .slice (some ⟨g2, 0, none⟩) (j + 1) cap2 ∧ w'.ownsRow base 87 33 (.slice (some ⟨g2, 0, none⟩) (j + 1) cap2) (j + 1) (cellsK front2 ++ partC (nodT z pa.s top.s) (.pointer (some ⟨gk, 0, none⟩))) ∧ (g2 = g1 ∨ W6.heap.size ≤ g2) ∧ w'.heap[t]? = some (.cells #[.int .i64 z, .int .u64 (M : Int), .slice (some ⟨g2, 0, none⟩) (j + 1) cap2] 83 (0, 0)))) ∧ Kept [t, g1] W6 w')
        (by simp only [Act.put, List.setIfInBounds_toArray, List.set_cons_zero, List.set_cons_succ]; rfl) (by exact Or.inl ⟨by rfl, fun W' hW' => by go_simp⟩)
        (by simp only [Act.put, List.setIfInBounds_toArray, List.set_cons_zero, List.set_cons_succ]; rfl) (by exact Or.inl ⟨by rfl, fun W' hW' => by go_simp⟩)
        (by simp only [Act.put, List.setIfInBounds_toArray, List.set_cons_zero, List.set_cons_succ]; rfl) (by exact Or.inl ⟨by rfl, fun W' hW' => by go_simp⟩)
        (by simp only [Act.put, List.setIfInBounds_toArray, List.set_cons_zero, List.set_cons_succ]; rfl) (by exact Or.inl ⟨by rfl, fun W' hW' => by go_simp⟩)
        (by simp only [Act.put, List.setIfInBounds_toArray, List.set_cons_zero, List.set_cons_succ]; rfl) (by exact Or.inl ⟨by rfl, fun W' hW' => by have h9 := hW'.cell cq6 (by simpa using htg); go_simp⟩)
        (by simp only [Act.put, List.setIfInBounds_toArray, List.set_cons_zero, List.set_cons_succ]; rfl) (by exact Or.inl ⟨by rfl, fun W' hW' => by go_simp⟩)
        (by simp only [Act.put, List.setIfInBounds_toArray, List.set_cons_zero, List.set_cons_succ]; rfl) (by exact Or.inl ⟨by rfl, fun W' hW' => by go_simp⟩)
        (by simp only [Act.put, List.setIfInBounds_toArray, List.set_cons_zero, List.set_cons_succ]; rfl) (by exact Or.inl ⟨by rfl, fun W' hW' => by go_simp⟩)
        (by simp only [Act.put, List.setIfInBounds_toArray, List.set_cons_zero, List.set_cons_succ]; rfl) (by exact Or.inl ⟨by rfl, fun W' hW' => by go_simp⟩)
        (by simp only [Act.put, List.setIfInBounds_toArray, List.set_cons_zero, List.set_cons_succ]; rfl) (by exact Or.inl ⟨by rfl, fun W' hW' => by go_simp⟩)
        (by simp only [Act.put, List.setIfInBounds_toArray, List.set_cons_zero, List.set_cons_succ]; rfl) (by exact Or.inl ⟨by rfl, fun W' hW' => by have h9 := hW'.cell cz6 (by simpa using htg); go_simp⟩)
        (by simp only [Act.put, List.setIfInBounds_toArray, List.set_cons_zero, List.set_cons_succ]; rfl) (by exact Or.inl ⟨by rfl, fun W' hW' => by go_simp⟩)
        (by simp only [Act.put, List.setIfInBounds_toArray, List.set_cons_zero, List.set_cons_succ]; rfl) (by
          refine Or.inl ⟨by rfl, fun W' hW' => ?_⟩
          have h9 := run_loadVar_mid (P := Tryd.prog) W' gl 0 23 (pa.s.map u8) _ (fun k u hk => hW'.cell (unhide HLs k u hk) (by simpa using hgl1)) Tryd.underlying23 rfl (by rw [List.length_map, unhide HDGpa]; exact Tryd.size_dig)
          unfold execOp
          simp only [Instr.loadAt, Instr.sureAddr, Sem.run_bind, Sem.run_pure, Result.andThen_ok]
          change ((Sem.run Tryd.prog (loadVar 23 ⟨gl, 0, none⟩) W').andThen fun a w' => Result.ok (Next.value a) w') = _
          rw [h9]
          rfl)
        (by simp only [Act.put, List.setIfInBounds_toArray, List.set_cons_zero, List.set_cons_succ]; rfl) (by exact Or.inl ⟨by rfl, fun W' hW' => by go_simp⟩)
        (by simp only [Act.put, List.setIfInBounds_toArray, List.set_cons_zero, List.set_cons_succ]; rfl) (by
          refine Or.inl ⟨by rfl, fun W' hW' => ?_⟩
          have h9 := run_loadVar_mid (P := Tryd.prog) W' gr 0 23 (top.s.map u8) _ (fun k u hk => hW'.cell (unhide HRs k u hk) (by simpa using hgr1)) Tryd.underlying23 rfl (by rw [List.length_map, unhide HDGtop]; exact Tryd.size_dig)
          unfold execOp
          simp only [Instr.loadAt, Instr.sureAddr, Sem.run_bind, Sem.run_pure, Result.andThen_ok]
          change ((Sem.run Tryd.prog (loadVar 23 ⟨gr, 0, none⟩) W').andThen fun a w' => Result.ok (Next.value a) w') = _
          rw [h9]
          rfl)
        (by simp only [Act.put, List.setIfInBounds_toArray, List.set_cons_zero, List.set_cons_succ]; rfl) (by
          refine Or.inl ⟨by rfl, fun W' hW' => ?_⟩
          have h9 := run_loadVar_mid (P := Tryd.prog) W' gl 0 87 (partC pa.s pa.k) _ (fun k u hk => hW'.cell (unhide HLp k u hk) (by simpa using hgl1)) Tryd.underlying87 rfl (by rw [partC_len (unhide HDGpa)]; exact size_part)
          unfold execOp
          simp only [Instr.loadAt, Instr.sureAddr, Sem.run_bind, Sem.run_pure, Result.andThen_ok]
          change ((Sem.run Tryd.prog (loadVar 87 ⟨gl, 0, none⟩) W').andThen fun a w' => Result.ok (Next.value a) w') = _
          rw [h9]
          rfl)
        (by simp only [Act.put, List.setIfInBounds_toArray, List.set_cons_zero, List.set_cons_succ]; rfl) (by
          refine Or.inl ⟨by rfl, fun W' hW' => ?_⟩
          have h9 := run_loadVar_mid (P := Tryd.prog) W' gr 0 87 (partC top.s top.k) _ (fun k u hk => hW'.cell (unhide HRp k u hk) (by simpa using hgr1)) Tryd.underlying87 rfl (by rw [partC_len (unhide HDGtop)]; exact size_part)
          unfold execOp
          simp only [Instr.loadAt, Instr.sureAddr, Sem.run_bind, Sem.run_pure, Result.andThen_ok]
          change ((Sem.run Tryd.prog (loadVar 87 ⟨gr, 0, none⟩) W').andThen fun a w' => Result.ok (Next.value a) w') = _
          rw [h9]
          rfl)
        (by simp only [Act.put, List.setIfInBounds_toArray, List.set_cons_zero, List.set_cons_succ]; rfl) (by
          refine Or.inl ⟨by rfl, fun W' hW' => ?_⟩
          have l1 := partC_len (k := pa.k) (unhide HDGpa)
          have l2 := partC_len (k := top.k) (unhide HDGtop)
          have hf := pair_fold (partC pa.s pa.k) (partC top.s top.k) l1 l2
          have hz : ¬ (List.foldl (fun cs x => cs.setIfInBounds x.snd x.fst) Tryd.zeroCells109 (partC pa.s pa.k).zipIdx).size < 66 := by rw [fold_size, z87_size]; omega
          unfold execOp
          go_simp)
        (Kept.refl [] W6).drew
        ⟨fun w' h => h.mono (by simp), fun u0 w' h => h.2.mono (by simp), fun u1 w' h => h.2.mono (by simp), fun u0 u1 w' h => h.2.2.mono (by simp), fun u0 u1 u2 w' h => h.2.mono (by simp), fun u0 u1 u2 u3 w' h => h.2.mono (by simp), fun u0 u1 u2 u3 u4 w' h => h.2, fun u0 u1 u2 u3 u4 u5 w' h => h.2.2, fun u0 u1 u2 u3 u4 u5 u6 w' h => h.2.2.2⟩
        (by intro w' i K hK; exact wp_callN rfl Tryd.call63 [.int .i64 z, .agg (brow pa.s), .agg (brow top.s)] rfl (unhide HOV w' i) (fun e w2 h => ⟨_, h.1, hK _ _ ⟨rfl, i.trans h.2 (by simp)⟩⟩))
        (by intro w' i K hK; unfold Oper.wp execOp; go_simp; exact hK _ _ ⟨⟨_, rfl, i.size, heap_alloc_new _ _⟩, i.alloc _⟩)
        (by rintro u0 w' ⟨rfl, i⟩ K hK; unfold Oper.wp execOp; go_simp; exact hK _ _ ⟨rfl, ⟨_, rfl, i.size, heap_alloc_new _ _⟩, i.alloc _⟩)
        (by rintro u1 w' ⟨⟨gk, rfl, h1, h2⟩, i⟩ K hK; exact wp_callN rfl Tryd.call63 [.int .i64 z, .agg (brow pa.s), .agg (brow top.s)] rfl (unhide HOV w' i) (fun e w2 h => ⟨_, h.1, hK _ _ ⟨rfl, ⟨gk, rfl, h1, h.2.heap h2 (by simp)⟩, i.trans h.2 (by simp)⟩⟩))
        (by
          intro u0 u1 w' hh K hK
          simp only [Act.put, List.setIfInBounds_toArray, List.set_cons_zero, List.set_cons_succ] at hK ⊢
          obtain ⟨rfl, ⟨gk, rfl, h1, h2⟩, i⟩ := hh
          exact wp_build_part _ _ rfl (nodT z pa.s top.s) (.pointer (some ⟨gk, 0, none⟩)) (nodS_dg z pa.s top.s).1 rfl rfl rfl (hK _ _ ⟨⟨gk, rfl, h1, h2, rfl⟩, i⟩))
        (by
          intro u0 u1 u2 w' hh K hK
          simp only [Act.put, List.setIfInBounds_toArray, List.set_cons_zero, List.set_cons_succ] at hK ⊢
          obtain ⟨⟨gk, rfl, h1, h2, rfl⟩, i⟩ := hh
          have hnl : (nodT z pa.s top.s).length = 32 := (nodS_dg z pa.s top.s).1
          have hp33 := partC_len (k := .pointer (some ⟨gk, 0, none⟩)) hnl
          have hb1 := hide (build_one (nodT z pa.s top.s) (.pointer (some ⟨gk, 0, none⟩)) hnl)
          unfold Oper.wp execOp
          go_simp
          exact hK _ _ ⟨⟨gk, rfl, h1, ((Kept.refl [] w').alloc _).heap h2 (by simp), _, rfl, (heap_alloc_new w' _).trans (by rw [← unhide hb1]; rfl)⟩, i.alloc _⟩)
        (by
          intro u0 u1 u2 u3 w' hh K hK
          simp only [Act.put, List.setIfInBounds_toArray, List.set_cons_zero, List.set_cons_succ] at hK ⊢
          obtain ⟨⟨gk, rfl, h1, h2, H, rfl, hH⟩, i⟩ := hh
          have hnl : (nodT z pa.s top.s).length = 32 := (nodS_dg z pa.s top.s).1
          obtain ⟨g2, cap2, w1, hrun, h3, h4, h5⟩ := pushK w' base (.slice (some ⟨g1, 0, none⟩) j cap1) j (cellsK front2) (nodT z pa.s top.s) (.pointer (some ⟨gk, 0, none⟩)) H (i.owns (unhide HO6) (by simp)) hH hnl rfl (by omega) (Nat.le_trans hbW i.size)
          have k4 : Kept [g1] w' w1 := (Kept.refl [g1] w').grown h4 (by intro k hk; left; simp [Value.ownBlock] at hk; simp [hk])
          exact wp_appendT rfl rfl rfl rfl hrun (hK _ _ ⟨⟨gk, rfl, h1, k4.heap h2 (by simp; omega), g2, cap2, rfl, h3, h5.elim (fun e => Or.inl (by simp [Value.ownBlock] at e; exact e.symm)) (fun e => Or.inr (by have := i.size; omega))⟩, (i.mono (by simp)).trans k4 (by simp)⟩))
        (by
          intro u0 u1 u2 u3 u4 w' hh K hK
          simp only [Act.put, List.setIfInBounds_toArray, List.set_cons_zero, List.set_cons_succ] at hK ⊢
          obtain ⟨⟨gk, rfl, h1, h2, g2, cap2, rfl, h3, h8⟩, i⟩ := hh
          unfold Oper.wp execOp; go_simp; exact hK _ _ ⟨rfl, ⟨gk, rfl, h1, h2, g2, cap2, rfl, h3, h8⟩, i⟩)
        (by
          intro u0 u1 u2 u3 u4 u5 w' hh K hK
          simp only [Act.put, List.setIfInBounds_toArray, List.set_cons_zero, List.set_cons_succ] at hK ⊢
          obtain ⟨rfl, ⟨gk, rfl, h1, h2, g2, cap2, rfl, h3, h8⟩, i⟩ := hh
          unfold Oper.wp execOp; go_simp; exact hK _ _ ⟨rfl, rfl, ⟨gk, rfl, h1, h2, g2, cap2, rfl, h3, h8⟩, i⟩)
        (by
          intro u0 u1 u2 u3 u4 u5 u6 w' hh K hK
          simp only [Act.put, List.setIfInBounds_toArray, List.set_cons_zero, List.set_cons_succ] at hK ⊢
          obtain ⟨rfl, rfl, ⟨gk, rfl, h1, h2, g2, cap2, rfl, h3, h8⟩, i⟩ := hh
          have hq := i.heap (unhide HT6) (by simpa using htg)
          have kS := (Kept.refl [t] w').setCell (p := ⟨t, 2, none⟩) (Or.inl (by simp)) (.slice (some ⟨g2, 0, none⟩) (j + 1) cap2)
          have htW := lt_of_block (unhide HT6)
          exact wp_store_t2 _ _ rfl t _ _ ⟨_, _, _, rfl⟩ rfl rfl hq (by simp) (hK _ ⟨⟨gk, rfl, h1, kS.heap h2 (by simp; omega), g2, cap2, rfl, kS.owns h3 (by intro b hb hm; simp [Value.ownBlock] at hb hm; subst hb; exact owns_ne h3 hq (by decide) hm.symm), h8, heap_setCell_same w' t 2 _ 83 (.slice (some ⟨g2, 0, none⟩) (j + 1) cap2) hq⟩, (i.mono (by simp)).setCell (Or.inl (by simp)) _⟩))
        ?_
      rintro u0 u1 u2 u3 u4 u5 u6 W7 ⟨⟨gk, rfl, h1, h2, g2, cap2, rfl, h3, h8, h9⟩, k7⟩
      simp only [Act.put, List.setIfInBounds_toArray, List.set_cons_zero, List.set_cons_succ]
      rw [← hj] at h3 h9
      have HR1 := hide ((unhide HRL).step (unhide HF) (unhide HK6) k7 h1 h2 h3 h9 h8)
      clear h1 h2 h3 h9 h8 k7 HT6 HO6 HOV HLs HRs HLp HRp HK6 HF HRL Hpa Htop cq6 cz6 cq cz
      have hi1 : (i : Int) + 1 < 9223372036854775808 := by omega
      go_wp2_with fail
      refine ⟨⟨i + 1, _, _, _, _, by omega, by simp, HR1⟩, ?_⟩
      simp [intOf]
      omega
    · have hie : i = c := by omega
      subst hie
      have HE := hide (unhide HFI _ _ _ _ _ (unhide HRL))
      go_wp2_with fail
      exact ⟨rfl, _, results_none rfl _ _ _, rfl, unhide HE⟩

end Go.Proofs.YtbljofojeagdkaaDoor
