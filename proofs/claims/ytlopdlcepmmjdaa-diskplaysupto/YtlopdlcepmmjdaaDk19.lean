import Derived.Test.YtlopdlcepmmjdaaDk18
import Derived.Test.YtlopdlcepmmjdaaQSe15
import Derived.Test.YtlopdlcepmmjdaaQWp
namespace Go.Proofs.Ytlopdlcepmmjdaa
open Go.RowKit Go.BigFrame
set_option linter.unusedVariables false
set_option linter.unusedSimpArgs false

theorem wp_appendZ {o : Oper} {a : Act} {w : World} {K : Act → World → Prop} {Q : Exit → Act → World → Prop} {s x : Operand} (ho : o.op = .call { callee := .builtin .append, args := #[s, x], argTypes := #[36, 3] }) (hty : o.type = 36) {v u r : Value} {w1 : World} (hs : a.eval s = v) (hx : a.eval x = u)
    (hrun : (Builtin.append_ #[36, 3] 36 #[v, u]).run Try.prog w = .ok r w1) (hK : K (a.put o.dst r) w1) : o.wp Try.prog a w K Q := by
  unfold Oper.wp execOp
  simp only [ho, hty, resolve, invoke, builtin, Sem.run_bind, Sem.run_pure, Result.andThen_ok, List.map_toArray, List.map_cons, List.map_nil, hs, hx, hrun]
  exact hK

set_option maxRecDepth 100000 in
set_option maxHeartbeats 1000000 in
theorem settle_torn (f : DFile) (w : World) (kn : ByteArray) (kb : Int) (sec : Nat) (hf : FileAt w f) (hlen : f.bs.length ≤ 140737488350000) (n : Nat) (hn : n = f.sy + (wtn kb ((f.bs.length : Int) - f.sy)).toNat) (hlt : n < f.bs.length) (hs1 : 1 ≤ sec) (hs2 : sec ≤ 4096) :
    Calls Try.prog 65 #[.pointer (some ⟨f.g, 0, none⟩), .agg #[.string kn, .int .i64 kb, .bool true], .int .i64 sec] w fun e w' => ∃ v', e = .returned (.tuple #[]) ∧ FileAt w' { f with v := v', bs := f.bs.take n ++ List.replicate (tse n sec) 0, sy := n + tse n sec } ∧ Kept (f.g :: blk f.v) w w' ∧ ∀ x ∈ blk v', x ∈ blk f.v ∨ w.heap.size ≤ x := by
  have k0 := (Kept.refl [] w).alloc (.cells #[.string kn, .int .i64 kb, .bool true] 72 (0, 0))
  have hkr := heap_alloc_new w (.cells #[.string kn, .int .i64 kb, .bool true] 72 (0, 0))
  replace hf := hf.kept k0 (by simp) (by simp)
  have HKR := hide hkr
  have HK0 := hide k0
  clear k0 hkr
  have HF := hide hf
  have c1 := cell_of_row _ _ 1 _ _ _ hf.1
  have c2 := cell_of_row _ _ 2 _ _ _ hf.1
  simp at c1 c2
  have hz1 := frozen_of_row _ _ 1 _ _ hf.1
  have hz2 := frozen_of_row _ _ 2 _ _ hf.1
  obtain ⟨g0, cap, hv⟩ : ∃ g0 cap, f.v = .slice (some ⟨g0, 0, none⟩) f.bs.length cap := by
    rcases hf.2.1.2 with ⟨_, h0⟩ | ⟨g0, c0, cur, h1, _⟩
    · omega
    · exact ⟨g0, c0, h1⟩
  rw [hv] at c1
  have hsy := hf.2.2.2
  have hcap := owns_le hf.2.1 hv
  clear hf
  obtain ⟨k, hk⟩ : ∃ k : Nat, wtn kb ((f.bs.length : Int) - f.sy) = k := ⟨(wtn kb ((f.bs.length : Int) - f.sy)).toNat, by unfold wtn; omega⟩
  have hkn : f.sy + k ≤ f.bs.length := by unfold wtn at hk; omega
  have hwt := fun x : World => within_any kb ((f.bs.length : Int) - f.sy) x
  simp only [hk] at hwt
  have HWT := hide hwt
  have HKK := hide hk
  clear hwt hk
  go_enter Try.func65, Try.ntmps65
  go_wp2_with fail
  obtain ⟨W0, hW0⟩ : ∃ W, w.alloc (.cells #[.string kn, .int .i64 kb, .bool true] 72 (0, 0)) = W := ⟨_, rfl⟩
  rw [hW0] at HK0 HKR HF c1 c2 hz1 hz2 ⊢
  clear hW0
  have e1 := cell_of_row _ _ 1 _ _ _ (unhide HKR)
  have e2 := cell_of_row _ _ 2 _ _ _ (unhide HKR)
  simp at e1 e2
  refine wp_quiet_tail 16 (by kernel_rfl) (by kernel_rfl) ?_
  simp only [List.take_succ_cons, List.take_zero, List.drop_succ_cons, List.drop_zero]
  repeat (go_big_quiet_step (exact Calls.mono (unhide HWT _) (fun e x h => ⟨h.1, _, h.2⟩)))
  refine wpQuiet_nil ?_
  rintro _ ⟨n1, rfl⟩
  go_wp2_with fail
  have HK1 := hide ((((Kept.refl [f.g] W0).drewN n1)).setCell (p := ⟨f.g, 2, none⟩) (.inl (by simp)) (.int .i64 ((f.sy : Int) + k)))
  have HG1 := hide (heap_setCell_same (W0.drewN n1) _ 2 _ _ (.int .i64 ((f.sy : Int) + k)) (unhide HF).1)
  have HGW := hide (cells_ne (unhide HKR) (unhide HF).1 (by decide))
  obtain ⟨W1, hW1⟩ : ∃ W, (W0.drewN n1).setCell ⟨f.g, 2, none⟩ (.int .i64 ((f.sy : Int) + k)) = W := ⟨_, rfl⟩
  rw [hW1] at HK1 HG1 ⊢
  clear hW1 c1 c2 e1 e2 hz1 hz2
  have HKR1 := hide ((unhide HK1).heap (unhide HKR) (by simpa using unhide HGW))
  have c1 := cell_of_row _ _ 1 _ _ _ (unhide HG1)
  have c2 := cell_of_row _ _ 2 _ _ _ (unhide HG1)
  simp at c1 c2
  rw [hv] at c1
  have hz1 := frozen_of_row _ _ 1 _ _ (unhide HG1)
  have hcl : (f.sy : Int) + k ≤ (cap : Int) := by omega
  have hnn : ¬ (f.sy : Int) + k < 0 := by omega
  refine wp_quiet_tail 12 (by kernel_rfl) (by kernel_rfl) ?_
  simp only [List.take_succ_cons, List.take_zero, List.drop_succ_cons, List.drop_zero]
  repeat (go_big_quiet_step (fail))
  refine wpQuiet_nil ?_
  rintro _ ⟨n2, rfl⟩
  have hgw := unhide HGW
  have hwg := fun e => unhide HGW (Eq.symm e)
  have e2 := cell_of_row _ _ 2 _ _ _ (unhide HKR1)
  simp at e2
  have hz2 := frozen_of_row _ _ 2 _ _ (unhide HG1)
  have hnk : n = f.sy + k := by rw [hn, unhide HKK]; simp
  subst hnk
  clear hn
  have hl2 : (f.sy : Int) + k < f.bs.length := by omega
  go_wp2_with fail
  have HG2 := hide (heap_setCell_same (W1.drewN n2) _ 1 _ _ (.slice (some ⟨g0, 0, none⟩) (f.sy + k) cap) (unhide HG1))
  have HK2 := hide (((unhide HK1).drewN n2).setCell (p := ⟨f.g, 1, none⟩) (.inl (by simp)) (.slice (some ⟨g0, 0, none⟩) (f.sy + k) cap))
  obtain ⟨W2, hW2⟩ : ∃ W, (W1.drewN n2).setCell ⟨f.g, 1, none⟩ (.slice (some ⟨g0, 0, none⟩) (f.sy + k) cap) = W := ⟨_, rfl⟩
  rw [hW2] at HK2 HG2 ⊢
  clear hW2 c1 c2 e2 hz1 hz2
  have c1 := cell_of_row _ _ 1 _ _ _ (unhide HG2)
  have c2 := cell_of_row _ _ 2 _ _ _ (unhide HG2)
  simp at c1 c2
  have HTS := hide (fun x : World => (by
    have := toSectorEnd_any (f.sy + k) sec x (by omega) hs1 hs2
    rw [show ((f.sy + k : Nat) : Int) = (f.sy : Int) + k by omega] at this
    exact this : Calls Try.prog 78 #[.int .i64 ((f.sy : Int) + k), .int .i64 sec] x fun e w' => e = .returned (.int .i64 (tse (f.sy + k) sec : Nat)) ∧ w' = x))
  have hfile := unhide HF
  have htse : tse (f.sy + k) sec < sec := Nat.mod_lt _ (by omega)
  obtain ⟨q, hq⟩ : ∃ q, f.bs.take (f.sy + k) = q := ⟨_, rfl⟩
  have hql : q.length = f.sy + k := by rw [← hq, List.length_take]; omega
  have hqb : ∀ x ∈ q, x < 256 := by rw [← hq]; exact fun x hx => hfile.2.2.1 x (List.mem_of_mem_take hx)
  have hgb : f.g ≠ g0 := by
    obtain ⟨cs, hc⟩ := owns_cells hfile.2.1 (x := g0) (by rw [hv]; simp [blk])
    exact cells_ne hfile.1 hc (by decide)
  have HOQ := hide ((unhide HK2).owns (owns_cut (by rw [← hv]; exact hfile.2.1) (f.sy + k) hkn) (by
    intro x hx
    injection hx with hx
    subst hx
    simpa using fun e => hgb e.symm))
  rw [hq, show (Value.slice (some ⟨g0, 0, none⟩) (f.sy + k) cap) = .slice (some ⟨g0, 0, none⟩) q.length cap by rw [hql]] at HOQ
  obtain ⟨M, hM⟩ : ∃ M, tse (f.sy + k) sec = M := ⟨_, rfl⟩
  rw [hM] at htse
  simp only [hM] at HTS
  have HM := hide hM
  have HQ := hide hq
  have HQL := hide hql
  have HQB := hide hqb
  have HGB := hide hgb
  have HFL := hide hfile
  have HML := hide (by rw [hql]; omega : q.length + M ≤ 140737488355328)
  clear hfile hq hql hqb hgb HWT hM
  refine wp_se15 (by kernel_rfl) (by kernel_rfl) (by kernel_rfl) (by kernel_rfl) (by kernel_rfl) (by kernel_rfl) (by kernel_rfl) (by kernel_rfl) (by kernel_rfl) (by kernel_rfl) (by kernel_rfl) (by kernel_rfl) (by kernel_rfl) (by kernel_rfl) (by kernel_rfl) (by kernel_rfl) (by kernel_rfl) (by kernel_rfl) (by kernel_rfl) (by kernel_rfl) (by kernel_rfl) (by kernel_rfl) (by kernel_rfl) (by kernel_rfl) (by kernel_rfl) (by kernel_rfl) (by kernel_rfl) (by kernel_rfl) (by kernel_rfl) (by kernel_rfl) (by kernel_rfl) (by kernel_rfl) (by kernel_rfl) rfl (by kernel_rfl) rfl (by kernel_rfl) rfl (by kernel_rfl) rfl (by kernel_rfl) rfl (by kernel_rfl)
    (.pointer (some ⟨f.g, 0, none⟩)) (.pointer (some ⟨f.g, 0, none⟩)) (.pointer (some ⟨f.g, 0, none⟩)) (.pointer (some ⟨f.g, 1, none⟩)) (.slice (some ⟨g0, 0, none⟩) (f.sy + k) cap) (.pointer (some ⟨f.g, 0, none⟩)) (.pointer (some ⟨f.g, 0, none⟩)) (.pointer (some ⟨f.g, 2, none⟩)) (.int .i64 ((f.sy : Int) + k)) (.int .i64 sec) _ _ _ _ _ _ _ _ _ _
    (fun w' => Kept [g0] W2 w')
    (fun w' => Kept [] W2 w')
    (fun u0 w' => u0 = .int .i64 M ∧ Kept [] W2 w')
    (fun u0 u1 w' => ∃ g' cap', u1 = .slice (some ⟨g', 0, none⟩) (q.length + M) cap' ∧ w'.ownsRow 0 5 1 (.slice (some ⟨g', 0, none⟩) (q.length + M) cap') (q ++ List.replicate M 0).length ((q ++ List.replicate M 0).map u8) ∧ Kept [g0] W2 w' ∧ (g' = g0 ∨ W2.heap.size ≤ g'))
    (fun u0 u1 u2 w' => u2 = .pointer (some ⟨f.g, 0, none⟩) ∧ ∃ g' cap', u1 = .slice (some ⟨g', 0, none⟩) (q.length + M) cap' ∧ w'.ownsRow 0 5 1 (.slice (some ⟨g', 0, none⟩) (q.length + M) cap') (q ++ List.replicate M 0).length ((q ++ List.replicate M 0).map u8) ∧ Kept [g0] W2 w' ∧ (g' = g0 ∨ W2.heap.size ≤ g'))
    (fun u0 u1 u2 u3 w' => u3 = .pointer (some ⟨f.g, 1, none⟩) ∧ ∃ g' cap', u1 = .slice (some ⟨g', 0, none⟩) (q.length + M) cap' ∧ w'.ownsRow 0 5 1 (.slice (some ⟨g', 0, none⟩) (q.length + M) cap') (q ++ List.replicate M 0).length ((q ++ List.replicate M 0).map u8) ∧ Kept [g0] W2 w' ∧ (g' = g0 ∨ W2.heap.size ≤ g'))
    (fun u0 u1 u2 u3 w' => ∃ g' cap' w4, w' = w4.setCell ⟨f.g, 1, none⟩ (.slice (some ⟨g', 0, none⟩) (q.length + M) cap') ∧ w4.ownsRow 0 5 1 (.slice (some ⟨g', 0, none⟩) (q.length + M) cap') (q ++ List.replicate M 0).length ((q ++ List.replicate M 0).map u8) ∧ Kept [g0] W2 w4 ∧ (g' = g0 ∨ W2.heap.size ≤ g'))
    (by simp only [Act.put, List.setIfInBounds_toArray, List.set_cons_zero, List.set_cons_succ]; rfl) (by exact Or.inl ⟨by rfl, fun W' hW' => by go_simp⟩)
    (by simp only [Act.put, List.setIfInBounds_toArray, List.set_cons_zero, List.set_cons_succ]; rfl) (by exact Or.inl ⟨by rfl, fun W' hW' => by go_simp⟩)
    (by simp only [Act.put, List.setIfInBounds_toArray, List.set_cons_zero, List.set_cons_succ]; rfl) (by exact Or.inl ⟨by rfl, fun W' hW' => by go_simp⟩)
    (by simp only [Act.put, List.setIfInBounds_toArray, List.set_cons_zero, List.set_cons_succ]; rfl) (by exact Or.inl ⟨by rfl, fun W' hW' => by go_simp⟩)
    (by simp only [Act.put, List.setIfInBounds_toArray, List.set_cons_zero, List.set_cons_succ]; rfl) (by exact Or.inl ⟨by rfl, fun W' hW' => by have h9 := hW'.cell c1 (by simpa using unhide HGB); go_simp⟩)
    (by simp only [Act.put, List.setIfInBounds_toArray, List.set_cons_zero, List.set_cons_succ]; rfl) (by exact Or.inl ⟨by rfl, fun W' hW' => by go_simp⟩)
    (by simp only [Act.put, List.setIfInBounds_toArray, List.set_cons_zero, List.set_cons_succ]; rfl) (by exact Or.inl ⟨by rfl, fun W' hW' => by go_simp⟩)
    (by simp only [Act.put, List.setIfInBounds_toArray, List.set_cons_zero, List.set_cons_succ]; rfl) (by exact Or.inl ⟨by rfl, fun W' hW' => by go_simp⟩)
    (by simp only [Act.put, List.setIfInBounds_toArray, List.set_cons_zero, List.set_cons_succ]; rfl) (by exact Or.inl ⟨by rfl, fun W' hW' => by have h9 := hW'.cell c2 (by simpa using unhide HGB); go_simp⟩)
    (by simp only [Act.put, List.setIfInBounds_toArray, List.set_cons_zero, List.set_cons_succ]; rfl) (by exact Or.inl ⟨by rfl, fun W' hW' => by go_simp⟩)
    (Kept.refl [] W2).drew
    ⟨fun w' h => h.mono (by simp), fun u0 w' h => h.2.mono (by simp), fun u0 u1 w' h => by obtain ⟨g', cap', _, _, h3, _⟩ := h; exact h3, fun u0 u1 u2 w' h => by obtain ⟨_, g', cap', _, _, h3, _⟩ := h; exact h3, fun u0 u1 u2 u3 w' h => by obtain ⟨_, g', cap', _, _, h3, _⟩ := h; exact h3⟩
    (by
      intro w' i K hK
      refine wp_callN rfl Try.call78 [.int .i64 ((f.sy : Int) + k), .int .i64 sec] rfl (unhide HTS w') ?_
      rintro e w2 ⟨rfl, rfl⟩
      exact ⟨_, rfl, hK _ _ ⟨rfl, i⟩⟩)
    (by
      rintro u0 w' ⟨rfl, i⟩ K hK
      obtain ⟨g', cap', w1, hrun, h2, h3, h4⟩ := appendZ w' g0 cap M q (i.owns (unhide HOQ) (by simp)) (unhide HML) (by omega)
      refine wp_appendZ rfl rfl (v := .slice (some ⟨g0, 0, none⟩) q.length cap) (u := .int .i64 M) (by rw [unhide HQL]; rfl) rfl hrun (hK _ _ ⟨g', cap', rfl, h2, (i.mono (by simp)).trans h3 (fun x hx => .inl hx), ?_⟩)
      rcases h4 with h4 | h4
      · exact .inl h4
      · exact .inr (by have := i.size; omega))
    (by rintro u0 u1 w' ⟨g', cap', rfl, r⟩ K hK; unfold Oper.wp execOp; go_simp; exact hK _ _ ⟨rfl, g', cap', rfl, r⟩)
    (by rintro u0 u1 u2 w' ⟨rfl, g', cap', rfl, r⟩ K hK; unfold Oper.wp execOp; go_simp; exact hK _ _ ⟨rfl, g', cap', rfl, r⟩)
    (by
      rintro u0 u1 u2 u3 w' ⟨rfl, g', cap', rfl, r1, r2, r3⟩ K hK
      have hg4 := r2.heap (unhide HG2) (by simpa using unhide HGB)
      have c41 := cell_of_row _ _ 1 _ _ _ hg4
      simp at c41
      have hz41 := frozen_of_row _ _ 1 _ _ hg4
      unfold Oper.wp execOp
      go_simp
      exact hK _ ⟨g', cap', w', rfl, r1, r2, r3⟩)
    ?_
  rintro u0 u1 u2 u3 _ ⟨g', cap', w4, rfl, A1, A2, A3⟩
  simp only [Act.put, List.setIfInBounds_toArray, List.set_cons_zero, List.set_cons_succ]
  have HG4 := hide (A2.heap (unhide HG2) (by simpa using unhide HGB))
  have HG5 := hide (heap_setCell_same _ _ 1 _ _ (.slice (some ⟨g', 0, none⟩) (q.length + M) cap') (unhide HG4))
  have c51 := cell_of_row _ _ 1 _ _ _ (unhide HG5)
  have c52 := cell_of_row _ _ 2 _ _ _ (unhide HG5)
  simp at c51 c52
  have hz52 := frozen_of_row _ _ 2 _ _ (unhide HG5)
  have HA1 := hide A1
  have HA2 := hide A2
  have HA3 := hide A3
  clear A1 A2 A3 c1 c2 HTS
  obtain ⟨W5, hW5⟩ : ∃ W, w4.setCell ⟨f.g, 1, none⟩ (.slice (some ⟨g', 0, none⟩) (q.length + M) cap') = W := ⟨_, rfl⟩
  rw [hW5] at c51 c52 hz52 ⊢
  have HW5 := hide hW5
  clear hW5
  go_wp2_with fail
  rw [← unhide HW5]
  have hfile := unhide HFL
  have hbv : blk f.v = [g0] := by rw [hv]; rfl
  have kA : Kept [f.g, g0] w w4 := (((unhide HK0).mono (by simp)).trans (unhide HK2) (by intro x hx; simp at hx; simp [hx])).trans (unhide HA2) (by intro x hx; simp at hx; simp [hx])
  have kB : Kept [f.g] w4 ((w4.setCell ⟨f.g, 1, none⟩ (.slice (some ⟨g', 0, none⟩) (q.length + M) cap')).setCell ⟨f.g, 2, none⟩ (.int .i64 ((q.length : Int) + M))) := (((Kept.refl [f.g] w4).setCell (p := ⟨f.g, 1, none⟩) (.inl (by simp)) _).setCell (p := ⟨f.g, 2, none⟩) (.inl (by simp)) _)
  have hsz : w.heap.size ≤ W2.heap.size := Nat.le_trans (unhide HK0).size (unhide HK2).size
  rw [unhide HM, unhide HQ]
  refine bodyPost_end (v := .tuple #[]) (results_none rfl _ _ _) rfl ⟨.slice (some ⟨g', 0, none⟩) (q.length + M) cap', rfl, ⟨?_, kB.owns (unhide HA1) ?_, ?_, ?_⟩, ?_, ?_⟩
  · have : ((f.sy + k + M : Nat) : Int) = (q.length : Int) + M := by rw [unhide HQL]; omega
    rw [this]
    exact heap_setCell_same _ _ 2 _ _ _ (heap_setCell_same _ _ 1 _ _ _ (unhide HG4))
  · intro x hx
    obtain ⟨cs, hc⟩ := owns_cells (unhide HA1) (own_blk hx)
    simpa using cells_ne hc (unhide HG4) (by decide)
  · intro x hx
    rw [List.mem_append] at hx
    rcases hx with hx | hx
    · exact unhide HQB x hx
    · rw [List.eq_of_mem_replicate hx]; omega
  · show f.sy + k + M ≤ (q ++ List.replicate M 0).length
    rw [List.length_append, List.length_replicate, unhide HQL]
    omega
  · rw [hbv]
    exact kA.trans kB (by intro x hx; simp at hx; simp [hx])
  · intro x hx
    simp only [blk, List.mem_singleton] at hx
    subst hx
    rw [hbv]
    rcases unhide HA3 with h1 | h1
    · exact .inl (by simp [h1])
    · exact .inr (by omega)
end Go.Proofs.Ytlopdlcepmmjdaa
