import Derived.Test.YtbljofojeagdkaaDoorMT6
import Derived.Test.YtbljofojeagdkaaDoorQPu12
import Derived.Test.YtbljofojeagdkaaDoorQPu19
import Derived.Test.YtbljofojeagdkaaDoorQPu26
import Derived.Test.YtbljofojeagdkaaDoorQWp
namespace Go.Proofs.YtbljofojeagdkaaDoor
open Go.RowKit Go.BigFrame
set_option linter.unusedVariables false
set_option linter.unusedSimpArgs false

theorem wp_appendT {P : Program} {o : Oper} {a : Act} {w : World} {K : Act → World → Prop} {Q : Exit → Act → World → Prop} {s x : Operand} {t : TypeId} (ho : o.op = .call { callee := .builtin .append, args := #[s, x], argTypes := #[t, t] }) (hty : o.type = t) {v u r : Value} {w1 : World} (hs : a.eval s = v) (hx : a.eval x = u)
    (hrun : (Builtin.append_ #[t, t] t #[v, u]).run P w = .ok r w1) (hK : K (a.put o.dst r) w1) : o.wp P a w K Q := by
  unfold Oper.wp execOp
  simp only [ho, hty, resolve, invoke, builtin, Sem.run_bind, Sem.run_pure, Result.andThen_ok, List.map_toArray, List.map_cons, List.map_nil, hs, hx, hrun]
  exact hK

theorem size_part : (Tryd.prog.info? 87).map (·.size) = some 33 := by kernel_rfl
theorem zP_size : zP.size = 33 := rfl
theorem z87_size : (Tryd.zeroCells109).size = 66 := by kernel_rfl
theorem pair_fold (x y : List Value) (hx : x.length = 33) (hy : y.length = 33) : List.foldl (fun cs x => cs.setIfInBounds (33 + x.snd) x.fst) (List.foldl (fun cs x => cs.setIfInBounds x.snd x.fst) Tryd.zeroCells109 x.zipIdx) y.zipIdx = (x ++ y).toArray := by
  have h1 := fold_put x Tryd.zeroCells109 0 0 (by rw [z87_size]; omega)
  simp only [Nat.zero_add] at h1
  rw [h1, List.take_zero, List.nil_append]
  have h2 := fold_put y (x ++ List.drop x.length Tryd.zeroCells109.toList).toArray 33 0 (by simp [z87_size]; omega)
  rw [h2]
  simp only [Nat.add_zero]
  congr 1
  rw [List.take_append_of_le_length (by omega), List.take_of_length_le (by omega), List.drop_eq_nil_of_le (by simp [z87_size]; omega), List.append_nil]
theorem build_partL (leaf : List Nat) (hl : leaf.length = 32) : List.foldl (fun cs x => cs.setIfInBounds x.snd x.fst) zP (leaf.map u8).zipIdx = (partC leaf (.pointer none)).toArray := by
  have h := fold_put (leaf.map u8) zP 0 0 (by rw [zP_size]; simp [hl])
  simp only [Nat.zero_add] at h
  rw [h, List.length_map, hl, List.take_zero, List.nil_append]
  unfold partC
  rfl
theorem build_part (leaf : List Nat) (hl : leaf.length = 32) : Array.foldl (fun cs x => cs.setIfInBounds x.snd x.fst) zP (brow leaf).zipIdx 0 32 = (partC leaf (.pointer none)).toArray := by
  have hs : (brow leaf).zipIdx.size = 32 := by rw [Array.size_zipIdx, brow_size, hl]
  rw [← build_partL leaf hl]
  conv => lhs; rw [← hs]
  rw [← Array.foldl_toList, Array.toList_zipIdx]
  rfl
theorem part_fold (s : List Nat) (k : Value) (hs : s.length = 32) : (Array.foldl (fun cs x => cs.setIfInBounds x.snd x.fst) zP (brow s).zipIdx 0 32).setIfInBounds 32 k = (partC s k).toArray := by
  rw [build_part s hs]
  apply Array.toList_inj.1
  simp [partC, List.set_append, hs]
theorem build_one (s : List Nat) (k : Value) (hs : s.length = 32) : List.foldl (fun cs x => cs.setIfInBounds x.snd x.fst) zP (partC s k).zipIdx = (partC s k).toArray := by
  have h := fold_put (partC s k) zP 0 0 (by rw [zP_size, partC_len hs]; omega)
  simp only [Nat.zero_add] at h
  rw [h, partC_len hs, List.take_zero, List.nil_append, List.drop_eq_nil_of_le (by show 33 ≤ 33; omega), List.append_nil]

theorem built_part (s : List Nat) (k : Value) (hs : s.length = 32) (hk : k.cells = #[k]) : Tryd.prog.built 87 [(0, .agg (brow s)), (1, k)] = some (partC s k).toArray := by
  obtain ⟨i0, hi, hz0, hz1, hz2⟩ := info_parts Tryd.infoP
  have hb : (brow s).size = 32 := by rw [brow_size, hs]
  have h2 := part_fold s k hs
  have h3 := build_part s hs
  have h4 : (partC s (Value.pointer none)).toArray.size = 33 := by rw [List.size_toArray, partC_len hs]
  have hpl : (fun (f : Array Field) => f.toList.mapM (fun f => (Tryd.prog.info? f.type).map fun i => (f.offset, i.size))) <$> (match Tryd.prog.underlying 87 with | some (.struct fs) => some fs | _ => none) = some (some [(0, 32), (32, 1)]) := by kernel_rfl
  unfold Program.built
  rw [hi]
  cases hu : Tryd.prog.underlying 87 with
  | none => rw [hu] at hpl; simp at hpl
  | some u =>
    rw [hu] at hpl
    cases u <;> simp at hpl
    simp only [hz0, hpl]
    have e1 : (Value.agg zP).cells = zP := rfl
    have e2 : (Value.agg (brow s)).cells = brow s := rfl
    have e3 : ¬ ((brow s).size ≠ 32 || decide (0 + (brow s).size > zP.size)) = true := by rw [hb, zP_size]; decide
    have e4 : Array.foldl (fun cs x => cs.setIfInBounds (0 + x.snd) x.fst) zP (brow s).zipIdx 0 (brow s).zipIdx.size = (partC s (Value.pointer none)).toArray := by
      rw [← h3]; simp only [Nat.zero_add, Array.size_zipIdx, hb]
    rw [e1, Instr.fill]
    simp only [List.getElem?_toArray, List.getElem?_cons_zero, List.getElem?_cons_succ, e2]
    rw [if_neg e3]
    rw [h3] at h2
    have e5 : ¬ ((#[k] : Array Value).size ≠ 1 || decide (32 + (#[k] : Array Value).size > (partC s (Value.pointer none)).toArray.size)) = true := by rw [h4]; simp
    rw [e4, Instr.fill]
    simp only [List.getElem?_cons_zero, List.getElem?_cons_succ, hk]
    rw [if_neg e5, Instr.fill]
    exact congrArg some h2
theorem wp_build_part {o : Oper} {a : Act} {w : World} {K : Act → World → Prop} {Q : Exit → Act → World → Prop} (x y : Operand) (ho : o.op = .build 87 #[(0, x), (1, y)]) (s : List Nat) (k : Value) (hs : s.length = 32) (hk : k.cells = #[k]) (hx : a.eval x = .agg (brow s)) (hy : a.eval y = k) (h : K (a.put o.dst (.agg (partC s k).toArray)) w) : o.wp Tryd.prog a w K Q := by
  have hb := built_part s k hs hk
  refine wp_build _ _ ho ?_ ?_
  · simp only [List.map_toArray, List.map_cons, List.map_nil, hx, hy]; rw [hb]; rfl
  · simp only [List.map_toArray, List.map_cons, List.map_nil, hx, hy]; rw [hb]; exact h
set_option maxRecDepth 100000 in
theorem wp_store_t2 {o : Oper} {a : Act} {w : World} {K : Act → World → Prop} {Q : Exit → Act → World → Prop} (x y : Operand) (ho : o.op = .store 81 x y) (t : Nat) (u : Value) (cs : Array Value) (hu : ∃ a1 n1 c1, u = .slice a1 n1 c1) (hx : a.eval x = .pointer (some ⟨t, 2, none⟩)) (hy : a.eval y = u) (hq : w.heap[t]? = some (.cells cs 83 (0, 0))) (hcs : 2 < cs.size) (h : K (a.put o.dst undef) (w.setCell ⟨t, 2, none⟩ u)) : o.wp Tryd.prog a w K Q := by
  obtain ⟨a1, n1, c1, rfl⟩ := hu
  have hsz : ∃ c, w.cell? ⟨t, 2, none⟩ = some c := by rw [cell_of_row _ _ 2 _ _ _ hq]; exact ⟨_, Array.getElem?_eq_getElem hcs⟩
  obtain ⟨c0, cq9⟩ := hsz
  have fz9 : w.frozen? ⟨t, 2, none⟩ = false := by simp [World.frozen?, hq]
  unfold Oper.wp execOp
  simp only [ho, hx, hy]
  go_simp
  exact h
theorem range_rowV {w : World} {g T : Nat} {l : List Value} (h : w.heap[g]? = some (.cells l.toArray T (0, 0))) : w.rangeAt g 0 l := by
  intro j v hj
  have h1 := cell_of_row w g j _ _ _ h
  rw [Nat.zero_add, h1]
  simpa using hj
theorem range_part {w : World} {g : Nat} {s : List Nat} {k : Value} (h : w.rangeAt g 0 (partC s k)) : w.rangeAt g 0 (s.map u8) := by
  intro j v hj
  refine h j v ?_
  unfold partC
  rw [List.getElem?_append_left (List.getElem?_eq_some_iff.1 hj).1]
  exact hj
theorem owns_front {w : World} {base g1 cap1 j : Nat} {front2 : List Pk} {pa top : Pk} (h : w.ownsRow base 87 33 (.slice (some ⟨g1, 0, none⟩) ((front2 ++ [pa]).length + 1) cap1) ((front2 ++ [pa]).length + 1) (cellsK (front2 ++ [pa] ++ [top]))) (hj : front2.length = j) (h1 : pa.s.length = 32) (h2 : top.s.length = 32) (hd : ∀ p ∈ front2, p.s.length = 32) : w.ownsRow base 87 33 (.slice (some ⟨g1, 0, none⟩) j cap1) j (cellsK front2) := by
  have h9 := ownsK_take h j (by simp; omega)
  have e : (cellsK (front2 ++ [pa] ++ [top])).take (j * 33) = cellsK front2 := by
    rw [cellsK_app, cellsK_app, List.append_assoc, List.take_left' (by rw [cellsK_len' hd, hj])]
  rw [e] at h9
  exact h9

end Go.Proofs.YtbljofojeagdkaaDoor
