import Derived.Test.YtckkalmhekfnhabGreatDoorTopC
import Derived.Test.YtckkalmhekfnhabGreatDoorEFits
import Derived.Test.YtckkalmhekfnhabGreatDoorTopB
import Derived.Deep.Cut
import Derived.Shelf.Strconv.Itoa1
import Derived.Shelf.LaysM
import Derived.Shelf.Strconv.Itoa2
import Derived.Shelf.Pu.ParseUintPublic10
import Derived.Shelf.Pu.ErrVarParseUint
import Derived.Test.YtckkalmhekfnhabGreatDoorProg
import Derived.Test.YtckkalmhekfnhabGreatDoorSNum
import Derived.Lib.ItoaNum
import Derived.Test.YtckkalmhekfnhabGreatDoorTSame
import Derived.Lib.AppendIntMem
import Derived.Lib.ParseIntBCases
import Derived.Test.YtckkalmhekfnhabGreatDoorTopA
namespace Go.Proofs.YtckkalmhekfnhabGreatDoor
open Go.RowKit Go.BigFrame
set_option linter.unusedVariables false
set_option linter.unusedSimpArgs false

theorem Tryz.size_rhead : (Tryz.prog.info? 47).map (·.size) = some 4 := by kernel_rfl
theorem results_cell {P : Program} {fn : Func} {p : Tmp} {ty : TypeId} (h : fn.results = #[.cell p ty]) (tmps : Array Value) (w : World) (g : Nat) (t : TypeId) (cs : Array Value) (fr : Nat × Nat) (d : TypeDesc)
    (hp : tmps.getD p undef = .pointer (some ⟨g, 0, none⟩)) (hg : w.heap[g]? = some (.cells cs t fr))
    (hu : P.underlying ty = some d) (hd : (match d with | .struct _ | .array _ _ => true | _ => false) = true) (hi : (P.info? ty).map (·.size) = some cs.size) :
    (results fn tmps).run P w = .ok (.agg cs) w := by
  have hp' : tmps[p]?.getD undef = .pointer (some ⟨g, 0, none⟩) := by simpa using hp
  simp [results, h, hp', asAddr, run_loadVar_row w g t ty cs fr d hg hu hd hi]
set_option maxRecDepth 100000 in
set_option maxHeartbeats 2000000 in
theorem sdoc_any (a b c : Nat) (z : Int) (w : World) : Calls Tryz.prog 42 #[.agg #[.int .u64 a, .int .u64 b, .int .u64 c, .int .i64 z]] w fun e w' => e = .returned (.agg #[.int .u64 a, .int .u64 b, .int .u64 c, .int .i64 z]) ∧ Kept [] w w' := by
  have HB0 := hide (((Kept.refl [] (w.alloc (.cells #[.int .u64 (a : Int), .int .u64 (b : Int), .int .u64 (c : Int), .int .i64 z] 33))).alloc (.cells #[.int .u64 0, .int .u64 0, .int .u64 0, .int .i64 0] 47)).heap (heap_alloc_new w (.cells #[.int .u64 (a : Int), .int .u64 (b : Int), .int .u64 (c : Int), .int .i64 z] 33)) (by simp))
  have HZ0 := hide (alloc_at w (.cells #[.int .u64 (a : Int), .int .u64 (b : Int), .int .u64 (c : Int), .int .i64 z] 33) (.cells #[.int .u64 0, .int .u64 0, .int .u64 0, .int .i64 0] 47))
  have HK0 := hide (((Kept.refl [] w).alloc (.cells #[.int .u64 (a : Int), .int .u64 (b : Int), .int .u64 (c : Int), .int .i64 z] 33)).alloc (.cells #[.int .u64 0, .int .u64 0, .int .u64 0, .int .i64 0] 47))
  obtain ⟨d0, d1, d2, d3⟩ := hcells (unhide HB0)
  obtain ⟨x0, x1, x2, x3⟩ := hcells (unhide HZ0)
  obtain ⟨f0, f1, f2, f3⟩ := hfroz (unhide HZ0)
  go_enter Tryz.func42, Tryz.ntmps42
  go_wp2
  refine bodyPost_ret (v := .agg #[.int .u64 (a : Int), .int .u64 (b : Int), .int .u64 (c : Int), .int .i64 z]) ?_ rfl ⟨rfl, ((Kept.refl [] w).alloc _).alloc _⟩
  exact results_cell rfl _ _ (w.heap.size + 1) _ #[.int .u64 (a : Int), .int .u64 (b : Int), .int .u64 (c : Int), .int .i64 z] (0, 0) _ rfl (alloc_at w _ _) Tryz.underlying47 rfl Tryz.size_rhead

end Go.Proofs.YtckkalmhekfnhabGreatDoor
namespace Go.Proofs.YtckkalmhekfnhabGreatDoor
open Go.RowKit Go.BigFrame
set_option linter.unusedVariables false
set_option linter.unusedSimpArgs false

/-- Entries that are owned, their lists old (below A) or in memory of their own. -/
structure OwnM (A : Nat) (L : List Nat) (w0 w : World) (v : Value) (ts : List (En × Value × Value)) : Prop where
  own : w.ownsRow w0.heap.size 44 3 v ts.length (cellsN ts)
  ok : ∀ t ∈ ts, OkE w t.1 t.2.1 t.2.2
  apart : ∀ t ∈ ts, ∀ b, b ∈ nblk t.2.1 t.1.key ∨ b ∈ nblk t.2.2 t.1.val → v.ownBlock ≠ some b ∧ (b < A ∨ w0.heap.size ≤ b)
  kept : Kept L w0 w
theorem OwnM.start {A : Nat} {L : List Nat} {w0 w : World} (k : Kept L w0 w) : OwnM A L w0 w (.slice none 0 0) [] := ⟨World.ownsRow_nil _ _ _ _, by simp, by simp, k⟩
theorem OwnM.mono {A : Nat} {L M : List Nat} {w0 w : World} {v : Value} {ts : List (En × Value × Value)} (h : OwnM A L w0 w v ts) (hM : ∀ x ∈ L, x ∈ M) : OwnM A M w0 w v ts := ⟨h.own, h.ok, h.apart, h.kept.mono hM⟩
theorem OwnM.pass {A : Nat} {L M : List Nat} {w0 w w' : World} {v : Value} {ts : List (En × Value × Value)} (h : OwnM A L w0 w v ts) (k : Kept M w w') (hM : ∀ x ∈ M, x ∈ L ∨ w0.heap.size ≤ x) (ho : ∀ x ∈ M, v.ownBlock ≠ some x) (he : ∀ x ∈ M, ∀ t ∈ ts, x ∉ nblk t.2.1 t.1.key ∧ x ∉ nblk t.2.2 t.1.val) : OwnM A L w0 w' v ts :=
  ⟨k.owns h.own (fun g hg hm => ho g hm hg), fun t ht => ⟨(h.ok t ht).k, (h.ok t ht).key.keptN k (fun x hx hm => (he x hm t ht).1 hx), (h.ok t ht).val.keptN k (fun x hx hm => (he x hm t ht).2 hx)⟩, h.apart, h.kept.trans k hM⟩
theorem OwnM.push {A : Nat} {L : List Nat} {w0 w W : World} {v : Value} {ts : List (En × Value × Value)} (h : OwnM A L w0 w v ts) {e : En} {y z : Value} (hy : OkE w e y z) (hn : ∀ b, b ∈ nblk y e.key ∨ b ∈ nblk z e.val → v.ownBlock ≠ some b ∧ (b < A ∨ w0.heap.size ≤ b)) {g cap : Nat}
    (o : W.ownsRow w0.heap.size 44 3 (.slice (some ⟨g, 0, none⟩) (ts.length + 1) cap) (ts.length + 1) (cellsN ts ++ [.int .u8 (e.k : Int), y, z])) (gr : w.grownBy W v.ownBlock) (hg : v.ownBlock = some g ∨ g = w.heap.size) :
    OwnM A L w0 W (.slice (some ⟨g, 0, none⟩) (ts.length + 1) cap) (ts ++ [(e, y, z)]) := by
  have kW : Kept v.ownBlock.toList w W := ((Kept.refl _ w)).grown gr (by intro k hk; left; simp [hk])
  have kW0 : Kept L w0 W := h.kept.grown gr (by intro k hk; right; exact (h.own.lt k hk).1)
  have key : ∀ t ∈ ts ++ [(e, y, z)], OkE w t.1 t.2.1 t.2.2 ∧ ∀ b, b ∈ nblk t.2.1 t.1.key ∨ b ∈ nblk t.2.2 t.1.val → v.ownBlock ≠ some b ∧ (b < A ∨ w0.heap.size ≤ b) := by
    intro t ht
    rcases List.mem_append.1 ht with ht | ht
    · exact ⟨h.ok t ht, h.apart t ht⟩
    · rw [List.mem_singleton] at ht; subst ht; exact ⟨hy, hn⟩
  refine ⟨?_, fun t ht => ?_, fun t ht b hb => ⟨fun e' => ?_, ((key t ht).2 b hb).2⟩, kW0⟩
  · rw [cellsN_app, List.length_append]; exact o
  · exact ⟨(key t ht).1.k, (key t ht).1.key.keptN kW (fun b hb hm => ((key t ht).2 b (Or.inl hb)).1 (by simpa using hm)), (key t ht).1.val.keptN kW (fun b hb hm => ((key t ht).2 b (Or.inr hb)).1 (by simpa using hm))⟩
  · simp only [Value.ownBlock, Option.some.injEq] at e'
    subst e'
    rcases hg with hg | hg
    · exact ((key t ht).2 _ hb).1 hg
    · have h9 : g < w.heap.size := by
        rcases hb with hb | hb
        · exact (key t ht).1.key.ltN g hb
        · exact (key t ht).1.val.ltN g hb
      omega

theorem OwnM.stay {A : Nat} {L M : List Nat} {w0 w w' : World} {v : Value} {ts : List (En × Value × Value)} (h : OwnM A L w0 w v ts) (k : Kept M w w') (hM : ∀ x ∈ M, A ≤ x ∧ (x < w0.heap.size ∨ w.heap.size ≤ x)) : RdN w' v (ts.map (·.1)) := by
  refine rdN_own (base := w0.heap.size) (k.owns h.own (fun g hg hm => ?_)) (fun t ht => ⟨(h.ok t ht).k, (h.ok t ht).key.keptN k (fun x hx hm => ?_), (h.ok t ht).val.keptN k (fun x hx hm => ?_)⟩)
  · have h1 := h.own.lt g hg
    have h2 := hM g hm
    omega
  · have h1 := (h.apart t ht x (Or.inl hx)).2
    have h2 := hM x hm
    have h3 := (h.ok t ht).key.ltN x hx
    omega
  · have h1 := (h.apart t ht x (Or.inr hx)).2
    have h2 := hM x hm
    have h3 := (h.ok t ht).val.ltN x hx
    omega
theorem own_ne {w : World} {base : Nat} {e t : TypeId} {s n b : Nat} {v : Value} {xs : List Value} {cs : Array Value} {fr : Nat × Nat} (h : w.ownsRow base e s v n xs) (hb : w.heap[b]? = some (.cells cs t fr)) (hne : e ≠ t) : v.ownBlock ≠ some b := by
  intro e'
  rcases h.2 with ⟨rfl, _⟩ | ⟨g, cap, cur, rfl, _, hg, _⟩
  · simp [Value.ownBlock] at e'
  · simp only [Value.ownBlock, Option.some.injEq] at e'
    subst e'
    rw [hb] at hg
    simp at hg
    first | exact hne hg.2.1.symm | exact hne hg.2.symm
theorem not_nblk {w : World} {v y : Value} {bs : List Nat} {b x : Nat} {t : TypeId} {fr : Nat × Nat} (h : Rd w v bs) (hb : w.heap[b]? = some (.cells #[.int .u64 (x : Int), y] t fr)) : b ∉ nblk v bs ∨ ∃ z, y = .int .u8 z := by
  by_cases hy : ∃ z, y = .int .u8 z
  · exact Or.inr hy
  refine Or.inl fun hm => ?_
  obtain ⟨h1, h2⟩ := mem_nblk hm
  obtain ⟨ao, len, cap, rfl, h3, _, _, _, _, h6⟩ := h
  obtain ⟨b', off, rfl, hc⟩ := h6 (by rw [← h3]; exact List.length_pos_iff.2 h2)
  simp only [blk, List.mem_singleton] at h1
  subst h1
  have h9 := hc 0 (by rw [← h3]; exact List.length_pos_iff.2 h2)
  rw [cell_of_row _ _ _ _ _ _ hb] at h9
  rcases (by omega : off + 0 = 0 ∨ off + 0 = 1 ∨ 2 ≤ off + 0) with e | e | e
  · rw [e] at h9; simp [u8] at h9
  · rw [e] at h9; simp [u8] at h9; exact hy ⟨_, h9⟩
  · rw [Array.getElem?_eq_none (by simpa using e)] at h9; simp at h9
theorem not_nblkS {w : World} {v : Value} {bs : List Nat} {b x : Nat} {t : TypeId} {fr : Nat × Nat} {a : Option Addr} {n c : Nat} (h : Rd w v bs) (hb : w.heap[b]? = some (.cells #[.int .u64 (x : Int), .slice a n c] t fr)) : b ∉ nblk v bs := by
  rcases not_nblk h hb with h | ⟨z, h⟩
  · exact h
  · cases h
theorem not_nblkZ {w : World} {v : Value} {bs : List Nat} {b : Nat} {t : TypeId} {fr : Nat × Nat} {a : Option Addr} {n c : Nat} (h : Rd w v bs) (hb : w.heap[b]? = some (.cells #[.int .u64 0, .slice a n c] t fr)) : b ∉ nblk v bs := not_nblkS (x := 0) h hb
theorem putB_heap {w : World} {g : Nat} {a b : Value} {t : TypeId} (h : w.heap[g]? = some (.cells #[a, b] t (0, 0))) (x y : Value) : ((w.setCell ⟨g, 0, none⟩ x).setCell ⟨g, 1, none⟩ y).heap[g]? = some (.cells #[x, y] t (0, 0)) := by
  rw [heap_setCell_same _ g 1 _ t _ (heap_setCell_same w g 0 _ t _ h)]; rfl
/-- The entries of notarytop's batch. -/
def btE (f : Nat) (e : En) (m : Nat) : List En := fitE e :: (List.range m).map fun i => ⟨1, [i], [f % 256, i]⟩
theorem btE_len (f : Nat) (e : En) (m : Nat) : (btE f e m).length = m + 1 := by simp [btE]
theorem btE_snoc (f : Nat) (e : En) (m : Nat) : btE f e (m + 1) = btE f e m ++ [⟨1, [m], [f % 256, m]⟩] := by simp [btE, List.range_succ]
theorem btE_byN {f : Nat} {e : En} {m : Nat} (hm : m ≤ 64) (he : (fitE e).k < 256 ∧ (∀ x ∈ (fitE e).key, x < 256) ∧ ∀ x ∈ (fitE e).val, x < 256) : ∀ x ∈ btE f e m, x.k < 256 ∧ (∀ y ∈ x.key, y < 256) ∧ ∀ y ∈ x.val, y < 256 := by
  intro x hx
  rcases List.mem_cons.1 hx with rfl | hx
  · exact he
  · simp only [List.mem_map, List.mem_range] at hx
    obtain ⟨i, hi, rfl⟩ := hx
    refine ⟨by show (1 : Nat) < 256; decide, fun y hy => ?_, fun y hy => ?_⟩
    · simp at hy; omega
    · simp at hy; omega
theorem btE_chk (f : Nat) (e : En) (m : Nat) : ∀ x ∈ btE f e m, chkE x = 0 := by
  intro x hx
  rcases List.mem_cons.1 hx with rfl | hx
  · exact fitE_ok e
  · simp only [List.mem_map, List.mem_range] at hx
    obtain ⟨i, hi, rfl⟩ := hx
    simp [chkE]
theorem Tryz.size_tpart : (Tryz.prog.info? 68).map (·.size) = some 4 := by kernel_rfl

set_option maxRecDepth 100000 in
set_option maxHeartbeats 4000000 in
theorem tbatch_any (f c : Nat) (e : En) (kv vv : Value) (wA w : World) (hf : f < 18446744073709551616) (hc : c < 256) (hkA : Kept [] wA w) (h : OkE wA e kv vv) :
    Calls Tryz.prog 24 #[.int .u64 f, .agg #[.int .u8 c, .int .u8 e.k, kv, vv]] w fun r w' => ∃ bv, r = .returned (.agg #[.int .u64 f, bv]) ∧ (∀ M w2, Kept M w' w2 → (∀ x ∈ M, wA.heap.size ≤ x ∧ (x < w.heap.size ∨ w'.heap.size ≤ x)) → RdN w2 bv (btE f e (c % 64))) ∧ Kept [] w w' := by
  have H := hide h
  have HKA := hide hkA
  obtain ⟨a1, n1, c1, hu1, _⟩ := id h.key
  subst hu1
  obtain ⟨a2, n2, c2, hu2, _⟩ := id h.val
  subst hu2
  clear h hkA
  obtain ⟨m, hm⟩ : ∃ m, c % 64 = m := ⟨_, rfl⟩
  have hm64 : m < 64 := by omega
  have hmi : (c : Int) % 64 = (m : Int) := by omega
  have hcw : IntKind.i64.wrap (c : Int) = c := by simp [IntKind.wrap, IntKind.signed, IntKind.bits]; omega
  obtain ⟨F, hF⟩ : ∃ F, f % 256 = F := ⟨_, rfl⟩
  have hFw : IntKind.u8.wrap (f : Int) = (F : Int) := by rw [IntKind.wrap_u8']; omega
  have hF256 : F < 256 := by omega
  have HF := hide hF
  rw [hm]
  clear hm hF hc
  have HP0 := hide (((Kept.refl [] (w.alloc (.cells #[.int .u8 (c : Int), .int .u8 (e.k : Int), .slice a1 n1 c1, .slice a2 n2 c2] 68))).alloc (.cells #[.int .u64 0, .slice none 0 0] 37)).heap (heap_alloc_new w (.cells #[.int .u8 (c : Int), .int .u8 (e.k : Int), .slice a1 n1 c1, .slice a2 n2 c2] 68)) (by simp))
  have HZ0 := hide (alloc_at w (.cells #[.int .u8 (c : Int), .int .u8 (e.k : Int), .slice a1 n1 c1, .slice a2 n2 c2] 68) (.cells #[.int .u64 0, .slice none 0 0] 37))
  have HK0 := hide (((Kept.refl [] w).alloc (.cells #[.int .u8 (c : Int), .int .u8 (e.k : Int), .slice a1 n1 c1, .slice a2 n2 c2] 68)).alloc (.cells #[.int .u64 0, .slice none 0 0] 37))
  obtain ⟨W0, hW0⟩ : ∃ W, (w.alloc (.cells #[.int .u8 (c : Int), .int .u8 (e.k : Int), .slice a1 n1 c1, .slice a2 n2 c2] 68)).alloc (.cells #[.int .u64 0, .slice none 0 0] 37) = W := ⟨_, rfl⟩
  rw [hW0] at HP0 HZ0 HK0
  have HW0 := hide hW0
  clear hW0
  obtain ⟨d0, d1, d2, d3⟩ := hcells (unhide HP0)
  rw [← unhide HW0] at d0 d1 d2 d3
  go_enter Tryz.func24, Tryz.ntmps24
  go_wp2_with fail
  rw [unhide HW0]
  clear d0 d1 d2 d3
  refine Calls.mono (fits_any e _ _ W0 ((unhide H).old ((unhide HKA).trans (unhide HK0) (by simp)))) ?_
  rintro r w1 ⟨kv', vv', rfl, hfit, k1⟩
  have HO := hide (hfit wA (unhide H))
  clear hfit
  obtain ⟨a3, n3, c3, hu3, _⟩ := id (unhide HO).key
  subst hu3
  obtain ⟨a4, n4, c4, hu4, _⟩ := id (unhide HO).val
  subst hu4
  obtain ⟨E, hE⟩ : ∃ E, fitE e = E := ⟨_, rfl⟩
  rw [hE] at HO ⊢
  have HE := hide hE
  clear hE
  have HP1 := hide (k1.heap (unhide HP0) (by simp))
  have HZ1 := hide (k1.heap (unhide HZ0) (by simp))
  have HK1 := hide ((unhide HK0).trans k1 (by simp))
  clear k1 HP0 HZ0 HK0 HW0
  unfold enC
  have KA := hide ((Kept.refl [] w1).alloc (.cells #[.int .u8 (E.k : Int), .slice a3 n3 c3, .slice a4 n4 c4] 44))
  have HR1 := hide (heap_alloc_new w1 (.cells #[.int .u8 (E.k : Int), .slice a3 n3 c3, .slice a4 n4 c4] 44))
  obtain ⟨W1, hW1⟩ : ∃ W, w1.alloc (.cells #[.int .u8 (E.k : Int), .slice a3 n3 c3, .slice a4 n4 c4] 44) = W := ⟨_, rfl⟩
  have HS1 := hide (by rw [← hW1]; simp : W1.heap.size = w1.heap.size + 1)
  rw [hW1] at KA HR1
  have HW1 := hide hW1
  clear hW1
  have KB := hide ((Kept.refl [] W1).alloc (.cells #[.int .u64 (f : Int), .slice (some ⟨w1.heap.size, 0, none⟩) 1 1] 37))
  have HB2 := hide (by rw [← unhide HS1]; exact heap_alloc_new W1 (.cells #[.int .u64 (f : Int), .slice (some ⟨w1.heap.size, 0, none⟩) 1 1] 37) : (W1.alloc (.cells #[.int .u64 (f : Int), .slice (some ⟨w1.heap.size, 0, none⟩) 1 1] 37)).heap[w1.heap.size + 1]? = some (.cells #[.int .u64 (f : Int), .slice (some ⟨w1.heap.size, 0, none⟩) 1 1] 37 (0, 0)))
  have HSZ := hide (by have := lt_of_block (unhide HZ1); omega : w.heap.size + 1 < w1.heap.size)
  go_wp2_with fail
  rw [unhide HW1]
  have HP2 := hide ((unhide KB).heap ((unhide KA).heap (unhide HP1) (by simp)) (by simp))
  have HZ2 := hide ((unhide KB).heap ((unhide KA).heap (unhide HZ1) (by simp)) (by simp))
  have HR2 := hide ((unhide KB).heap (unhide HR1) (by simp))
  have HK2 := hide (((unhide HK1).trans (unhide KA) (by simp)).trans (unhide KB) (by simp))
  obtain ⟨W2, hW2⟩ : ∃ W, W1.alloc (.cells #[.int .u64 (f : Int), .slice (some ⟨w1.heap.size, 0, none⟩) 1 1] 37) = W := ⟨_, rfl⟩
  rw [hW2] at HP2 HZ2 HR2 HK2 HB2 ⊢
  have HS2 := hide (by rw [← hW2]; simp [unhide HS1] : W2.heap.size = w1.heap.size + 1 + 1)
  clear hW2 KA KB HP1 HZ1 HR1 HK1 HW1
  have HM0 := hide (by
    have hok : OkE W2 E (.slice a3 n3 c3) (.slice a4 n4 c4) := (unhide HO).old ((unhide HKA).trans (unhide HK2) (by simp))
    refine ⟨⟨rfl, Or.inr ⟨w1.heap.size, 1, _, rfl, ?_, unhide HR2, Nat.le_refl _, by unfold maxLen; omega, rfl, rfl⟩⟩, fun t ht => ?_, fun t ht b hb => ?_, unhide HK2⟩
    · have := unhide HSZ; omega
    · rw [List.mem_singleton] at ht; subst ht; exact hok
    · rw [List.mem_singleton] at ht
      subst ht
      have hlt : b < wA.heap.size := by
        rcases hb with hb | hb
        · exact (unhide HO).key.ltN b hb
        · exact (unhide HO).val.ltN b hb
      refine ⟨fun e' => ?_, Or.inl hlt⟩
      simp only [Value.ownBlock, Option.some.injEq] at e'
      have := (unhide HKA).size
      have := unhide HSZ
      omega : OwnM wA.heap.size [] w W2 (.slice (some ⟨w1.heap.size, 0, none⟩) 1 1) [(E, .slice a3 n3 c3, .slice a4 n4 c4)])
  go_loopw [6] (fun t6 wr => ∃ (i : Nat) (bv : Value) (ts : List (En × Value × Value)), i ≤ m ∧ t6 = .int .i64 (i : Int) ∧ Hid (ts.map (·.1) = btE f e i ∧ ts.length = i + 1) ∧ Hid (wr.heap[w1.heap.size + 1]? = some (.cells #[.int .u64 (f : Int), bv] 37 (0, 0))) ∧ Hid (wr.heap[w.heap.size]? = some (.cells #[.int .u8 (c : Int), .int .u8 (e.k : Int), .slice a1 n1 c1, .slice a2 n2 c2] 68 (0, 0))) ∧ Hid (wr.heap[w.heap.size + 1]? = some (.cells #[.int .u64 0, .slice none 0 0] 37 (0, 0))) ∧ Hid (OwnM wA.heap.size [] w wr bv ts)) (fun t _ => m - (intOf t).toNat)
  case atStart => exact ⟨0, .slice (some ⟨w1.heap.size, 0, none⟩) 1 1, [(E, .slice a3 n3 c3, .slice a4 n4 c4)], Nat.zero_le _, rfl, hide ⟨by rw [← unhide HE]; rfl, rfl⟩, HB2, HP2, HZ2, HM0⟩
  case round =>
    obtain ⟨i, bv, ts, hi, rfl, HTS, HB, HP, HZ, HM⟩ := hrel
    obtain ⟨d0, d1, d2, d3⟩ := hcells (unhide HP)
    by_cases hlt : i < m
    · have hlt' : (i : Int) < (m : Int) := by omega
      have hiw : IntKind.u8.wrap (i : Int) = (i : Int) := by rw [IntKind.wrap_u8']; omega
      have hwz : wr.heap.size = wr.heap.size := rfl
      obtain ⟨av, nv, cv, rfl⟩ : ∃ a n c, bv = .slice a n c := by
        rcases (unhide HM).own.2 with ⟨rfl, _⟩ | ⟨g, cap, cur, rfl, _⟩
        · exact ⟨_, _, _, rfl⟩
        · exact ⟨_, _, _, rfl⟩
      have K3 := (((Kept.refl [] wr).alloc (.cells #[.int .u8 (i : Int)] 5)).alloc (.cells #[.int .u8 (F : Int), .int .u8 (i : Int)] 5)).alloc (.cells #[.int .u8 1, .slice (some ⟨wr.heap.size, 0, none⟩) 1 1, .slice (some ⟨wr.heap.size + 1, 0, none⟩) 2 2] 44)
      have h3 := heap_alloc3e wr (.cells #[.int .u8 (i : Int)] 5) (.cells #[.int .u8 (F : Int), .int .u8 (i : Int)] 5) (.cells #[.int .u8 1, .slice (some ⟨wr.heap.size, 0, none⟩) 1 1, .slice (some ⟨wr.heap.size + 1, 0, none⟩) 2 2] 44)
      have HK3 := hide K3
      have HN1 := hide (rd_row [i] h3.1 rfl (by intro x hx; rw [List.mem_singleton] at hx; omega) 1 rfl (by omega))
      have HN2 := hide (rd_row [F, i] h3.2.1 rfl (by intro x hx; simp at hx; omega) 2 rfl (by omega))
      have HN3 := hide h3.2.2
      have HM3 := hide ((unhide HM).pass (M := []) K3 (by simp) (by simp) (by simp))
      have HB3 := hide (K3.heap (unhide HB) (by simp))
      have HP3 := hide (K3.heap (unhide HP) (by simp))
      have HZ3 := hide (K3.heap (unhide HZ) (by simp))
      have HLT := hide (fun b hb => ((unhide HM).own.lt b hb) : ∀ b, (Value.slice av nv cv).ownBlock = some b → w.heap.size ≤ b ∧ b < wr.heap.size)
      have HSW := hide ((unhide HM).kept.size)
      clear K3 h3
      obtain ⟨e0, e1⟩ := bcells (unhide HB3)
      obtain ⟨W3, hW3⟩ : ∃ W, ((wr.alloc (.cells #[.int .u8 (i : Int)] 5)).alloc (.cells #[.int .u8 (F : Int), .int .u8 (i : Int)] 5)).alloc (.cells #[.int .u8 1, .slice (some ⟨wr.heap.size, 0, none⟩) 1 1, .slice (some ⟨wr.heap.size + 1, 0, none⟩) 2 2] 44) = W := ⟨_, rfl⟩
      have HS3 := hide (by rw [← hW3]; simp : W3.heap.size = wr.heap.size + 1 + 1 + 1)
      have g0 : wr.cell? ⟨w1.heap.size + 1, 1, none⟩ = some (.slice av nv cv) := (bcells (unhide HB)).2
      clear e0 e1
      have HAP := hide (fun b (hb : (Value.slice av nv cv).ownBlock = some b) => (by have := unhide HLT b hb; omega : b ≠ wr.heap.size ∧ b ≠ wr.heap.size + 1 ∧ b ≠ wr.heap.size + 1 + 1))
      rw [hW3] at HK3 HN1 HN2 HN3 HM3 HB3 HP3 HZ3
      have HW3 := hide hW3
      clear hW3
      go_upto_region 4 with (at_builtin; rw [unhide HW3]; refine wpList_pushN rfl (.tmp 22) (.tmp 32) rfl rfl _ w.heap.size (.slice av nv cv) ts ⟨1, [i], [F, i]⟩ (.slice (some ⟨wr.heap.size, 0, none⟩) 1 1) (.slice (some ⟨wr.heap.size + 1, 0, none⟩) 2 2) (wr.heap.size + 1 + 1) (unhide HM3).own (unhide HN3) rfl rfl (by have := (unhide HTS).2; omega) (unhide HM3).kept.size rfl rfl ?_; intro g cap w4 HO4 HG4 HA4; (have HK4 := hide ((Kept.refl ((Value.slice av nv cv).ownBlock.toList) W3).grown (unhide HG4) (by intro k hk; left; simp [hk]))); (have HQ4 := hide ((unhide HK4).heap (unhide HB3) (by intro hm; exact own_ne (unhide HM3).own (unhide HB3) (by decide) (by simpa using hm)))); (obtain ⟨q0, q1⟩ := bcells (unhide HQ4)); (obtain ⟨r0, r1⟩ := bfroz (unhide HQ4)))
      have HQ5 := hide (heap_setCell_same w4 (w1.heap.size + 1) 1 _ 37 (.slice (some ⟨g, 0, none⟩) (ts.length + 1) cap) (unhide HQ4))
      have HK5 := hide ((Kept.refl [w1.heap.size + 1] w4).setCell (p := ⟨w1.heap.size + 1, 1, none⟩) (Or.inl (by simp)) (.slice (some ⟨g, 0, none⟩) (ts.length + 1) cap))
      have HP4 := hide ((unhide HK4).heap (unhide HP3) (by intro hm; exact own_ne (unhide HM3).own (unhide HP3) (by decide) (by simpa using hm)))
      have HZ4 := hide ((unhide HK4).heap (unhide HZ3) (by intro hm; exact own_ne (unhide HM3).own (unhide HZ3) (by decide) (by simpa using hm)))
      have HM4 := hide ((unhide HM3).push (e := ⟨1, [i], [F, i]⟩) ⟨by show (1 : Nat) < 256; decide, unhide HN1, unhide HN2⟩ (fun b hb => by
        have hb2 : b = wr.heap.size ∨ b = wr.heap.size + 1 := by
          rcases hb with hb | hb
          · have := (mem_nblk hb).1; simp [blk] at this; exact Or.inl this
          · have := (mem_nblk hb).1; simp [blk] at this; exact Or.inr this
        refine ⟨fun e' => ?_, Or.inr (by have := unhide HSW; omega)⟩
        have := unhide HAP b e'
        omega) (unhide HO4) (unhide HG4) (unhide HA4))
      have HM5 := hide ((unhide HM4).pass (unhide HK5) (fun x hx => Or.inr (by rw [List.mem_singleton] at hx; have := unhide HSZ; omega)) (fun x hx => by rw [List.mem_singleton] at hx; subst hx; exact own_ne (unhide HM4).own (unhide HQ4) (by decide)) (fun x hx t ht => by rw [List.mem_singleton] at hx; subst hx; exact ⟨not_nblkS ((unhide HM4).ok t ht).key (unhide HQ4), not_nblkS ((unhide HM4).ok t ht).val (unhide HQ4)⟩))
      have HP5 := hide ((unhide HK5).heap (unhide HP4) (by intro hm; have := List.mem_singleton.1 hm; have := unhide HSZ; omega))
      have HZ5 := hide ((unhide HK5).heap (unhide HZ4) (by intro hm; have := List.mem_singleton.1 hm; have := unhide HSZ; omega))
      clear q0 q1 r0 r1 g0 d0 d1 d2 d3 HO4 HG4 HA4 HK4 HQ4 HP4 HZ4 HM4 HM3 HB3 HP3 HZ3 HN1 HN2 HN3 HW3
      generalize w4.setCell ⟨w1.heap.size + 1, 1, none⟩ (.slice (some ⟨g, 0, none⟩) (ts.length + 1) cap) = W5 at HQ5 HK5 HM5 HP5 HZ5 ⊢
      go_wp2
      go_roundw
      case rel => exact ⟨i + 1, .slice (some ⟨g, 0, none⟩) (ts.length + 1) cap, ts ++ [(⟨1, [i], [F, i]⟩, .slice (some ⟨wr.heap.size, 0, none⟩) 1 1, .slice (some ⟨wr.heap.size + 1, 0, none⟩) 2 2)], by omega, by simp, hide ⟨by rw [List.map_append, (unhide HTS).1, btE_snoc, unhide HF]; rfl, by rw [List.length_append, (unhide HTS).2]; rfl⟩, HQ5, HP5, HZ5, HM5⟩
      case measure => simp [intOf]; omega
    · have hlt' : ¬ (i : Int) < (m : Int) := by omega
      obtain rfl : i = m := by omega
      obtain ⟨av, nv, cv, rfl⟩ : ∃ a n c, bv = .slice a n c := by
        rcases (unhide HM).own.2 with ⟨rfl, _⟩ | ⟨g, cap, cur, rfl, _⟩
        · exact ⟨_, _, _, rfl⟩
        · exact ⟨_, _, _, rfl⟩
      obtain ⟨q0, q1⟩ := bcells (unhide HB)
      obtain ⟨z0, z1⟩ := bcells (unhide HZ)
      obtain ⟨r0, r1⟩ := bfroz (unhide HZ)
      have HK9 := hide (((Kept.refl [w.heap.size + 1] wr).setCell (p := ⟨w.heap.size + 1, 0, none⟩) (Or.inl (by simp)) (.int .u64 (f : Int))).setCell (p := ⟨w.heap.size + 1, 1, none⟩) (Or.inl (by simp)) (.slice av nv cv))
      have HKW := hide (((unhide HM).kept.setCell (p := ⟨w.heap.size + 1, 0, none⟩) (Or.inr (by show w.heap.size ≤ w.heap.size + 1; omega)) (.int .u64 (f : Int))).setCell (p := ⟨w.heap.size + 1, 1, none⟩) (Or.inr (by show w.heap.size ≤ w.heap.size + 1; omega)) (.slice av nv cv))
      have HM9 := hide ((unhide HM).pass (unhide HK9) (fun x hx => Or.inr (by rw [List.mem_singleton] at hx; omega)) (fun x hx => by rw [List.mem_singleton] at hx; subst hx; exact own_ne (unhide HM).own (unhide HZ) (by decide)) (fun x hx t ht => by rw [List.mem_singleton] at hx; subst hx; exact ⟨not_nblkZ ((unhide HM).ok t ht).key (unhide HZ), not_nblkZ ((unhide HM).ok t ht).val (unhide HZ)⟩))
      have HR9 := hide (putB_heap (unhide HZ) (.int .u64 (f : Int)) (.slice av nv cv))
      go_wp2
      generalize (wr.setCell ⟨w.heap.size + 1, 0, none⟩ (.int .u64 (f : Int))).setCell ⟨w.heap.size + 1, 1, none⟩ (.slice av nv cv) = W9 at HK9 HKW HM9 HR9 ⊢
      refine bodyPost_ret (v := .agg #[.int .u64 (f : Int), .slice av nv cv]) ?_ rfl ⟨.slice av nv cv, rfl, fun M w2 k2 hM => by rw [← (unhide HTS).1]; exact (unhide HM9).stay k2 hM, unhide HKW⟩
      exact results_cell rfl _ _ (w.heap.size + 1) _ #[.int .u64 (f : Int), .slice av nv cv] (0, 0) _ rfl (unhide HR9) Tryz.underlying37 rfl Tryz.size_batch9
end Go.Proofs.YtckkalmhekfnhabGreatDoor
namespace Go.Proofs.YtckkalmhekfnhabGreatDoor
open Go.RowKit Go.BigFrame
set_option linter.unusedVariables false
set_option linter.unusedSimpArgs false

theorem RdN.shapeN {w : World} {v : Value} {es : List En} (h : RdN w v es) : ∃ ao c, v = .slice ao es.length c ∧ es.length ≤ c ∧ c ≤ 9223372036854775807 := by
  obtain ⟨ao, len, cap, kv, vv, h1, h2, h3, h4, h5, h6⟩ := h
  subst h2
  exact ⟨ao, cap, h1, h3, h4⟩
theorem RdN.at {w : World} {ao : Option Addr} {n c : Nat} {es : List En} (h : RdN w (.slice ao n c) es) (i : Nat) (hi : i < es.length) : ∃ b off kv vv, ao = some ⟨b, off, none⟩ ∧ OkE w es[i] kv vv ∧ w.rangeAt b (off + i * 3) [.int .u8 (es[i].k : Int), kv, vv] := by
  obtain ⟨ao', len, cap, kv, vv, h1, h2, h3, h4, h5, h6⟩ := h
  cases h1
  obtain ⟨b, off, rfl, hc⟩ := h6 (by omega)
  exact ⟨b, off, kv i, vv i, rfl, h5 i hi, hc i hi⟩

set_option maxRecDepth 100000 in
set_option maxHeartbeats 4000000 in
theorem tsameBatch_any (f : Nat) (u v : Value) (es : List En) (w : World) (hu : RdN w u es) (hv : RdN w v es) :
    Calls Tryz.prog 26 #[.agg #[.int .u64 f, u], .agg #[.int .u64 f, v]] w fun e w' => e = .returned (.bool true) ∧ Kept [] w w' := by
  have HS := hide hu
  have HA := hide hv
  obtain ⟨aS, cs, rfl, hcs1, hcs2⟩ := hu.shapeN
  obtain ⟨aa, ca, rfl, hca1, hca2⟩ := hv.shapeN
  clear hu hv
  obtain ⟨k, hk⟩ : ∃ k, es.length = k := ⟨_, rfl⟩
  have HBl := hide hk
  rw [hk] at hcs1 hca1 HS HA ⊢
  clear hk
  have HQ0 := hide (((Kept.refl [] (w.alloc (.cells #[.int .u64 (f : Int), .slice aS k cs] 37))).alloc (.cells #[.int .u64 (f : Int), .slice aa k ca] 37)).heap (heap_alloc_new w (.cells #[.int .u64 (f : Int), .slice aS k cs] 37)) (by simp))
  have HH0 := hide (alloc_at w (.cells #[.int .u64 (f : Int), .slice aS k cs] 37) (.cells #[.int .u64 (f : Int), .slice aa k ca] 37))
  have HK0 := hide (((Kept.refl [] w).alloc (.cells #[.int .u64 (f : Int), .slice aS k cs] 37)).alloc (.cells #[.int .u64 (f : Int), .slice aa k ca] 37))
  obtain ⟨W0, hW0⟩ : ∃ W, (w.alloc (.cells #[.int .u64 (f : Int), .slice aS k cs] 37)).alloc (.cells #[.int .u64 (f : Int), .slice aa k ca] 37) = W := ⟨_, rfl⟩
  rw [hW0] at HQ0 HH0 HK0
  have HW0 := hide hW0
  clear hW0
  obtain ⟨d0, d1⟩ := bcells (unhide HQ0)
  obtain ⟨e0, e1⟩ := bcells (unhide HH0)
  rw [← unhide HW0] at d0 d1 e0 e1
  go_enter Tryz.func26, Tryz.ntmps26
  go_wp2_with fail
  rw [unhide HW0]
  clear d0 d1 e0 e1
  go_loopw [5] (fun t5 wr => ∃ i : Nat, t5 = .int .i64 (i : Int) ∧ i ≤ k ∧ Hid (Kept [] W0 wr)) (fun t _ => k - (intOf t).toNat)
  case atStart => exact ⟨0, rfl, Nat.zero_le _, hide (Kept.refl _ _)⟩
  case round =>
    obtain ⟨i, rfl, hi, HKr⟩ := hrel
    have hsr := (unhide HKr).cell (bcells (unhide HQ0)).2 (by simp)
    have HSr := hide hsr
    have HTr := hide ((unhide HKr).cell (bcells (unhide HH0)).2 (by simp))
    have HKw := hide ((unhide HK0).trans (unhide HKr) (by simp))
    by_cases hik : i < k
    · have hlt : (i : Int) < (k : Int) := by omega
      obtain ⟨b1, o1, k1, v1, h1, ok1, rg1⟩ := ((unhide HS).old (unhide HKw)).at i (by rw [unhide HBl]; exact hik)
      obtain ⟨b2, o2, k2, v2, h2, ok2, rg2⟩ := ((unhide HA).old (unhide HKw)).at i (by rw [unhide HBl]; exact hik)
      subst h1
      subst h2
      generalize es[i]'(by rw [unhide HBl]; exact hik) = t at ok1 rg1 ok2 rg2
      have HG1 := hide rg1
      have HG2 := hide rg2
      have HY := hide (fun w' (kk : Kept [] wr w') => (tsameEntry_any t t k1 v1 k2 v2 w' (ok1.old kk) (ok2.old kk)).mono (fun e w2 (h2 : _ ∧ _) => (⟨h2.1, kk.trans h2.2 (by simp)⟩ : _ ∧ Kept [] wr w2)))
      rw [show (decide (t = t)) = true by simp] at HY
      clear ok1 ok2 rg1 rg2
      go_upto_region 6 with fail
      clear hsr
      have hnp : ∀ p : Prop, (∀ w', Kept [] wr w' → p) = p := fun p => propext ⟨fun h => h wr (Kept.refl [] wr), fun h _ _ => h⟩
      refine wp_region_keep (by kernel_rfl) (by kernel_rfl) ?_
      iterate 1 (go_big_quiet_step (fail))
      refine wpQuiet_val rfl (.slice (some ⟨b1, o1, none⟩) k cs) (fun w' hw' => run_loadS 35 _ rfl ⟨w.heap.size, 1, none⟩ rfl w' _ _ Tryz.underlying35 (hw'.cell (unhide HSr) (by simp))) ?_
      simp only [Act.put, List.setIfInBounds_toArray, List.set_cons_succ, List.set_cons_zero]
      iterate 2 (go_big_quiet_step (fail))
      refine wpQuiet_mid rfl 44 _ rfl b1 (o1 + i * 3) rfl [.int .u8 (t.k : Int), k1, v1] _ (fun w' hw' => rangeE_kept (unhide HG1) hw' (by simp)) Tryz.underlying44 rfl Tryz.size_entry ?_
      simp only [Act.put, List.setIfInBounds_toArray, List.set_cons_succ, List.set_cons_zero]
      iterate 1 (go_big_quiet_step (fail))
      refine wpQuiet_val rfl (.slice (some ⟨b2, o2, none⟩) k ca) (fun w' hw' => run_loadS 35 _ rfl ⟨w.heap.size + 1, 1, none⟩ rfl w' _ _ Tryz.underlying35 (hw'.cell (unhide HTr) (by simp))) ?_
      simp only [Act.put, List.setIfInBounds_toArray, List.set_cons_succ, List.set_cons_zero]
      iterate 2 (go_big_quiet_step (fail))
      refine wpQuiet_mid rfl 44 _ rfl b2 (o2 + i * 3) rfl [.int .u8 (t.k : Int), k2, v2] _ (fun w' hw' => rangeE_kept (unhide HG2) hw' (by simp)) Tryz.underlying44 rfl Tryz.size_entry ?_
      simp only [Act.put, List.setIfInBounds_toArray, List.set_cons_succ, List.set_cons_zero]
      go_big_quiet_want
      go_big_quiet_op
      apply Exists.intro
      refine ⟨fun w' hw' => ?_, ?_⟩
      · exact unhide HY w' hw'
      go_big_quiet_on
      repeat (go_big_quiet_step (fail))
      refine wpQuiet_nil ?_
      intro w7 hw7
      have HK7 := hide ((unhide HKr).trans hw7 (by simp))
      clear hw7 hnp
      go_wp2
      go_roundw
      case rel => exact ⟨i + 1, by simp, by omega, HK7⟩
      case measure => simp [intOf]; omega
    · have hlt : ¬ (i : Int) < (k : Int) := by omega
      go_wp2
      go_ret
      exact ⟨rfl, unhide HKw⟩
end Go.Proofs.YtckkalmhekfnhabGreatDoor
namespace Go.Proofs.YtckkalmhekfnhabGreatDoor
open Go.RowKit Go.BigFrame
set_option linter.unusedVariables false
set_option linter.unusedSimpArgs false

def endS : Nat → List (List En) → Nat
  | i, [] => i
  | i, es :: r => endS ((i + es.length) % 18446744073709551616) r
theorem numS_len : ∀ (i : Nat) (L : List (List En)), (numS i L).length = L.length
  | _, [] => rfl
  | i, es :: r => by rw [numS, List.length_cons, numS_len _ r, List.length_cons]
theorem runS_len_ge : ∀ (i : Nat) (L : List (List En)), okS i L = true → L.length ≤ (runS (numS i L)).length
  | _, [], _ => by simp
  | i, es :: r, h => by
    rw [okS, Bool.and_eq_true, decide_eq_true_eq] at h
    have := runS_len_ge _ r h.2
    rw [numS, runS_cons, List.length_append, sbB_len h.1, List.length_cons]
    omega
theorem runS_len_le : ∀ (i : Nat) (L : List (List En)), i < 18446744073709551616 → okS i L = true → (runS (numS i L)).length ≤ 30018 * L.length
  | _, [], _, _ => by simp [numS, runS]
  | i, es :: r, hi, h => by
    rw [okS, Bool.and_eq_true, decide_eq_true_eq] at h
    have := runS_len_le _ r (by omega) h.2
    have := batB_lenS h.1 hi
    rw [numS, runS_cons, List.length_append, sbB_len h.1, List.length_cons]
    omega
/-- What was laid is read. -/
theorem rdL_run : ∀ (L : List (List En)) (i g : Nat) (A r : List Nat), i < 18446744073709551616 → okS i L = true → (∀ es ∈ L, byN es) →
    rdL (L.length + g) (A ++ (runS (numS i L) ++ r)) A.length i = (numS i L ++ (rdL g (A ++ (runS (numS i L) ++ r)) (A.length + (runS (numS i L)).length) (endS i L)).1, (rdL g (A ++ (runS (numS i L) ++ r)) (A.length + (runS (numS i L)).length) (endS i L)).2)
  | [], i, g, A, r, _, _, _ => by simp [numS, runS, endS]
  | es :: L, i, g, A, r, hi, h, hb => by
    rw [okS, Bool.and_eq_true, decide_eq_true_eq] at h
    obtain ⟨r1, r2, r3⟩ := rb_laid A (runS (numS ((i + es.length) % 18446744073709551616) L) ++ r) h.1 hi (hb es (by simp))
    have hp : A ++ (runS (numS i (es :: L)) ++ r) = A ++ (sbB i es ++ (runS (numS ((i + es.length) % 18446744073709551616) L) ++ r)) := by rw [numS, runS_cons, List.append_assoc]
    have hp2 : A ++ (sbB i es ++ (runS (numS ((i + es.length) % 18446744073709551616) L) ++ r)) = (A ++ sbB i es) ++ (runS (numS ((i + es.length) % 18446744073709551616) L) ++ r) := by rw [List.append_assoc]
    have ih := rdL_run L ((i + es.length) % 18446744073709551616) g (A ++ sbB i es) r (by omega) h.2 (fun x hx => hb x (by simp [hx]))
    rw [← hp2, List.length_append] at ih
    rw [hp, List.length_cons, show L.length + 1 + g = (L.length + g) + 1 by omega, rdL_yes r1, r2, r3, Int.toNat_natCast, ih]
    rw [numS, runS_cons, List.length_append, endS]
    simp [Nat.add_assoc]
theorem rdL_bounds {p : List Nat} (hb : ∀ x ∈ p, x < 256) : ∀ (g n i : Nat), n ≤ p.length → n ≤ (rdL g p n i).2 ∧ (rdL g p n i).2 ≤ p.length
  | 0, n, i, h => ⟨Nat.le_refl _, h⟩
  | g + 1, n, i, h => by
    by_cases hr : rbOk p n i = true
    · obtain ⟨m, hm, h1, h2⟩ := rb_next hb hr
      have := rdL_bounds hb g m ((i + (rbE p n i).length) % 18446744073709551616) h2
      rw [rdL_yes hr, hm, Int.toNat_natCast]
      exact ⟨by simp only; omega, this.2⟩
    · rw [Bool.not_eq_true] at hr
      rw [rdL_no hr]
      exact ⟨Nat.le_refl _, h⟩
/-- A whole segment, with anything behind it. -/
theorem seg_run {a b c : Nat} {z : Int} {L : List (List En)} (r : List Nat) (ha : a < 18446744073709551616) (hb : b < 18446744073709551616) (hc : c < 18446744073709551616) (hz : wideB z = true) (hk : okS c L = true) (hy : ∀ es ∈ L, byN es) :
    hdC (ehB a b c z ++ (runS (numS c L) ++ r)) = ⟨a, b, c, z.toNat⟩ ∧ sgE (ehB a b c z ++ (runS (numS c L) ++ r)) = 0 ∧ ∃ R g, sgB (ehB a b c z ++ (runS (numS c L) ++ r)) = numS c L ++ R ∧
      (R, sgU (ehB a b c z ++ (runS (numS c L) ++ r))) = rdL g (ehB a b c z ++ (runS (numS c L) ++ r)) (48 + (runS (numS c L)).length) (endS c L) := by
  have h1 := hdF_laid ha hb hc hz (runS (numS c L) ++ r)
  have hX : hdC (ehB a b c z ++ (runS (numS c L) ++ r)) = ⟨a, b, c, z.toNat⟩ := by unfold hdC; rw [h1]; rfl
  have hl : (ehB a b c z ++ (runS (numS c L) ++ r)).length = L.length + ((ehB a b c z ++ (runS (numS c L) ++ r)).length - L.length) := by
    have := runS_len_ge c L hk
    rw [List.length_append, List.length_append]
    omega
  have hr := rdL_run L c ((ehB a b c z ++ (runS (numS c L) ++ r)).length - L.length) (ehB a b c z) r hc hk hy
  rw [← hl, ehB_len hz] at hr
  refine ⟨hX, by unfold sgE; rw [h1]; rfl, (rdL ((ehB a b c z ++ (runS (numS c L) ++ r)).length - L.length) (ehB a b c z ++ (runS (numS c L) ++ r)) (48 + (runS (numS c L)).length) (endS c L)).1, (ehB a b c z ++ (runS (numS c L) ++ r)).length - L.length, ?_, ?_⟩
  · unfold sgB; rw [h1, hX]; simp only [Option.isSome_some, if_true]; rw [hr]
  · unfold sgU; rw [h1, hX]; simp only [Option.isSome_some, if_true]; rw [hr]
theorem seg_whole {a b c : Nat} {z : Int} {L : List (List En)} (ha : a < 18446744073709551616) (hb : b < 18446744073709551616) (hc : c < 18446744073709551616) (hz : wideB z = true) (hk : okS c L = true) (hy : ∀ es ∈ L, byN es) :
    hdC (ehB a b c z ++ runS (numS c L)) = ⟨a, b, c, z.toNat⟩ ∧ sgE (ehB a b c z ++ runS (numS c L)) = 0 ∧ sgB (ehB a b c z ++ runS (numS c L)) = numS c L ∧ sgU (ehB a b c z ++ runS (numS c L)) = 48 + (runS (numS c L)).length := by
  obtain ⟨h1, h2, R, g, h3, h4⟩ := seg_run [] ha hb hc hz hk hy
  rw [List.append_nil] at h1 h2 h3 h4
  have hl : 48 + (runS (numS c L)).length = (ehB a b c z ++ runS (numS c L)).length := by rw [List.length_append, ehB_len hz]
  have h5 : rdL g (ehB a b c z ++ runS (numS c L)) (ehB a b c z ++ runS (numS c L)).length (endS c L) = ([], (ehB a b c z ++ runS (numS c L)).length) := rdL_no (rb_end _ _)
  rw [hl, h5] at h4
  obtain ⟨rfl, h6⟩ := Prod.mk.inj h4
  exact ⟨h1, h2, by rw [h3, List.append_nil], by rw [h6, hl]⟩
theorem RdB.byN {w : World} {v : Value} {bs : List (Nat × List En)} (h : RdB w v bs) : ∀ es ∈ bs.map (·.2), byN es := by
  obtain ⟨ao, cap, ts, _, h2, _, _, h5, _⟩ := h
  intro es he
  rw [h2] at he
  simp only [List.map_map, List.mem_map] at he
  obtain ⟨t, ht, rfl⟩ := he
  exact (h5 t ht).byN
theorem atS_last : ∀ (n : Nat) (D : List (Nat × List En)), (n :: atS n D)[D.length]? = some (n + (runS D).length)
  | n, [] => by simp [runS]
  | n, t :: D => by
    rw [atS, List.length_cons, List.getElem?_cons_succ, atS_last _ D, runS_cons, List.length_append]
    simp [Nat.add_assoc]
end Go.Proofs.YtckkalmhekfnhabGreatDoor
namespace Go.Proofs.YtckkalmhekfnhabGreatDoor
open Go.RowKit Go.BigFrame
set_option linter.unusedVariables false
set_option linter.unusedSimpArgs false

/-- WholeSegment's batches: of each part (its count, its entry) the batch from the next index on. -/
def wsL : Nat → List (Nat × En) → List (Nat × List En)
  | _, [] => []
  | i, p :: r => (i, btE i p.2 (p.1 % 64)) :: wsL ((i + (p.1 % 64 + 1)) % 18446744073709551616) r
theorem wsL_len : ∀ (i : Nat) (ps : List (Nat × En)), (wsL i ps).length = ps.length
  | _, [] => rfl
  | i, p :: r => by rw [wsL, List.length_cons, wsL_len _ r, List.length_cons]
theorem wsL_num : ∀ (i : Nat) (ps : List (Nat × En)), numS i ((wsL i ps).map (·.2)) = wsL i ps
  | _, [] => rfl
  | i, p :: r => by
    rw [wsL, List.map_cons, numS]
    simp only [btE_len]
    rw [wsL_num _ r]
theorem chk_fold (es : List En) (h : ∀ x ∈ es, chkE x = 0) : ∀ a, es.foldl (fun a e => leastE a (chkE e)) a = es.foldl (fun a _ => leastE a 0) a := by
  induction es with
  | nil => intro a; rfl
  | cons x r ih => intro a; rw [List.foldl_cons, List.foldl_cons, h x (by simp)]; exact ih (fun y hy => h y (by simp [hy])) _
theorem chk_zero (es : List En) : es.foldl (fun a _ => leastE a 0) 0 = 0 := by
  induction es with
  | nil => rfl
  | cons x r ih => rw [List.foldl_cons]; exact ih
theorem bt_ok {f : Nat} {e : En} {m : Nat} (hm : m < 64) (hf : f + 64 ≤ 18446744073709551615) : chkB f (btE f e m) = 0 := by
  unfold chkB
  rw [chk_fold _ (btE_chk f e m), btE_len]
  have h1 : cntE f (m + 1) = 0 := by
    unfold cntE
    rw [if_neg (by omega), if_neg (by omega)]
  rw [h1]
  exact chk_zero _
theorem wsL_ok : ∀ (ps : List (Nat × En)) (i : Nat), i + 64 * ps.length + 64 ≤ 18446744073709551615 → okS i ((wsL i ps).map (·.2)) = true
  | [], _, _ => rfl
  | p :: r, i, h => by
    rw [List.length_cons] at h
    have hm : p.1 % 64 < 64 := Nat.mod_lt _ (by omega)
    rw [wsL, List.map_cons, okS, bt_ok hm (by omega)]
    have h1 : (i + (btE i p.2 (p.1 % 64)).length) % 18446744073709551616 = (i + (p.1 % 64 + 1)) % 18446744073709551616 := by rw [btE_len]
    simp only [decide_true, Bool.true_and, h1]
    have h2 : (i + (p.1 % 64 + 1)) % 18446744073709551616 = i + (p.1 % 64 + 1) := Nat.mod_eq_of_lt (by omega)
    rw [h2]
    exact wsL_ok r _ (by omega)
theorem wsL_by : ∀ (ps : List (Nat × En)) (i : Nat), (∀ p ∈ ps, (fitE p.2).k < 256 ∧ (∀ x ∈ (fitE p.2).key, x < 256) ∧ ∀ x ∈ (fitE p.2).val, x < 256) → ∀ es ∈ (wsL i ps).map (·.2), byN es
  | [], _, _, es, hes => by simp [wsL] at hes
  | p :: r, i, h, es, hes => by
    rw [wsL, List.map_cons] at hes
    rcases List.mem_cons.1 hes with rfl | hes
    · exact btE_byN (by have : p.1 % 64 < 64 := Nat.mod_lt _ (by omega); omega) (h p (by simp))
    · exact wsL_by r _ (fun q hq => h q (by simp [hq])) es hes
/-- The slice value v reads as these parts. -/
def RdT (w : World) (v : Value) (ps : List (Nat × En)) : Prop :=
  ∃ (ao : Option Addr) (cap : Nat) (ts : List (Nat × En × Value × Value)), v = .slice ao ts.length cap ∧ ps = ts.map (fun t => (t.1, t.2.1)) ∧ ts.length ≤ cap ∧ cap ≤ 9223372036854775807 ∧ (∀ t ∈ ts, t.1 < 256 ∧ OkE w t.2.1 t.2.2.1 t.2.2.2) ∧
    (0 < ts.length → ∃ b off, ao = some ⟨b, off, none⟩ ∧ ∀ i (h : i < ts.length), w.rangeAt b (off + i * 4) [.int .u8 (ts[i].1 : Int), .int .u8 (ts[i].2.1.k : Int), ts[i].2.2.1, ts[i].2.2.2])
/-- Three owned rows: the bytes, the batches, the places; each batch with memory of its own or old (below A). -/
structure LaW (A : Nat) (w0 w : World) (pv av tv : Value) (bs : List Nat) (ts : List (Nat × Value × List En)) (xs : List Nat) : Prop where
  byt : w.ownsRow w0.heap.size 5 1 pv bs.length (bs.map u8)
  own : w.ownsRow w0.heap.size 37 2 av ts.length (cellsB ts)
  ints : w.ownsRow w0.heap.size 3 1 tv xs.length (intC xs)
  rd : ∀ t ∈ ts, ∃ B C, C ≤ w.heap.size ∧ (∀ b, pv.ownBlock = some b ∨ av.ownBlock = some b ∨ tv.ownBlock = some b → b < B ∨ C ≤ b) ∧ ∀ M w', Kept M w w' → (∀ x ∈ M, A ≤ x ∧ (x < B ∨ C ≤ x)) → RdN w' t.2.1 t.2.2
  sz : w0.heap.size ≤ w.heap.size
  base : A ≤ w0.heap.size
theorem LaW.pass {A : Nat} {w0 w w' : World} {pv av tv : Value} {bs : List Nat} {ts : List (Nat × Value × List En)} {xs : List Nat} (h : LaW A w0 w pv av tv bs ts xs) (k : Kept [] w w') : LaW A w0 w' pv av tv bs ts xs := by
  refine ⟨k.owns h.byt (by simp), k.owns h.own (by simp), k.owns h.ints (by simp), fun t ht => ?_, Nat.le_trans h.sz k.size, h.base⟩
  obtain ⟨B, C, h1, h3, h4⟩ := h.rd t ht
  exact ⟨B, C, Nat.le_trans h1 k.size, h3, fun N w2 kN hN => h4 N w2 ((k.mono (M := N) (by simp)).trans kN (fun x hx => Or.inl hx)) hN⟩
theorem rd_turn {A w0s : Nat} {w W : World} {t : Nat × Value × List En} {o : Option Nat} {B C : Nat} (h4 : ∀ M w', Kept M w w' → (∀ x ∈ M, A ≤ x ∧ (x < B ∨ C ≤ x)) → RdN w' t.2.1 t.2.2) (gr : w.grownBy W o) (ho : ∀ b, o = some b → A ≤ b ∧ (b < B ∨ C ≤ b)) :
    ∀ M w', Kept M W w' → (∀ x ∈ M, A ≤ x ∧ (x < B ∨ C ≤ x)) → RdN w' t.2.1 t.2.2 := by
  have kW : Kept o.toList w W := ((Kept.refl _ w)).grown gr (by intro k hk; left; simp [hk])
  intro N w2 kN hN
  refine h4 (o.toList ++ N) w2 ((kW.mono (M := o.toList ++ N) (fun x hx => List.mem_append_left _ hx)).trans kN (fun x hx => Or.inl (by simp [hx]))) (fun x hx => ?_)
  rcases List.mem_append.1 hx with hx | hx
  · exact ho x (by simpa using hx)
  · exact hN x hx
theorem LaW.bytes {A : Nat} {w0 w W : World} {pv av tv pv' : Value} {bs p : List Nat} {ts : List (Nat × Value × List En)} {xs : List Nat} (h : LaW A w0 w pv av tv bs ts xs)
    (o : W.ownsRow w0.heap.size 5 1 pv' (bs ++ p).length ((bs ++ p).map u8)) (gr : w.grownBy W pv.ownBlock) (hg : pv'.ownBlock = pv.ownBlock ∨ pv'.ownBlock = some w.heap.size) : LaW A w0 W pv' av tv (bs ++ p) ts xs := by
  have kW : Kept pv.ownBlock.toList w W := ((Kept.refl _ w)).grown gr (by intro k hk; left; simp [hk])
  refine ⟨o, kW.owns h.own (fun b hb hm => owns_neB h.own h.byt (by decide) b hb (by simpa using hm)), kW.owns h.ints (fun b hb hm => owns_neB h.ints h.byt (by decide) b hb (by simpa using hm)), fun t ht => ?_, Nat.le_trans h.sz kW.size, h.base⟩
  obtain ⟨B, C, h1, h3, h4⟩ := h.rd t ht
  refine ⟨B, C, Nat.le_trans h1 kW.size, fun b hb => ?_, rd_turn (w0s := 0) h4 gr (fun b hb => ⟨by have := (h.byt.lt b hb).1; have := h.base; omega, h3 b (Or.inl hb)⟩)⟩
  rcases hb with hb | hb
  · rcases hg with hg | hg
    · exact h3 b (Or.inl (by rw [← hg]; exact hb))
    · rw [hg] at hb; simp only [Option.some.injEq] at hb; omega
  · exact h3 b (Or.inr hb)
theorem LaW.int {A : Nat} {w0 w W : World} {pv av tv : Value} {bs : List Nat} {ts : List (Nat × Value × List En)} {xs : List Nat} (h : LaW A w0 w pv av tv bs ts xs) {x g n cap : Nat} (hn : n = xs.length + 1)
    (o : W.ownsRow w0.heap.size 3 1 (.slice (some ⟨g, 0, none⟩) n cap) n (intC xs ++ [.int .i64 (x : Int)])) (gr : w.grownBy W tv.ownBlock) (hg : tv.ownBlock = some g ∨ g = w.heap.size) :
    LaW A w0 W pv av (.slice (some ⟨g, 0, none⟩) n cap) bs ts (xs ++ [x]) := by
  have kW : Kept tv.ownBlock.toList w W := ((Kept.refl _ w)).grown gr (by intro k hk; left; simp [hk])
  refine ⟨kW.owns h.byt (fun b hb hm => owns_neB h.byt h.ints (by decide) b hb (by simpa using hm)), kW.owns h.own (fun b hb hm => owns_neB h.own h.ints (by decide) b hb (by simpa using hm)), by rw [List.length_append, List.length_singleton, ← hn]; simpa [intC] using o, fun t ht => ?_, Nat.le_trans h.sz kW.size, h.base⟩
  obtain ⟨B, C, h1, h3, h4⟩ := h.rd t ht
  refine ⟨B, C, Nat.le_trans h1 kW.size, fun b hb => ?_, rd_turn (w0s := 0) h4 gr (fun b hb => ⟨by have := (h.ints.lt b hb).1; have := h.base; omega, h3 b (Or.inr (Or.inr hb))⟩)⟩
  rcases hb with hb | hb | hb
  · exact h3 b (Or.inl hb)
  · exact h3 b (Or.inr (Or.inl hb))
  · simp only [Value.ownBlock, Option.some.injEq] at hb
    subst hb
    rcases hg with hg | hg
    · exact h3 _ (Or.inr (Or.inr hg))
    · omega
theorem LaW.bat {A : Nat} {w0 w W : World} {pv av tv : Value} {bs : List Nat} {ts : List (Nat × Value × List En)} {xs : List Nat} (h : LaW A w0 w pv av tv bs ts xs) {pl : Nat} {y : Value} {es : List En} {g n cap : Nat} (hn : n = ts.length + 1)
    (hy : ∃ B C, C ≤ w.heap.size ∧ (∀ b, pv.ownBlock = some b ∨ av.ownBlock = some b ∨ tv.ownBlock = some b → b < B ∨ C ≤ b) ∧ ∀ M w', Kept M w w' → (∀ x ∈ M, A ≤ x ∧ (x < B ∨ C ≤ x)) → RdN w' y es)
    (o : W.ownsRow w0.heap.size 37 2 (.slice (some ⟨g, 0, none⟩) n cap) n (cellsB ts ++ [.int .u64 (pl : Int), y])) (gr : w.grownBy W av.ownBlock) (hg : av.ownBlock = some g ∨ g = w.heap.size) :
    LaW A w0 W pv (.slice (some ⟨g, 0, none⟩) n cap) tv bs (ts ++ [(pl, y, es)]) xs := by
  have kW : Kept av.ownBlock.toList w W := ((Kept.refl _ w)).grown gr (by intro k hk; left; simp [hk])
  have key : ∀ t ∈ ts ++ [(pl, y, es)], ∃ B C, C ≤ w.heap.size ∧ (∀ b, pv.ownBlock = some b ∨ av.ownBlock = some b ∨ tv.ownBlock = some b → b < B ∨ C ≤ b) ∧ ∀ M w', Kept M w w' → (∀ x ∈ M, A ≤ x ∧ (x < B ∨ C ≤ x)) → RdN w' t.2.1 t.2.2 := by
    intro t ht
    rcases List.mem_append.1 ht with ht | ht
    · exact h.rd t ht
    · rw [List.mem_singleton] at ht; subst ht; exact hy
  refine ⟨kW.owns h.byt (fun b hb hm => owns_neB h.byt h.own (by decide) b hb (by simpa using hm)), by rw [cellsB_app, List.length_append, List.length_singleton, ← hn]; exact o, kW.owns h.ints (fun b hb hm => owns_neB h.ints h.own (by decide) b hb (by simpa using hm)), fun t ht => ?_, Nat.le_trans h.sz kW.size, h.base⟩
  obtain ⟨B, C, h1, h3, h4⟩ := key t ht
  refine ⟨B, C, Nat.le_trans h1 kW.size, fun b hb => ?_, rd_turn (w0s := 0) h4 gr (fun b hb => ⟨by have := (h.own.lt b hb).1; have := h.base; omega, h3 b (Or.inr (Or.inl hb))⟩)⟩
  rcases hb with hb | hb | hb
  · exact h3 b (Or.inl hb)
  · simp only [Value.ownBlock, Option.some.injEq] at hb
    subst hb
    rcases hg with hg | hg
    · exact h3 _ (Or.inr (Or.inl hg))
    · omega
  · exact h3 b (Or.inr (Or.inr hb))
theorem LaW.lt {A : Nat} {w0 w : World} {pv av tv : Value} {bs : List Nat} {ts : List (Nat × Value × List En)} {xs : List Nat} (h : LaW A w0 w pv av tv bs ts xs) : ∀ b, pv.ownBlock = some b ∨ av.ownBlock = some b ∨ tv.ownBlock = some b → w0.heap.size ≤ b ∧ b < w.heap.size := by
  intro b hb
  rcases hb with hb | hb | hb
  · exact h.byt.lt b hb
  · exact h.own.lt b hb
  · exact h.ints.lt b hb
theorem LaW.rdB {A : Nat} {w0 w : World} {pv av tv : Value} {bs : List Nat} {ts : List (Nat × Value × List En)} {xs : List Nat} (h : LaW A w0 w pv av tv bs ts xs) : RdB w av (ts.map fun t => (t.1, t.2.2)) := by
  have hr : ∀ t ∈ ts, RdN w t.2.1 t.2.2 := fun t ht => by obtain ⟨B, C, h1, h3, h4⟩ := h.rd t ht; exact h4 [] w (Kept.refl _ _) (by simp)
  rcases h.own.2 with ⟨rfl, h0⟩ | ⟨g, cap, cur, rfl, _, hg, hc, hm', hs, ht⟩
  · have : ts = [] := List.eq_nil_of_length_eq_zero h0
    subst this
    exact RdB.nil _
  · refine ⟨some ⟨g, 0, none⟩, cap, ts, rfl, rfl, hc, by unfold maxLen at hm'; omega, hr, fun _ => ⟨g, 0, rfl, fun i hi => ?_⟩⟩
    have hx := cellsB_get ts i hi
    have c1 := h.own.cells (g := g) rfl (2 * i) _ hx.1
    have c2 := h.own.cells (g := g) rfl (2 * i + 1) _ hx.2
    rw [Addr.add_mid] at c1 c2
    refine ⟨?_, ?_⟩
    · rw [show 0 + i * 2 = 0 + 2 * i by omega]; exact c1
    · rw [show 0 + i * 2 + 1 = 0 + (2 * i + 1) by omega]; exact c2
theorem LaW.rdJ {A : Nat} {w0 w : World} {pv av tv : Value} {bs : List Nat} {ts : List (Nat × Value × List En)} {xs : List Nat} (h : LaW A w0 w pv av tv bs ts xs) (hp : 0 < xs.length) : RdJ w tv xs := by
  rcases h.ints.2 with ⟨rfl, h0⟩ | ⟨g, cap, cur, rfl, _, hg, hc, hm', hs, ht⟩
  · omega
  · refine ⟨g, cap, rfl, hc, fun i hi => ?_⟩
    have c1 := h.ints.cells (g := g) rfl i (.int .i64 (xs[i] : Int)) (by simp [intC, hi])
    rw [Addr.add_mid, Nat.zero_add] at c1
    exact c1
end Go.Proofs.YtckkalmhekfnhabGreatDoor
namespace Go.Proofs.YtckkalmhekfnhabGreatDoor
open Go.RowKit Go.BigFrame
set_option linter.unusedVariables false
set_option linter.unusedSimpArgs false

theorem numS_take : ∀ (k i : Nat) (L : List (List En)), numS i (L.take k) = (numS i L).take k
  | 0, _, _ => by simp [numS]
  | k + 1, _, [] => by simp [numS]
  | k + 1, i, es :: L => by rw [List.take_succ_cons, numS, numS_take k _ L, numS, List.take_succ_cons]
theorem okS_take : ∀ (k i : Nat) (L : List (List En)), okS i L = true → okS i (L.take k) = true
  | 0, _, _, _ => by simp [okS]
  | k + 1, _, [], _ => by simp [okS]
  | k + 1, i, es :: L, h => by
    rw [okS, Bool.and_eq_true] at h
    rw [List.take_succ_cons, okS, h.1, okS_take k _ L h.2]
    rfl
theorem endS_take : ∀ (k i : Nat) (L : List (List En)) (h : k < L.length), (numS i L)[k]? = some (endS i (L.take k), L[k])
  | 0, i, es :: L, _ => by simp [numS, endS]
  | k + 1, i, es :: L, h => by
    have h' : k < L.length := by simpa using h
    rw [numS, List.getElem?_cons_succ, endS_take k _ L h', List.take_succ_cons, endS]
    simp
theorem okS_mem : ∀ (i : Nat) (L : List (List En)), okS i L = true → ∀ t ∈ numS i L, chkB t.1 t.2 = 0
  | _, [], _, t, ht => by simp [numS] at ht
  | i, es :: L, h, t, ht => by
    rw [okS, Bool.and_eq_true, decide_eq_true_eq] at h
    rw [numS, List.mem_cons] at ht
    rcases ht with rfl | ht
    · exact h.1
    · exact okS_mem _ L h.2 t ht
theorem atS_at : ∀ (k n : Nat) (D : List (Nat × List En)), k ≤ D.length → (n :: atS n D)[k]? = some (n + (runS (D.take k)).length)
  | 0, n, D, _ => by simp [runS]
  | k + 1, n, t :: D, h => by
    have h' : k ≤ D.length := by simpa using h
    rw [atS, List.getElem?_cons_succ, atS_at k _ D h', List.take_succ_cons, runS_cons, List.length_append]
    simp [Nat.add_assoc]
theorem run_take {E : List Nat} {D : List (Nat × List En)} {k : Nat} : (E ++ runS D).take (E.length + (runS (D.take k)).length) = E ++ runS (D.take k) := by
  have e : E ++ runS D = (E ++ runS (D.take k)) ++ runS (D.drop k) := by rw [List.append_assoc, ← runS_app, List.take_append_drop]
  rw [e, ← List.length_append, List.take_left]
theorem run_lt {D : List (Nat × List En)} {k : Nat} (hk : k < D.length) (h : chkB D[k].1 D[k].2 = 0) : (runS (D.take k)).length < (runS D).length := by
  have e : runS D = runS (D.take k) ++ (sbB D[k].1 D[k].2 ++ runS (D.drop (k + 1))) := by
    rw [← runS_cons, ← List.drop_eq_getElem_cons hk, ← runS_app, List.take_append_drop]
  rw [e, List.length_append, List.length_append, sbB_len h]
  omega
/-- A batch whose number is another ends the reading. -/
theorem seg_gap {a b c k f : Nat} {z : Int} {L : List (List En)} {es : List En} (rest : List Nat) (ha : a < 18446744073709551616) (hb : b < 18446744073709551616) (hc : c < 18446744073709551616) (hz : wideB z = true) (hk : okS c L = true) (hy : ∀ es ∈ L, byN es) (hl : k < L.length)
    (hf : f < 18446744073709551616) (hck : chkB f es = 0) (hby : byN es) (hne : f ≠ endS c (L.take k)) :
    hdC (ehB a b c z ++ (runS ((numS c L).take k) ++ (sbB f es ++ rest))) = ⟨a, b, c, z.toNat⟩ ∧ sgE (ehB a b c z ++ (runS ((numS c L).take k) ++ (sbB f es ++ rest))) = 0 ∧ sgB (ehB a b c z ++ (runS ((numS c L).take k) ++ (sbB f es ++ rest))) = (numS c L).take k ∧
      sgU (ehB a b c z ++ (runS ((numS c L).take k) ++ (sbB f es ++ rest))) = 48 + (runS ((numS c L).take k)).length := by
  obtain ⟨h1, h2, R, g, h3, h4⟩ := seg_run (L := L.take k) (sbB f es ++ rest) ha hb hc hz (okS_take k c L hk) (fun x hx => hy x (List.mem_of_mem_take hx))
  rw [numS_take] at h1 h2 h3 h4
  have hlen := batB_lenS hck hf
  have hsb : sbB f es = frB f (batB f es) := by unfold sbB; rw [if_pos hck]
  have hn := nextF_at (ehB a b c z ++ runS ((numS c L).take k)) f (batB f es) rest hf (by omega) (by omega) (batB_byte hby)
  rw [← hsb, List.append_assoc, List.length_append, ehB_len hz] at hn
  have hrb : rbOk (ehB a b c z ++ (runS ((numS c L).take k) ++ (sbB f es ++ rest))) ((48 + (runS ((numS c L).take k)).length : Nat) : Int) (endS c (L.take k)) = false := by
    unfold rbOk
    rw [hn]
    simp [hne]
  rw [rdL_no hrb] at h4
  obtain ⟨rfl, h6⟩ := Prod.mk.inj h4
  exact ⟨h1, h2, by rw [h3, List.append_nil], h6⟩
end Go.Proofs.YtckkalmhekfnhabGreatDoor
namespace Go.Proofs
open Go.Shelf
def Tryz.lays283_ren : Go.Shelf.Ren := ⟨fun | 283 => 87 | n => n, fun | 3 => 3 | 9 => 9 | 4 => 4 | n => n, fun | n => n⟩
theorem Tryz.lays283 : Go.Proofs.Lays.n283 Tryz.prog Tryz.lays283_ren := {
  mixed := by kernel_rfl
  f283 := Tryz.func87.trans (congrArg some (by kernel_rfl))
  t3 := Tryz.underlying3
  a3 := Tryz.isAgg3
  z3 := Tryz.sizeOf3
  v3 := Tryz.zeroValue3
  t4 := Tryz.underlying4
  a4 := Tryz.isAgg4
  z4 := Tryz.sizeOf4
  v4 := Tryz.zeroValue4
  t9 := Tryz.underlying9
  a9 := Tryz.isAgg9
  z9 := Tryz.sizeOf9
  v9 := Tryz.zeroValue9 }
open Go.Lib in
theorem Tryz.internal_strconv_small (i : Nat) (h : i < 100) (w : World) :
    Calls Tryz.prog 87 #[.int .i64 i] w fun e w' => e = .returned (.string ⟨(Lib.decDigits i).toArray⟩) ∧ w' = w := Any.internal_strconv_small Tryz.lays283 i h w
def Tryz.laysM284_ren : Go.Shelf.Ren := ⟨fun | 284 => 88 | 129 => 124 | 317 => 123 | 318 => 125 | n => n, fun | 53 => 24 | 3 => 3 | 212 => 183 | 0 => 0 | 4 => 4 | 46 => 103 | 5 => 5 | 9 => 9 | n => n, fun | 17 => 0 | n => n⟩
theorem Tryz.laysM284 : Go.Proofs.LaysM.n284 Tryz.prog Tryz.laysM284_ren := {
  mixed := by kernel_rfl
  f129 := Tryz.func124.trans (congrArg some (by kernel_rfl))
  f284 := Tryz.func88.trans (congrArg some (by kernel_rfl))
  f317 := Tryz.func123.trans (congrArg some (by kernel_rfl))
  f318 := Tryz.func125.trans (congrArg some (by kernel_rfl))
  t0 := Tryz.underlying0
  a0 := Tryz.isAgg0
  z0 := Tryz.sizeOf0
  v0 := Tryz.zeroValue0
  t3 := Tryz.underlying3
  a3 := Tryz.isAgg3
  z3 := Tryz.sizeOf3
  v3 := Tryz.zeroValue3
  t4 := Tryz.underlying4
  a4 := Tryz.isAgg4
  z4 := Tryz.sizeOf4
  v4 := Tryz.zeroValue4
  t5 := Tryz.underlying5
  a5 := Tryz.isAgg5
  z5 := Tryz.sizeOf5
  v5 := Tryz.zeroValue5
  t9 := Tryz.underlying9
  a9 := Tryz.isAgg9
  z9 := Tryz.sizeOf9
  v9 := Tryz.zeroValue9
  t46 := Tryz.underlying103
  a46 := Tryz.isAgg103
  z46 := Tryz.sizeOf103
  v46 := Tryz.zeroValue103
  t53 := Tryz.underlying24
  a53 := Tryz.isAgg24
  z53 := Tryz.sizeOf24
  v53 := Tryz.zeroValue24
  t212 := Tryz.underlying183
  a212 := Tryz.isAgg183
  z212 := Tryz.sizeOf183
  v212 := Tryz.zeroValue183
  g17 := by kernel_rfl
  i0 := by kernel_rfl
  i3 := by kernel_rfl
  i4 := by kernel_rfl
  i5 := by kernel_rfl
  i9 := by kernel_rfl
  i46 := by kernel_rfl
  i53 := by kernel_rfl
  i212 := by kernel_rfl
  m17 := by kernel_rfl }
open Go.Lib in
theorem Tryz.internal_strconv_numDigits (u : Nat) (h1 : 1 ≤ u) (h2 : u < 18446744073709551616) (w : World) (htab : Lib.TabIs Tryz.prog w "internal/strconv.uint64pow10" .u64 Lib.pow10Tab) :
    Calls Tryz.prog 88 #[.int .u64 u] w fun e w' => e = .returned (.int .i64 (Lib.nDigits u)) ∧ w' = w := Any.internal_strconv_numDigits Tryz.laysM284 u h1 h2 w htab
def Tryz.lays285_ren : Go.Shelf.Ren := ⟨fun | 285 => 89 | n => n, fun | 37 => 29 | 53 => 24 | 3 => 3 | 4 => 4 | 51 => 63 | 9 => 9 | 5 => 5 | 0 => 0 | n => n, fun | n => n⟩
theorem Tryz.lays285 : Go.Proofs.Lays.n285 Tryz.prog Tryz.lays285_ren := {
  mixed := by kernel_rfl
  f285 := Tryz.func89.trans (congrArg some (by kernel_rfl))
  t0 := Tryz.underlying0
  a0 := Tryz.isAgg0
  z0 := Tryz.sizeOf0
  v0 := Tryz.zeroValue0
  t3 := Tryz.underlying3
  a3 := Tryz.isAgg3
  z3 := Tryz.sizeOf3
  v3 := Tryz.zeroValue3
  t4 := Tryz.underlying4
  a4 := Tryz.isAgg4
  z4 := Tryz.sizeOf4
  v4 := Tryz.zeroValue4
  t5 := Tryz.underlying5
  a5 := Tryz.isAgg5
  z5 := Tryz.sizeOf5
  v5 := Tryz.zeroValue5
  t9 := Tryz.underlying9
  a9 := Tryz.isAgg9
  z9 := Tryz.sizeOf9
  v9 := Tryz.zeroValue9
  t37 := Tryz.underlying29
  a37 := Tryz.isAgg29
  z37 := Tryz.sizeOf29
  v37 := Tryz.zeroValue29
  t51 := Tryz.underlying63
  a51 := Tryz.isAgg63
  z51 := Tryz.sizeOf63
  v51 := Tryz.zeroValue63
  t53 := Tryz.underlying24
  a53 := Tryz.isAgg24
  z53 := Tryz.sizeOf24
  v53 := Tryz.zeroValue24 }
open Go.RowKit Go.Sort Go.Lib in
theorem Tryz.internal_strconv_formatBase10 (blk off cap : Nat) (u : Nat) (d : Array UInt8) (w : World) (hH : Holds (fun (b : UInt8) => Value.int .u8 (b.toNat : Int)) w blk off d) (hu : u < 10 ^ d.size) (hu64 : u < 18446744073709551616) (hsz : d.size < 4611686018427387904) :
    Calls Tryz.prog 89 #[.slice (some ⟨blk, off, none⟩) d.size cap, .int .u64 u] w fun e w' =>
      e = .returned (.tuple #[]) ∧ ∃ (n v' : Nat) (dk : Array UInt8), w' = (putRow (fun (b : UInt8) => Value.int .u8 (b.toNat : Int)) w blk off dk).drewN n ∧ FmtInv d.size u 0 v' dk := Any.internal_strconv_formatBase10 Tryz.lays285 blk off cap u d w hH hu hu64 hsz
def Tryz.laysPu14_ren : Go.Shelf.Ren := ⟨fun | 14 => 30 | 16 => 57 | 17 => 58 | 19 => 96 | 20 => 97 | 21 => 98 | 22 => 99 | 23 => 100 | 24 => 101 | 25 => 130 | 27 => 132 | 26 => 131 | 28 => 147 | 29 => 153 | 30 => 87 | 31 => 88 | 32 => 89 | 33 => 90 | 35 => 124 | 34 => 123 | 36 => 125 | 37 => 126 | 38 => 127 | 39 => 145 | 40 => 146 | n => n, fun | 9 => 9 | 3 => 3 | 22 => 24 | 24 => 74 | 25 => 75 | 4 => 4 | 34 => 160 | 5 => 5 | 36 => 103 | 37 => 29 | 0 => 0 | 39 => 163 | 21 => 21 | 44 => 191 | 47 => 159 | 50 => 207 | 48 => 205 | 2 => 2 | 52 => 150 | 55 => 153 | 59 => 183 | 60 => 63 | 20 => 20 | 61 => 184 | 65 => 211 | 66 => 212 | 67 => 114 | n => n, fun | 0 => 1 | 1 => 2 | 2 => 0 | 3 => 4 | 4 => 5 | n => n⟩
theorem Tryz.laysPu14 : Go.Proofs.LaysPu.n14 Tryz.prog Tryz.laysPu14_ren := {
  mixed := by kernel_rfl
  f14 := Tryz.func30.trans (congrArg some (by kernel_rfl))
  f16 := Tryz.func57.trans (congrArg some (by kernel_rfl))
  f17 := Tryz.func58.trans (congrArg some (by kernel_rfl))
  f19 := Tryz.func96.trans (congrArg some (by kernel_rfl))
  f20 := Tryz.func97.trans (congrArg some (by kernel_rfl))
  f21 := Tryz.func98.trans (congrArg some (by kernel_rfl))
  f22 := Tryz.func99.trans (congrArg some (by kernel_rfl))
  f23 := Tryz.func100.trans (congrArg some (by kernel_rfl))
  f24 := Tryz.func101.trans (congrArg some (by kernel_rfl))
  f25 := Tryz.func130.trans (congrArg some (by kernel_rfl))
  f26 := Tryz.func131.trans (congrArg some (by kernel_rfl))
  f27 := Tryz.func132.trans (congrArg some (by kernel_rfl))
  f28 := Tryz.func147.trans (congrArg some (by kernel_rfl))
  f29 := Tryz.func153.trans (congrArg some (by kernel_rfl))
  f30 := Tryz.func87.trans (congrArg some (by kernel_rfl))
  f31 := Tryz.func88.trans (congrArg some (by kernel_rfl))
  f32 := Tryz.func89.trans (congrArg some (by kernel_rfl))
  f33 := Tryz.func90.trans (congrArg some (by kernel_rfl))
  f34 := Tryz.func123.trans (congrArg some (by kernel_rfl))
  f35 := Tryz.func124.trans (congrArg some (by kernel_rfl))
  f36 := Tryz.func125.trans (congrArg some (by kernel_rfl))
  f37 := Tryz.func126.trans (congrArg some (by kernel_rfl))
  f38 := Tryz.func127.trans (congrArg some (by kernel_rfl))
  f39 := Tryz.func145.trans (congrArg some (by kernel_rfl))
  f40 := Tryz.func146.trans (congrArg some (by kernel_rfl))
  t0 := Tryz.underlying0
  a0 := Tryz.isAgg0
  z0 := Tryz.sizeOf0
  v0 := Tryz.zeroValue0
  i0 := by kernel_rfl
  t2 := Tryz.underlying2
  a2 := Tryz.isAgg2
  z2 := Tryz.sizeOf2
  v2 := Tryz.zeroValue2
  i2 := by kernel_rfl
  t3 := Tryz.underlying3
  a3 := Tryz.isAgg3
  z3 := Tryz.sizeOf3
  v3 := Tryz.zeroValue3
  i3 := by kernel_rfl
  t4 := Tryz.underlying4
  a4 := Tryz.isAgg4
  z4 := Tryz.sizeOf4
  v4 := Tryz.zeroValue4
  i4 := by kernel_rfl
  t5 := Tryz.underlying5
  a5 := Tryz.isAgg5
  z5 := Tryz.sizeOf5
  v5 := Tryz.zeroValue5
  i5 := by kernel_rfl
  t9 := Tryz.underlying9
  a9 := Tryz.isAgg9
  z9 := Tryz.sizeOf9
  v9 := Tryz.zeroValue9
  i9 := by kernel_rfl
  t20 := Tryz.underlying20
  a20 := Tryz.isAgg20
  z20 := Tryz.sizeOf20
  v20 := Tryz.zeroValue20
  i20 := by kernel_rfl
  t21 := Tryz.underlying21
  a21 := Tryz.isAgg21
  z21 := Tryz.sizeOf21
  v21 := Tryz.zeroValue21
  i21 := by kernel_rfl
  t22 := Tryz.underlying24
  a22 := Tryz.isAgg24
  z22 := Tryz.sizeOf24
  v22 := Tryz.zeroValue24
  i22 := by kernel_rfl
  t24 := Tryz.underlying74
  a24 := Tryz.isAgg74
  z24 := Tryz.sizeOf74
  v24 := Tryz.zeroValue74
  i24 := by kernel_rfl
  t25 := Tryz.underlying75
  a25 := Tryz.isAgg75
  z25 := Tryz.sizeOf75
  v25 := Tryz.zeroValue75
  i25 := by kernel_rfl
  t34 := Tryz.underlying160
  a34 := Tryz.isAgg160
  z34 := Tryz.sizeOf160
  v34 := Tryz.zeroValue160
  i34 := by kernel_rfl
  c34 := by kernel_rfl
  t36 := Tryz.underlying103
  a36 := Tryz.isAgg103
  z36 := Tryz.sizeOf103
  v36 := Tryz.zeroValue103
  i36 := by kernel_rfl
  t37 := Tryz.underlying29
  a37 := Tryz.isAgg29
  z37 := Tryz.sizeOf29
  v37 := Tryz.zeroValue29
  i37 := by kernel_rfl
  t39 := Tryz.underlying163
  a39 := Tryz.isAgg163
  z39 := Tryz.sizeOf163
  v39 := Tryz.zeroValue163
  i39 := by kernel_rfl
  t44 := Tryz.underlying191
  a44 := Tryz.isAgg191
  z44 := Tryz.sizeOf191
  v44 := Tryz.zeroValue191
  i44 := by kernel_rfl
  t47 := Tryz.underlying159
  a47 := Tryz.isAgg159
  z47 := Tryz.sizeOf159
  v47 := Tryz.zeroValue159
  i47 := by kernel_rfl
  t48 := Tryz.underlying205
  a48 := Tryz.isAgg205
  z48 := Tryz.sizeOf205
  v48 := Tryz.zeroValue205
  i48 := by kernel_rfl
  t50 := Tryz.underlying207
  a50 := Tryz.isAgg207
  z50 := Tryz.sizeOf207
  v50 := Tryz.zeroValue207
  i50 := by kernel_rfl
  t52 := Tryz.underlying150
  a52 := Tryz.isAgg150
  z52 := Tryz.sizeOf150
  v52 := Tryz.zeroValue150
  i52 := by kernel_rfl
  t55 := Tryz.underlying153
  a55 := Tryz.isAgg153
  z55 := Tryz.sizeOf153
  v55 := Tryz.zeroValue153
  i55 := by kernel_rfl
  t59 := Tryz.underlying183
  a59 := Tryz.isAgg183
  z59 := Tryz.sizeOf183
  v59 := Tryz.zeroValue183
  i59 := by kernel_rfl
  t60 := Tryz.underlying63
  a60 := Tryz.isAgg63
  z60 := Tryz.sizeOf63
  v60 := Tryz.zeroValue63
  i60 := by kernel_rfl
  t61 := Tryz.underlying184
  a61 := Tryz.isAgg184
  z61 := Tryz.sizeOf184
  t65 := Tryz.underlying211
  a65 := Tryz.isAgg211
  z65 := Tryz.sizeOf211
  v65 := Tryz.zeroValue211
  i65 := by kernel_rfl
  t66 := Tryz.underlying212
  a66 := Tryz.isAgg212
  z66 := Tryz.sizeOf212
  v66 := Tryz.zeroValue212
  i66 := by kernel_rfl
  t67 := Tryz.underlying114
  a67 := Tryz.isAgg114
  z67 := Tryz.sizeOf114
  v67 := Tryz.zeroValue114
  i67 := by kernel_rfl
  g0 := by kernel_rfl
  m0 := by kernel_rfl
  g1 := by kernel_rfl
  m1 := by kernel_rfl
  g2 := by kernel_rfl
  m2 := by kernel_rfl
  g3 := by kernel_rfl
  m3 := by kernel_rfl
  g4 := by kernel_rfl
  m4 := by kernel_rfl }
open Go.RowKit in
theorem Tryz.strconv_ParseUint_10_at64_ok (s : ByteArray) (hmax : s.size ≤ 9223372036854775806) (u : Nat) (h : Lib.parseUintB 64 s.data.toList = .ok u) (w : World) :
    Calls Tryz.prog 30 #[.string s, .int .i64 10, .int .i64 64] w fun e w' => e = .returned (.tuple #[.int .u64 u, .nilIface]) ∧ (w' = w ∨ w' = Lib.bytesWorld w 5 s) := Any.strconv_ParseUint_10_at64_ok Tryz.laysPu14 s hmax u h w
open Go.RowKit in
theorem Tryz.strconv_ParseUint_10_at64_syntax_var (s : ByteArray) (hlim : s.size ≤ 281474976710656) (h : Lib.parseUintB 64 s.data.toList = .«syntax») (tp : TypeId) (p : Value) (w : World) (hvar : w.var? Tryz.prog "strconv.ErrSyntax" = some #[.iface tp p]) :
    Calls Tryz.prog 30 #[.string s, .int .i64 10, .int .i64 64] w fun e w' => ∃ N, e = .returned (.tuple #[.int .u64 0, .iface 163 (.pointer (some ⟨N, 0, none⟩))]) ∧ w.heap.size ≤ N ∧ w'.heap[N]? = some (.cells #[.string ⟨#[80, 97, 114, 115, 101, 85, 105, 110, 116]⟩, .string s, .iface tp p] 191 (0, 0)) ∧ Below w.heap.size w w' := Any.strconv_ParseUint_10_at64_syntax_var Tryz.laysPu14 s hlim h tp p w hvar
open Go.RowKit in
theorem Tryz.strconv_ParseUint_10_at64_range_var (s : ByteArray) (hlim : s.size ≤ 281474976710656) (h : Lib.parseUintB 64 s.data.toList = .range) (tp : TypeId) (p : Value) (w : World) (hvar : w.var? Tryz.prog "strconv.ErrRange" = some #[.iface tp p]) :
    Calls Tryz.prog 30 #[.string s, .int .i64 10, .int .i64 64] w fun e w' => ∃ N, e = .returned (.tuple #[.int .u64 18446744073709551615, .iface 163 (.pointer (some ⟨N, 0, none⟩))]) ∧ w.heap.size ≤ N ∧ w'.heap[N]? = some (.cells #[.string ⟨#[80, 97, 114, 115, 101, 85, 105, 110, 116]⟩, .string s, .iface tp p] 191 (0, 0)) ∧ Below w.heap.size w w' := Any.strconv_ParseUint_10_at64_range_var Tryz.laysPu14 s hlim h tp p w hvar
end Go.Proofs
namespace Go.Proofs.YtckkalmhekfnhabGreatDoor
open Go.RowKit Go.BigFrame
set_option linter.unusedVariables false
set_option linter.unusedSimpArgs false

/-- The last k decimal digits of u. -/
def dgs (k u : Nat) : List Nat := (List.range k).map fun t => 48 + u / 10 ^ (k - 1 - t) % 10
theorem dgs_len (k u : Nat) : (dgs k u).length = k := by simp [dgs]
theorem dgs_dig (k u : Nat) : ∀ x ∈ dgs k u, 48 ≤ x ∧ x ≤ 57 := by
  intro x hx
  simp only [dgs, List.mem_map] at hx
  obtain ⟨t, _, rfl⟩ := hx
  omega
theorem dgs_byte (k u : Nat) : ∀ x ∈ dgs k u, x < 256 := fun x hx => by have := dgs_dig k u x hx; omega
theorem dgs_cons (k u : Nat) : dgs (k + 1) u = (48 + u / 10 ^ k % 10) :: dgs k u := by
  unfold dgs
  rw [List.range_succ_eq_map, List.map_cons, List.map_map]
  rw [List.cons.injEq]
  refine ⟨by simp, List.map_congr_left fun t ht => ?_⟩
  have : k + 1 - 1 - (t + 1) = k - 1 - t := by omega
  simp only [Function.comp, Nat.succ_eq_add_one, this]
theorem dgs_snoc (k u : Nat) : dgs (k + 1) u = dgs k (u / 10) ++ [48 + u % 10] := by
  unfold dgs
  rw [List.range_succ, List.map_append]
  have h1 : (List.range k).map (fun t => 48 + u / 10 ^ (k + 1 - 1 - t) % 10) = (List.range k).map (fun t => 48 + u / 10 / 10 ^ (k - 1 - t) % 10) := List.map_congr_left fun t ht => by
    have ht' : t < k := by simpa using ht
    rw [show k + 1 - 1 - t = (k - 1 - t) + 1 by omega, Nat.pow_succ', Nat.div_div_eq_div_mul]
  rw [h1]
  simp
theorem dval_dgs : ∀ (k u : Nat), dval (dgs k u) = u % 10 ^ k
  | 0, u => by simp [dgs, dval, Nat.mod_one]
  | k + 1, u => by
    rw [dgs_snoc, dval_snoc, dval_dgs k (u / 10), Nat.pow_succ', Nat.mod_mul]
    omega
theorem dgs_pad (k u : Nat) (h : u < 10 ^ k) : ∀ j, dgs (j + k) u = List.replicate j 48 ++ dgs k u
  | 0 => by simp
  | j + 1 => by
    rw [show j + 1 + k = (j + k) + 1 by omega, dgs_cons, dgs_pad k u h j]
    have h1 : u / 10 ^ (j + k) = 0 := Nat.div_eq_of_lt (Nat.lt_of_lt_of_le h (Nat.pow_le_pow_right (by omega) (by omega)))
    rw [h1, List.replicate_succ]
    rfl
theorem dgs_mod : ∀ (k u : Nat), dgs k (u % 10 ^ k) = dgs k u
  | 0, u => by simp [dgs]
  | k + 1, u => by
    rw [dgs_snoc, dgs_snoc k u, Nat.pow_succ', Nat.mod_mul_right_div_self, dgs_mod k (u / 10), Nat.mod_mul_right_mod]
theorem dgs_lt : ∀ (k a b : Nat), a < b → b < 10 ^ k → dgs k a < dgs k b
  | 0, a, b, h1, h2 => by simp at h2; omega
  | k + 1, a, b, h1, h2 => by
    rw [dgs_cons, dgs_cons]
    have hp : 0 < 10 ^ k := Nat.pow_pos (by omega)
    have ha : a / 10 ^ k < 10 := by rw [Nat.div_lt_iff_lt_mul hp]; rw [Nat.pow_succ'] at h2; omega
    have hb : b / 10 ^ k < 10 := by rw [Nat.div_lt_iff_lt_mul hp]; rw [Nat.pow_succ'] at h2; omega
    have hle : a / 10 ^ k ≤ b / 10 ^ k := Nat.div_le_div_right (by omega)
    rw [Nat.mod_eq_of_lt ha, Nat.mod_eq_of_lt hb]
    by_cases he : a / 10 ^ k = b / 10 ^ k
    · rw [he]
      have h3 : a % 10 ^ k < b % 10 ^ k := by
        have e1 := Nat.div_add_mod a (10 ^ k)
        have e2 := Nat.div_add_mod b (10 ^ k)
        rw [he] at e1
        omega
      have h4 := dgs_lt k (a % 10 ^ k) (b % 10 ^ k) h3 (Nat.mod_lt _ hp)
      rw [dgs_mod, dgs_mod] at h4
      exact List.cons_lt_cons_iff.2 (Or.inr ⟨rfl, h4⟩)
    · exact List.cons_lt_cons_iff.2 (Or.inl (by omega))
/-- The name of a segment. -/
def nmL (u : Nat) : List Nat := [115, 101, 103, 45] ++ dgs 20 u
theorem nmL_len (u : Nat) : (nmL u).length = 24 := by simp [nmL, dgs_len]
theorem nmL_byte (u : Nat) : ∀ x ∈ nmL u, x < 256 := by
  intro x hx
  rcases List.mem_append.1 hx with h | h
  · simp at h; omega
  · exact dgs_byte 20 u x h
theorem nmL_inj {a b : Nat} (ha : a < 18446744073709551616) (hb : b < 18446744073709551616) (h : nmL a = nmL b) : a = b := by
  have h1 := congrArg dval (List.append_cancel_left h)
  rw [dval_dgs, dval_dgs, Nat.mod_eq_of_lt (by omega), Nat.mod_eq_of_lt (by omega)] at h1
  exact h1
theorem nmL_lt {a b : Nat} (h : a < b) (hb : b < 18446744073709551616) : nmL a < nmL b := by
  have h1 := dgs_lt 20 a b h (by omega)
  unfold nmL
  simpa [List.cons_lt_cons_iff] using h1
theorem strB_app (p q : List Nat) : strB (p ++ q) = strB p ++ strB q := by
  apply ByteArray.ext
  rw [ByteArray.data_append]
  simp [strB]
theorem strB_dec (u : Nat) : (⟨(Lib.decDigits u).toArray⟩ : ByteArray) = strB (dgs (Lib.nDigits u) u) := by
  rw [Lib.decDigits_eq]
  unfold strB dgs
  rw [List.map_map]
  rfl
theorem zer_rep : ∀ k : Fin 21, zer64.extract 0 k.val = strB (List.replicate k.val 48) := by decide +kernel
theorem strB_inj {p q : List Nat} (hp : ∀ x ∈ p, x < 256) (hq : ∀ x ∈ q, x < 256) (h : strB p = strB q) : p = q := by
  have h1 : p.map UInt8.ofNat = q.map UInt8.ofNat := by
    have := congrArg (fun s => s.data.toList) h
    simpa [strB] using this
  have h2 := congrArg (List.map UInt8.toNat) h1
  rw [List.map_map, List.map_map] at h2
  have e : ∀ l : List Nat, (∀ x ∈ l, x < 256) → l.map (UInt8.toNat ∘ UInt8.ofNat) = l := by
    intro l hl
    conv => rhs; rw [← List.map_id l]
    refine List.map_congr_left fun x hx => ?_
    simp [Nat.mod_eq_of_lt (hl x hx)]
  rwa [e p hp, e q hq] at h2
end Go.Proofs.YtckkalmhekfnhabGreatDoor
namespace Go.Proofs.YtckkalmhekfnhabGreatDoor
open Go.RowKit Go.BigFrame
set_option linter.unusedVariables false
set_option linter.unusedSimpArgs false

/-- What the library's variables hold. -/
def VarsS (w : World) : Prop := Lib.TabIs Tryz.prog w "internal/strconv.uint64pow10" .u64 Lib.pow10Tab ∧ (∃ tp p, w.var? Tryz.prog "strconv.ErrSyntax" = some #[.iface tp p]) ∧ ∃ tp p, w.var? Tryz.prog "strconv.ErrRange" = some #[.iface tp p]
theorem var_kept {P : Program} {w w' : World} {n : String} {cs : Array Value} (h : w.var? P n = some cs) (k : Kept [] w w') : w'.var? P n = some cs := by
  unfold World.var? at h ⊢
  cases hg : P.globalNamed n with
  | none => rw [hg] at h; simp at h
  | some g =>
    rw [hg] at h
    simp only [Option.bind_some] at h ⊢
    cases hb : w.heap[g]? with
    | none => rw [hb] at h; simp at h
    | some o => rw [k.heap hb (by simp)]; rw [hb] at h; exact h
theorem VarsS.old {w w' : World} (h : VarsS w) (k : Kept [] w w') : VarsS w' := by
  obtain ⟨h1, ⟨t1, p1, h2⟩, t2, p2, h3⟩ := h
  exact ⟨var_kept h1 k, ⟨t1, p1, var_kept h2 k⟩, t2, p2, var_kept h3 k⟩

theorem putRow_kept {α : Type} [Inhabited α] (enc : α → Value) (w : World) (blk off : Nat) (d : Array α) : Kept [blk] w (Go.Sort.putRow enc w blk off d) := by
  refine ⟨rfl, rfl, rfl, by simp [Go.Sort.putRow, Go.Sort.mapBlock], fun k hk hn => ?_⟩
  simp only [List.mem_singleton] at hn
  simp only [Go.Sort.putRow, Go.Sort.mapBlock, Array.getElem?_modify]
  rw [if_neg (fun h => hn h.symm)]

set_option maxRecDepth 100000 in
set_option maxHeartbeats 2000000 in
theorem ifmtU_any (u : Nat) (w : World) (hu : u < 18446744073709551616) (hv : VarsS w) :
    Calls Tryz.prog 50 #[.int .u64 u, .int .i64 10] w fun e w' => e = .returned (.string (strB (dgs (Lib.nDigits u) u))) ∧ Kept [] w w' := by
  have HV := hide hv
  have HD := hide (strB_dec u)
  clear hv
  by_cases hs : u < 100
  · have hw : IntKind.i64.wrap (u : Int) = (u : Int) := by simp [IntKind.wrap, IntKind.signed, IntKind.bits]; omega
    have hlt : (u : Int) < 100 := by omega
    go_enter Tryz.func50, Tryz.ntmps50
    go_wp2_with fail
    refine Calls.mono (Tryz.internal_strconv_small u hs _) ?_
    rintro e w1 ⟨rfl, rfl⟩
    go_wp2
    go_ret
    exact ⟨by rw [← unhide HD]; rfl, Kept.refl _ _⟩
  · have hlt : ¬ (u : Int) < 100 := by omega
    have HN := hide (by have := Lib.numDigits_eq u (by omega) hu; split at this <;> omega : Lib.nDigits u ≤ 20)
    have HP := hide (Lib.lt_pow_nDigits u)
    obtain ⟨nd, hnd⟩ : ∃ nd, Lib.nDigits u = nd := ⟨_, rfl⟩
    have HNum := hide (fun W (hW : VarsS W) => Tryz.internal_strconv_numDigits u (by omega) hu W hW.1)
    simp only [hnd] at HNum
    rw [hnd] at HN HP ⊢
    clear hnd HD
    have HK0 := hide ((Kept.refl [] w).alloc (.cells Lib.zeros24 150))
    have hn24 : (nd : Int) ≤ 24 := by have := unhide HN; omega
    go_enter Tryz.func50, Tryz.ntmps50
    go_wp2_with fail
    refine Calls.mono (unhide HNum _ ((unhide HV).old (unhide HK0))) ?_
    rintro e w1 ⟨rfl, rfl⟩
    have hH0 := Lib.holds_zero0 w 150 nd (by have := unhide HN; omega)
    have hfmt := Tryz.internal_strconv_formatBase10 w.heap.size 0 24 u (Array.replicate nd 0) (w.alloc (.cells Lib.zeros24 150)) hH0 (by rw [Array.size_replicate]; exact unhide HP) hu (by rw [Array.size_replicate]; have := unhide HN; omega)
    rw [Array.size_replicate] at hfmt
    have HH0 := hide hH0
    have HF := hide hfmt
    clear hH0 hfmt HNum
    go_wp2_with fail
    refine Calls.mono (unhide HF) ?_
    rintro e w2 ⟨rfl, n2, v2, dk, rfl, hinv⟩
    have HI := hide hinv
    clear hinv HF
    have hR : Rd ((Go.Sort.putRow (fun (b : UInt8) => Value.int .u8 (b.toNat : Int)) (w.alloc (.cells Lib.zeros24 150)) w.heap.size 0 dk).drewN n2) (.slice (some ⟨w.heap.size, 0, none⟩) nd 24) (dgs nd u) := by
      have hh := Go.Sort.holds_putRow (fun (b : UInt8) => Value.int .u8 (b.toNat : Int)) (w.alloc (.cells Lib.zeros24 150)) w.heap.size 0 (Array.replicate nd 0) dk (unhide HH0) (by rw [(unhide HI).size, Array.size_replicate])
      refine ⟨_, _, _, rfl, dgs_len nd u, by have := unhide HN; omega, ⟨by omega, by have := unhide HN; omega⟩, by simp, dgs_byte nd u, fun _ => ⟨w.heap.size, 0, rfl, fun i hi => ?_⟩⟩
      have h1 := (hh i (by rw [(unhide HI).size]; exact hi)).1
      have h2 := (unhide HI).done i (Nat.zero_le _) hi
      rw [h2] at h1
      refine (show _ = _ from h1).trans ?_
      have h3 : (dgs nd u).getD i 0 = 48 + u / 10 ^ (nd - 1 - i) % 10 := by simp [dgs, List.getD_eq_getElem?_getD, hi]
      rw [h3]
      have h4 : 48 + u / 10 ^ (nd - 1 - i) % 10 < 256 := by omega
      simp [Lib.dg, u8, Nat.mod_eq_of_lt h4]
    have hk : Kept [] w ((Go.Sort.putRow (fun (b : UInt8) => Value.int .u8 (b.toNat : Int)) (w.alloc (.cells Lib.zeros24 150)) w.heap.size 0 dk).drewN n2) := by
      refine ((unhide HK0).trans (M := [w.heap.size]) (c := Go.Sort.putRow (fun (b : UInt8) => Value.int .u8 (b.toNat : Int)) (w.alloc (.cells Lib.zeros24 150)) w.heap.size 0 dk) ?_ (by simp)).drewN n2
      exact putRow_kept _ _ _ _ _
    have HK2 := hide hk
    have hu5 : Tryz.prog.underlying 5 = some (.int .u8) := by kernel_rfl
    have hu9 : Tryz.prog.underlying 9 = some .string := by kernel_rfl
    have hc := conv_any _ _ _ hR hu5 hu9
    obtain ⟨W2, hW2⟩ : ∃ W2, (Go.Sort.putRow (fun (b : UInt8) => Value.int .u8 (b.toNat : Int)) (w.alloc (.cells Lib.zeros24 150)) w.heap.size 0 dk).drewN n2 = W2 := ⟨_, rfl⟩
    rw [hW2] at hc HK2 ⊢
    clear hW2 hR hk HH0 HI
    go_wp2
    go_ret
    exact ⟨rfl, unhide HK2⟩
end Go.Proofs.YtckkalmhekfnhabGreatDoor
namespace Go.Proofs.YtckkalmhekfnhabGreatDoor
open Go.RowKit Go.BigFrame
set_option linter.unusedVariables false
set_option linter.unusedSimpArgs false

set_option maxRecDepth 100000 in
set_option maxHeartbeats 1000000 in
theorem fmtU_any (u : Nat) (w : World) (hu : u < 18446744073709551616) (hv : VarsS w) :
    Calls Tryz.prog 28 #[.int .u64 u, .int .i64 10] w fun e w' => e = .returned (.string (strB (dgs (Lib.nDigits u) u))) ∧ Kept [] w w' := by
  go_enter Tryz.func28, Tryz.ntmps28
  go_wp2_with fail
  refine Calls.mono (ifmtU_any u _ hu hv) ?_
  rintro e w1 ⟨rfl, k1⟩
  have HK := hide k1
  clear k1
  go_wp2
  go_ret
  exact ⟨rfl, unhide HK⟩

set_option maxRecDepth 100000 in
set_option maxHeartbeats 1000000 in
theorem rep0_any (k : Nat) (w : World) (hk : k ≤ 20) : Calls Tryz.prog 29 #[.string ⟨#[48]⟩, .int .i64 k] w fun e w' => e = .returned (.string (strB (List.replicate k 48))) ∧ w' = w := by
  by_cases h0 : k = 0
  · subst h0
    go_enter Tryz.func29, Tryz.ntmps29
    go_wp2
    go_ret
    exact ⟨rfl, rfl⟩
  by_cases h1 : k = 1
  · subst h1
    go_enter Tryz.func29, Tryz.ntmps29
    go_wp2
    go_ret
    exact ⟨rfl, rfl⟩
  refine (repeat_any k w (by omega) hk).mono fun e w' h => ⟨?_, h.2⟩
  rw [h.1, zer_rep ⟨k, by omega⟩]

set_option maxRecDepth 100000 in
set_option maxHeartbeats 2000000 in
theorem name_any (u : Nat) (w : World) (hu : u < 18446744073709551616) (hv : VarsS w) :
    Calls Tryz.prog 7 #[.int .u64 u] w fun e w' => e = .returned (.string (strB (nmL u))) ∧ Kept [] w w' := by
  have HP := hide (Lib.lt_pow_nDigits u)
  have HN := hide (by
    by_cases h0 : u = 0
    · subst h0; rw [Lib.nDigits_small (by omega)]; omega
    · have := Lib.numDigits_eq u (by omega) hu; split at this <;> omega : Lib.nDigits u ≤ 20)
  have HF := hide (fmtU_any u w hu hv)
  obtain ⟨nd, hnd⟩ : ∃ nd, Lib.nDigits u = nd := ⟨_, rfl⟩
  rw [hnd] at HP HN HF
  clear hnd hv
  have HS := hide (strB_size (dgs nd u))
  rw [dgs_len] at HS
  have HE := hide (by
    have h1 := dgs_pad nd u (unhide HP) (20 - nd)
    rw [Nat.sub_add_cancel (unhide HN)] at h1
    unfold nmL
    rw [h1, strB_app, strB_app, ← ByteArray.append_assoc]
    rfl : strB (nmL u) = (⟨#[115, 101, 103, 45]⟩ : ByteArray) ++ strB (List.replicate (20 - nd) 48) ++ strB (dgs nd u))
  obtain ⟨D, hD⟩ : ∃ D, strB (dgs nd u) = D := ⟨_, rfl⟩
  rw [hD] at HF HS HE
  clear hD
  have hsz : (D.size : Int) = nd := by rw [unhide HS]
  have hz0 : (strB (List.replicate (20 - nd) 48)).size = 20 - nd := by rw [strB_size, List.length_replicate]
  have hz1 : ¬ 9223372036854775807 < 4 + (strB (List.replicate (20 - nd) 48)).size := by omega
  have hz2 : ¬ 9223372036854775807 < 4 + (strB (List.replicate (20 - nd) 48)).size + D.size := by have := unhide HS; have := unhide HN; omega
  clear hz0
  have hsub : (20 : Int) - (nd : Int) = ((20 - nd : Nat) : Int) := by have := unhide HN; omega
  go_enter Tryz.func7, Tryz.ntmps7
  go_wp2_with fail
  refine Calls.mono (unhide HF) ?_
  rintro e w1 ⟨rfl, k1⟩
  have HK := hide k1
  clear k1
  go_wp2_with fail
  refine Calls.mono (rep0_any (20 - nd) _ (by omega)) ?_
  rintro e w2 ⟨rfl, rfl⟩
  go_wp2
  go_ret
  exact ⟨by rw [unhide HE]; rfl, unhide HK⟩

theorem row20 {j u : Nat} (hj : j < 20) : (((List.replicate (20 - j) 0 ++ dgs j u).map Go.Proofs.YtckkalmhekfnhabGreatDoor.u8).toArray).setIfInBounds (19 - j) (Go.Proofs.YtckkalmhekfnhabGreatDoor.u8 (48 + u / 10 ^ j % 10)) = ((List.replicate (20 - (j + 1)) 0 ++ dgs (j + 1) u).map Go.Proofs.YtckkalmhekfnhabGreatDoor.u8).toArray := by
  rw [dgs_cons, show 20 - j = (20 - (j + 1)) + 1 by omega, List.replicate_succ', show 19 - j = 20 - (j + 1) by omega]
  simp [List.set_append]

end Go.Proofs.YtckkalmhekfnhabGreatDoor
namespace Go.Proofs.YtckkalmhekfnhabGreatDoor
open Go.RowKit Go.BigFrame
set_option linter.unusedVariables false
set_option linter.unusedSimpArgs false

theorem pre_is (l : List Nat) : (strB ([115, 101, 103, 45] ++ l)).data.toList.take 4 = [115, 101, 103, 45] := by simp [strB]
theorem pre_cut (l : List Nat) : (strB ([115, 101, 103, 45] ++ l)).extract 4 (strB ([115, 101, 103, 45] ++ l)).size = strB l := by
  apply ByteArray.ext
  rw [ByteArray.data_extract, strB_size]
  simp [strB]
  rw [List.take_of_length_le (by simp)]

set_option maxRecDepth 100000 in
set_option maxHeartbeats 1000000 in
theorem hasSeg_any (s : ByteArray) (w : World) (hs : s.size ≤ 140737488355328) :
    Calls Tryz.prog 93 #[.string s, .string ⟨#[115, 101, 103, 45]⟩] w fun e w' => e = .returned (.bool (decide (4 ≤ s.size ∧ s.data.toList.take 4 = [115, 101, 103, 45]))) ∧ w' = w := by
  by_cases h4 : 4 ≤ s.size
  · have h1 : (4 : Int) ≤ s.size := by omega
    have HE := hide (by
      rw [ba_toListS, ext_take]
      by_cases h : s.data.toList.take 4 = [115, 101, 103, 45]
      · rw [decide_eq_true ⟨h4, h⟩, h]; decide
      · rw [decide_eq_false (fun x => h x.2)]; exact beq_eq_false_iff_ne.2 h : ((s.extract 0 4).toList == [115, 101, 103, 45]) = decide (4 ≤ s.size ∧ s.data.toList.take 4 = [115, 101, 103, 45]))
    go_enter Tryz.func93, Tryz.ntmps93
    go_wp2
    go_ret
    exact ⟨by rw [← unhide HE]; rfl, rfl⟩
  · have h1 : ¬ (4 : Int) ≤ s.size := by omega
    rw [decide_eq_false (fun x => h4 x.1)]
    go_enter Tryz.func93, Tryz.ntmps93
    go_wp2
    go_ret
    exact ⟨rfl, rfl⟩

set_option maxRecDepth 100000 in
set_option maxHeartbeats 1000000 in
theorem itrim_any (s : ByteArray) (w : World) (hs : s.size ≤ 140737488355328) :
    Calls Tryz.prog 59 #[.string s, .string ⟨#[115, 101, 103, 45]⟩] w fun e w' => ∃ t, e = .returned (.string t) ∧ t.size ≤ s.size ∧ (∀ l, s = strB ([115, 101, 103, 45] ++ l) → t = strB l) ∧ w' = w := by
  have HS := hide (hasSeg_any s w hs)
  by_cases hc : 4 ≤ s.size ∧ s.data.toList.take 4 = [115, 101, 103, 45]
  · rw [decide_eq_true hc] at HS
    have h1 : (4 : Int) ≤ s.size := by have := hc.1; omega
    clear hc
    go_enter Tryz.func59, Tryz.ntmps59
    go_wp2_with fail
    refine Calls.mono (unhide HS) ?_
    rintro e w1 ⟨rfl, rfl⟩
    go_wp2
    go_ret
    exact ⟨_, rfl, by simp, fun l hl => by subst hl; exact pre_cut l, rfl⟩
  · rw [decide_eq_false hc] at HS
    have HC := hide hc
    clear hc
    go_enter Tryz.func59, Tryz.ntmps59
    go_wp2_with fail
    refine Calls.mono (unhide HS) ?_
    rintro e w1 ⟨rfl, rfl⟩
    go_wp2
    go_ret
    exact ⟨_, rfl, Nat.le_refl _, fun l hl => absurd ⟨by rw [hl, strB_size]; simp, by rw [hl]; exact pre_is l⟩ (unhide HC), rfl⟩

set_option maxRecDepth 100000 in
set_option maxHeartbeats 1000000 in
theorem trim_any (s : ByteArray) (w : World) (hs : s.size ≤ 140737488355328) :
    Calls Tryz.prog 31 #[.string s, .string ⟨#[115, 101, 103, 45]⟩] w fun e w' => ∃ t, e = .returned (.string t) ∧ t.size ≤ s.size ∧ (∀ l, s = strB ([115, 101, 103, 45] ++ l) → t = strB l) ∧ w' = w := by
  go_enter Tryz.func31, Tryz.ntmps31
  go_wp2_with fail
  refine Calls.mono (itrim_any s _ hs) ?_
  rintro e w1 ⟨t, rfl, h1, h2, rfl⟩
  have H1 := hide h1
  have H2 := hide h2
  clear h1 h2
  go_wp2
  go_ret
  exact ⟨t, rfl, unhide H1, unhide H2, rfl⟩

/-- ParseUint of any string. -/
theorem parse2_any (s : ByteArray) (w : World) (hs : s.size ≤ 140737488355328) (hv : VarsS w) :
    Calls Tryz.prog 30 #[.string s, .int .i64 10, .int .i64 64] w fun e w' => ∃ (u : Nat) (er : Value), e = .returned (.tuple #[.int .u64 u, er]) ∧ u < 18446744073709551616 ∧ (er = .nilIface ∨ ∃ t N, er = .iface t (.pointer (some ⟨N, 0, none⟩))) ∧ Kept [] w w' := by
  obtain ⟨_, ⟨t1, p1, h1⟩, t2, p2, h2⟩ := hv
  cases h : Lib.parseUintB 64 s.data.toList with
  | ok u =>
    refine (Tryz.strconv_ParseUint_10_at64_ok s (by omega) u h w).mono fun e w' hh => ⟨u, .nilIface, hh.1, by have := Lib.parseUintB_le h; omega, Or.inl rfl, ?_⟩
    rcases hh.2 with rfl | rfl
    · exact Kept.refl _ _
    · exact sbw_kept _ _ _
  | «syntax» =>
    refine (Tryz.strconv_ParseUint_10_at64_syntax_var s (by omega) h t1 p1 w h1).mono fun e w' hh => ?_
    obtain ⟨N, h3, _, _, h4⟩ := hh
    exact ⟨0, _, h3, by omega, Or.inr ⟨_, _, rfl⟩, Kept.ofBelow h4 (Nat.le_refl _)⟩
  | range =>
    refine (Tryz.strconv_ParseUint_10_at64_range_var s (by omega) h t2 p2 w h2).mono fun e w' hh => ?_
    obtain ⟨N, h3, _, _, h4⟩ := hh
    exact ⟨18446744073709551615, _, h3, by omega, Or.inr ⟨_, _, rfl⟩, Kept.ofBelow h4 (Nat.le_refl _)⟩

theorem str_ne {s t : ByteArray} (h : s ≠ t) : (s.toList == t.toList) = false := by
  rw [ba_toListS, ba_toListS]
  refine beq_eq_false_iff_ne.2 fun e => h ?_
  apply ByteArray.ext
  exact Array.toList_inj.1 e

set_option maxRecDepth 100000 in
set_option maxHeartbeats 1000000 in
theorem number_yes (u : Nat) (w : World) (hu : u < 18446744073709551616) (hv : VarsS w) :
    Calls Tryz.prog 8 #[.string (strB (nmL u))] w fun e w' => e = .returned (.tuple #[.int .u64 u, .int .i64 0]) ∧ Kept [] w w' := by
  have HV := hide hv
  have HSZ := hide (by rw [strB_size, nmL_len]; omega : (strB (nmL u)).size ≤ 140737488355328)
  have HT := hide (fun t (h : ∀ l, strB (nmL u) = strB ([115, 101, 103, 45] ++ l) → t = strB l) => h (dgs 20 u) rfl : ∀ t : ByteArray, (∀ l, strB (nmL u) = strB ([115, 101, 103, 45] ++ l) → t = strB l) → t = strB (dgs 20 u))
  have HP := hide (fun W => parse_any (dgs 20 u) W (by rw [dgs_len]; omega) (by rw [dgs_len]; omega) (dgs_dig 20 u) (by rw [dval_dgs, Nat.mod_eq_of_lt (by omega)]; exact hu))
  simp only [dval_dgs, Nat.mod_eq_of_lt (show u < 10 ^ 20 by omega)] at HP
  have HN := hide (fun W (h : VarsS W) => name_any u W hu h)
  obtain ⟨S, hS⟩ : ∃ S, strB (nmL u) = S := ⟨_, rfl⟩
  rw [hS] at HSZ HT HN ⊢
  have heq : (S.toList == S.toList) = true := by simp
  clear hS hv
  go_enter Tryz.func8, Tryz.ntmps8
  go_wp2_with fail
  refine Calls.mono (trim_any S _ (unhide HSZ)) ?_
  rintro e w1 ⟨t, rfl, _, h2, rfl⟩
  obtain rfl := unhide HT t h2
  clear h2
  go_wp2_with fail
  refine Calls.mono (unhide HP _) ?_
  rintro e w2 ⟨rfl, k2⟩
  have HK2 := hide k2
  clear k2
  go_wp2_with fail
  refine Calls.mono (unhide HN _ ((unhide HV).old (unhide HK2))) ?_
  rintro e w3 ⟨rfl, k3⟩
  have HK3 := hide ((unhide HK2).trans k3 (by simp))
  clear k3
  go_wp2
  go_ret2
  exact ⟨rfl, unhide HK3⟩

set_option maxRecDepth 100000 in
set_option maxHeartbeats 1000000 in
theorem number_no (s : ByteArray) (w : World) (hs : s.size ≤ 140737488355328) (h : ∀ u, u < 18446744073709551616 → s ≠ strB (nmL u)) (hv : VarsS w) :
    Calls Tryz.prog 8 #[.string s] w fun e w' => e = .returned (.tuple #[.int .u64 0, .int .i64 3]) ∧ Kept [] w w' := by
  have HV := hide hv
  have HH := hide h
  clear h hv
  go_enter Tryz.func8, Tryz.ntmps8
  go_wp2_with fail
  refine Calls.mono (trim_any s _ hs) ?_
  rintro e w1 ⟨t, rfl, h1, _, rfl⟩
  have H1 := hide h1
  clear h1
  go_wp2_with fail
  refine Calls.mono (parse2_any t _ (by have := unhide H1; omega) (unhide HV)) ?_
  rintro e w2 ⟨u, er, rfl, hu, her, k2⟩
  have HK2 := hide k2
  clear k2
  rcases her with rfl | ⟨t9, N9, rfl⟩
  · go_wp2_with fail
    refine Calls.mono (name_any u _ hu ((unhide HV).old (unhide HK2))) ?_
    rintro e w3 ⟨rfl, k3⟩
    have HK3 := hide ((unhide HK2).trans k3 (by simp))
    clear k3
    have hne := str_ne (fun e => unhide HH u hu e.symm)
    generalize strB (nmL u) = S at hne ⊢
    go_wp2
    go_ret2
    exact ⟨rfl, unhide HK3⟩
  · go_wp2
    go_ret2
    exact ⟨rfl, unhide HK2⟩
end Go.Proofs.YtckkalmhekfnhabGreatDoor
namespace Go.Proofs.YtckkalmhekfnhabGreatDoor
open Go.RowKit Go.BigFrame
set_option linter.unusedVariables false
set_option linter.unusedSimpArgs false

/-- One digit more, as DocNumber adds them up. -/
def stp (v c : Nat) : Nat := (10 * v + c + 18446744073709551568) % 18446744073709551616
theorem stp_lt (v c : Nat) : stp v c < 18446744073709551616 := by unfold stp; exact Nat.mod_lt _ (Nat.zero_lt_succ _)
theorem stp_dig {v c : Nat} (h : 48 ≤ c) (hl : v * 10 + (c - 48) < 18446744073709551616) : stp v c = v * 10 + (c - 48) := by unfold stp; omega
theorem stp_int (v c : Nat) (hc : c < 256) : IntKind.u64.wrap (IntKind.u64.wrap (IntKind.u64.wrap (10 * (v : Int)) + IntKind.u64.wrap (c : Int)) - 48) = ((stp v c : Nat) : Int) := by
  rw [IntKind.wrap_u64, IntKind.wrap_u64, IntKind.wrap_u64, IntKind.wrap_u64]
  unfold stp
  omega
def dv (a : Nat) (m : List Nat) : Nat := m.foldl stp a
theorem dv_cons (a x : Nat) (r : List Nat) : dv a (x :: r) = dv (stp a x) r := by unfold dv; rw [List.foldl_cons]
theorem dv_snoc (a : Nat) (m : List Nat) (c : Nat) : dv a (m ++ [c]) = stp (dv a m) c := by unfold dv; rw [List.foldl_append, List.foldl_cons, List.foldl_nil]
theorem dv_lt (m : List Nat) : ∀ a, a < 18446744073709551616 → dv a m < 18446744073709551616 := by
  induction m with
  | nil => intro a h; exact h
  | cons x r ih => intro a h; rw [dv_cons]; exact ih _ (stp_lt _ _)
def fd (a : Nat) (m : List Nat) : Nat := m.foldl (fun a d => a * 10 + (d - 48)) a
theorem fd_cons (a x : Nat) (r : List Nat) : fd a (x :: r) = fd (a * 10 + (x - 48)) r := by unfold fd; rw [List.foldl_cons]
theorem fd_ge (m : List Nat) : ∀ a, a ≤ fd a m := by
  induction m with
  | nil => intro a; exact Nat.le_refl _
  | cons x r ih => intro a; rw [fd_cons]; exact Nat.le_trans (by omega) (ih _)
theorem dv_fold (m : List Nat) : ∀ a, (∀ x ∈ m, 48 ≤ x) → fd a m < 18446744073709551616 → dv a m = fd a m := by
  induction m with
  | nil => intro a _ _; unfold dv fd; rw [List.foldl_nil, List.foldl_nil]
  | cons x r ih =>
    intro a hx hl
    rw [fd_cons] at hl ⊢
    have h1 := fd_ge r (a * 10 + (x - 48))
    rw [dv_cons, stp_dig (hx x (by simp)) (Nat.lt_of_le_of_lt h1 hl)]
    exact ih _ (fun y hy => hx y (by simp [hy])) hl
theorem dv_name {u : Nat} (hu : u < 18446744073709551616) : dv 0 ((nmL u).drop 4) = u := by
  have h0 : (nmL u).drop 4 = dgs 20 u := by unfold nmL; simp
  have h1 : fd 0 (dgs 20 u) = u := by
    have h2 := dval_dgs 20 u
    rw [Nat.mod_eq_of_lt (Nat.lt_of_lt_of_le hu (by decide))] at h2
    exact h2
  rw [h0, dv_fold _ 0 (fun x hx => (dgs_dig 20 u x hx).1) (by rw [h1]; exact hu)]
  exact h1

end Go.Proofs.YtckkalmhekfnhabGreatDoor
namespace Go.Proofs.YtckkalmhekfnhabGreatDoor
open Go.RowKit Go.BigFrame
set_option linter.unusedVariables false
set_option linter.unusedSimpArgs false

theorem firstF_zeros (m : Nat) : firstF (List.replicate m 0) = none := by
  have := firstF_torn 0 [] 0 m (by decide) (by decide) (by simp) (by simp)
  simpa using this
/-- Nothing without the whole head. -/
theorem seg_headless {a b c cut m : Nat} {z : Int} {R : List Nat} (ha : a < 18446744073709551616) (hz : wideB z = true) (hc : cut < 48) :
    hdC ((ehB a b c z ++ R).take cut ++ List.replicate m 0) = ⟨0, 0, 0, 0⟩ ∧ sgE ((ehB a b c z ++ R).take cut ++ List.replicate m 0) = 3 ∧ sgB ((ehB a b c z ++ R).take cut ++ List.replicate m 0) = [] ∧ sgU ((ehB a b c z ++ R).take cut ++ List.replicate m 0) = 0 := by
  have he : ehB a b c z = frB a (headB a b c z) := by simp [ehB, hz]
  have ht : (ehB a b c z ++ R).take cut = (frB a (headB a b c z)).take cut := by
    rw [List.take_append_of_le_length (by rw [ehB_len hz]; omega), he]
  have hf := firstF_torn a (headB a b c z) cut m ha (by rw [headB_len]; decide) (headB_byte a b c z) (by rw [headB_len]; omega)
  rw [← ht] at hf
  have hn : hdF ((ehB a b c z ++ R).take cut ++ List.replicate m 0) = none := by unfold hdF; rw [hf]
  refine ⟨by simp [hdC, hn], by simp [sgE, hn], by simp [sgB, hn], by simp [sgU, hn]⟩
theorem rb_none {p : List Nat} {n i : Nat} (hn : n ≤ p.length) (h : firstF (p.drop n) = none) : rbOk p (n : Nat) i = false := by
  unfold rbOk
  have : (nextF p (n : Nat)).kind ≠ 1 := by
    unfold nextF
    by_cases h1 : (n : Int) = p.length
    · rw [if_pos h1]; simp
    · rw [if_neg h1, if_neg (by omega), Int.toNat_natCast, h]; simp
  simp [this]
/-- A beginning, with noughts behind it: just the batches that are there whole. -/
theorem seg_torn {a b c cut m k : Nat} {z : Int} {L : List (List En)} (ha : a < 18446744073709551616) (hb : b < 18446744073709551616) (hc : c < 18446744073709551616) (hz : wideB z = true) (hk : okS c L = true) (hy : ∀ es ∈ L, byN es) (hkl : k ≤ (numS c L).length)
    (h1 : 48 + (runS ((numS c L).take k)).length ≤ cut) (h2 : k = (numS c L).length ∨ cut < 48 + (runS ((numS c L).take (k + 1))).length) :
    hdC ((ehB a b c z ++ runS (numS c L)).take cut ++ List.replicate m 0) = ⟨a, b, c, z.toNat⟩ ∧ sgE ((ehB a b c z ++ runS (numS c L)).take cut ++ List.replicate m 0) = 0 ∧ sgB ((ehB a b c z ++ runS (numS c L)).take cut ++ List.replicate m 0) = (numS c L).take k ∧
      sgU ((ehB a b c z ++ runS (numS c L)).take cut ++ List.replicate m 0) = 48 + (runS ((numS c L).take k)).length := by
  obtain ⟨D, hD⟩ : ∃ D, numS c L = D := ⟨_, rfl⟩
  have hmem := okS_mem c L hk
  have hsplit : ehB a b c z ++ runS D = (ehB a b c z ++ runS (D.take k)) ++ runS (D.drop k) := by rw [List.append_assoc, ← runS_app, List.take_append_drop]
  have hlen : (ehB a b c z ++ runS (D.take k)).length = 48 + (runS (D.take k)).length := by rw [List.length_append, ehB_len hz]
  rw [hD] at h1 h2 hkl hmem
  obtain ⟨q1, q2, R, g, q3, q4⟩ := seg_run (L := L.take k) ((runS (D.drop k)).take (cut - (48 + (runS (D.take k)).length)) ++ List.replicate m 0) ha hb hc hz (okS_take k c L hk) (fun x hx => hy x (List.mem_of_mem_take hx))
  rw [numS_take, hD] at q1 q2 q3 q4
  have hT : (ehB a b c z ++ runS D).take cut ++ List.replicate m 0 = ehB a b c z ++ (runS (D.take k) ++ ((runS (D.drop k)).take (cut - (48 + (runS (D.take k)).length)) ++ List.replicate m 0)) := by
    rw [hsplit, List.take_append, hlen, List.take_of_length_le (by rw [hlen]; exact h1)]
    simp only [List.append_assoc]
  have hnone : firstF ((runS (D.drop k)).take (cut - (48 + (runS (D.take k)).length)) ++ List.replicate m 0) = none := by
    by_cases hkD : k < D.length
    · have hck := hmem D[k] (List.getElem_mem _)
      have hcut : cut < 48 + (runS (D.take (k + 1))).length := by omega
      rw [List.take_add_one, List.getElem?_eq_getElem hkD] at hcut
      simp only [Option.toList_some] at hcut
      rw [runS_app, List.length_append, runS_one, sbB_len hck] at hcut
      have hfl : D[k].1 < 18446744073709551616 := by have := chkB_lt hck; omega
      have hbl := batB_lenS hck hfl
      have hby : byN D[k].2 := by
        have hkL : k < L.length := by rw [← numS_len c L, hD]; exact hkD
        have h9 := endS_take k c L hkL
        rw [hD, List.getElem?_eq_getElem hkD] at h9
        have h10 := congrArg Prod.snd (Option.some.inj h9)
        simp only at h10
        rw [h10]
        exact hy _ (List.getElem_mem _)
      have hsb : sbB D[k].1 D[k].2 = frB D[k].1 (batB D[k].1 D[k].2) := by unfold sbB; rw [if_pos hck]
      rw [List.drop_eq_getElem_cons hkD, runS_cons, List.take_append_of_le_length (by rw [sbB_len hck]; omega), hsb]
      exact firstF_torn _ _ _ m hfl (by omega) (batB_byte hby) (by omega)
    · rw [List.drop_eq_nil_of_le (by omega)]
      simp only [runS, List.flatMap_nil, List.take_nil, List.nil_append]
      exact firstF_zeros m
  have hrb : rbOk (ehB a b c z ++ (runS (D.take k) ++ ((runS (D.drop k)).take (cut - (48 + (runS (D.take k)).length)) ++ List.replicate m 0))) ((48 + (runS (D.take k)).length : Nat) : Int) (endS c (L.take k)) = false := by
    refine rb_none (by rw [← List.append_assoc, List.length_append, hlen]; omega) ?_
    rw [← List.append_assoc, ← hlen, List.drop_left, hlen]
    exact hnone
  rw [rdL_no hrb] at q4
  obtain ⟨rfl, q6⟩ := Prod.mk.inj q4
  rw [hD, hT]
  exact ⟨q1, q2, by rw [q3, List.append_nil], q6⟩
end Go.Proofs.YtckkalmhekfnhabGreatDoor
namespace Go.Proofs.YtckkalmhekfnhabGreatDoor
open Go.RowKit Go.BigFrame
set_option linter.unusedVariables false
set_option linter.unusedSimpArgs false

theorem less_lists : ∀ (p q : List Nat), (∀ x ∈ p, x < 256) → (∀ x ∈ q, x < 256) → p < q → Op.bytesLess (p.map UInt8.ofNat) (q.map UInt8.ofNat) = true
  | [], [], _, _, h => absurd h (List.lt_irrefl _)
  | [], y :: q, _, _, _ => by simp [Op.bytesLess]
  | x :: p, [], _, _, h => absurd h (List.not_lt_nil _)
  | x :: p, y :: q, hp, hq, h => by
    have hx := hp x (by simp)
    have hy := hq y (by simp)
    rcases List.cons_lt_cons_iff.1 h with h | ⟨rfl, h2⟩
    · have h1 : (UInt8.ofNat x) < (UInt8.ofNat y) := by rw [UInt8.lt_iff_toNat_lt]; simp [Nat.mod_eq_of_lt hx, Nat.mod_eq_of_lt hy, h]
      simp [Op.bytesLess, h1]
    · have ih := less_lists p q (fun z hz => hp z (by simp [hz])) (fun z hz => hq z (by simp [hz])) h2
      simp [Op.bytesLess, ih]
theorem less_of_lt {p q : List Nat} (hp : ∀ x ∈ p, x < 256) (hq : ∀ x ∈ q, x < 256) (h : p < q) : Op.bytesLess (strB p).toList (strB q).toList = true := by
  rw [ba_toListS, ba_toListS]
  have := less_lists p q hp hq h
  simpa [strB] using this

end Go.Proofs.YtckkalmhekfnhabGreatDoor
