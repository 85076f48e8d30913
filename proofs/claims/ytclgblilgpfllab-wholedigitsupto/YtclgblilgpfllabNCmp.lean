import Derived.Test.YtclgblilgpfllabNCom
import Derived.Lib.Bytealg
import Derived.Laws.Externs
namespace Go.Proofs.Ytclgblilgpfllab
open Go.RowKit Go.BigFrame
set_option linter.unusedVariables false
set_option linter.unusedSimpArgs false

/-- Bytes held against one another. -/
def ordL : List Nat → List Nat → Int
  | [], [] => 0
  | [], _ :: _ => -1
  | _ :: _, [] => 1
  | x :: a, y :: b => if x < y then -1 else if y < x then 1 else ordL a b
def b8 (x : Nat) : UInt8 := ((x : Int)).toNat.toUInt8
theorem b8_lt {x y : Nat} (hx : x < 256) (hy : y < 256) : (b8 x < b8 y) ↔ x < y := by
  unfold b8
  rw [Int.toNat_natCast, Int.toNat_natCast, UInt8.lt_iff_toNat_lt, Nat.toUInt8_eq, Nat.toUInt8_eq, UInt8.toNat_ofNat', UInt8.toNat_ofNat']
  rw [Nat.mod_eq_of_lt (by omega), Nat.mod_eq_of_lt (by omega)]
theorem cmp_ord : ∀ (a b : List Nat), (∀ x ∈ a, x < 256) → (∀ x ∈ b, x < 256) → Lib.compareBytes (a.map b8) (b.map b8) = ordL a b
  | [], [], _, _ => rfl
  | [], _ :: _, _, _ => rfl
  | _ :: _, [], _, _ => rfl
  | x :: a, y :: b, ha, hb => by
    have h1 := b8_lt (ha x (by simp)) (hb y (by simp))
    have h2 := b8_lt (hb y (by simp)) (ha x (by simp))
    simp only [List.map_cons, Lib.compareBytes, ordL]
    rw [cmp_ord a b (fun z hz => ha z (by simp [hz])) (fun z hz => hb z (by simp [hz]))]
    by_cases g1 : x < y
    · rw [if_pos (h1.2 g1), if_pos g1]
    · rw [if_neg (fun h => g1 (h1.1 h)), if_neg g1]
      by_cases g2 : y < x
      · rw [if_pos (h2.2 g2), if_pos g2]
      · rw [if_neg (fun h => g2 (h2.1 h)), if_neg g2]
theorem run_loadBytes {P : Program} {w : World} {g : Nat} : ∀ (bs : List Nat) (off : Nat) (acc : ByteArray), (∀ i, i < bs.length → w.cell? ⟨g, off + i, none⟩ = some (u8 (bs.getD i 0))) →
    ∃ r : ByteArray, (Extern.Bytes.loadBytes ⟨g, off, none⟩ bs.length acc).run P w = .ok r w ∧ r.data.toList = acc.data.toList ++ bs.map b8
  | [], off, acc, _ => ⟨acc, rfl, by simp⟩
  | x :: bs, off, acc, h => by
    have h0 := h 0 (by simp)
    obtain ⟨r, hr, he⟩ := run_loadBytes (P := P) bs (off + 1) (acc.push (b8 x)) (fun i hi => by
      have := h (i + 1) (by simp; omega)
      rw [show off + 1 + i = off + (i + 1) by omega]
      exact this)
    refine ⟨r, ?_, ?_⟩
    · rw [List.length_cons, Extern.Bytes.loadBytes, Sem.run_bind, run_load]
      rw [Nat.add_zero] at h0
      rw [h0]
      exact hr
    · rw [he]; simp [ByteArray.push]
theorem run_cmp {P : Program} {w : World} {g g' : Nat} (a b : List Nat) (c c' n n' : Nat) (hn : a.length = n) (hn' : b.length = n') (ha : ∀ x ∈ a, x < 256) (hb : ∀ x ∈ b, x < 256) (h : ∀ i, i < a.length → w.cell? ⟨g, i, none⟩ = some (u8 (a.getD i 0))) (h' : ∀ i, i < b.length → w.cell? ⟨g', i, none⟩ = some (u8 (b.getD i 0))) :
    (Extern.BytealgCompare.compare #[.slice (some ⟨g, 0, none⟩) n c, .slice (some ⟨g', 0, none⟩) n' c']).run P w = .ok (.int .i64 (ordL a b)) w := by
  subst hn; subst hn'
  obtain ⟨r, hr, he⟩ := run_loadBytes (P := P) (w := w) (g := g) a 0 .empty (fun i hi => by rw [Nat.zero_add]; exact h i hi)
  obtain ⟨r', hr', he'⟩ := run_loadBytes (P := P) (w := w) (g := g') b 0 .empty (fun i hi => by rw [Nat.zero_add]; exact h' i hi)
  change Sem.run P (do pure (goInt (Extern.BytealgCompare.cmp (← Extern.Bytes.loadBytes ⟨g, 0, none⟩ a.length .empty) (← Extern.Bytes.loadBytes ⟨g', 0, none⟩ b.length .empty)))) w = _
  simp only [Sem.run_bind, hr, hr', Sem.run_pure, Result.andThen]
  rw [Lib.cmp_eq, he, he']
  show Result.ok (goInt (Lib.compareBytes (a.map b8) (b.map b8))) w = _
  rw [cmp_ord a b ha hb]
  rfl

set_option maxRecDepth 100000 in
set_option maxHeartbeats 1000000 in
theorem bcompare_any (a b : List Nat) (g g' c c' : Nat) (w : World) (ha : Dg a) (hb : Dg b) (h : ∀ i, i < a.length → w.cell? ⟨g, i, none⟩ = some (u8 (a.getD i 0))) (h' : ∀ i, i < b.length → w.cell? ⟨g', i, none⟩ = some (u8 (b.getD i 0))) :
    Calls Try.prog 20 #[.slice (some ⟨g, 0, none⟩) 32 c, .slice (some ⟨g', 0, none⟩) 32 c'] w fun e w' => e = .returned (.int .i64 (ordL a b)) ∧ w' = w := by
  have HC := hide (fun (P : Program) => run_cmp (P := P) a b c c' 32 32 ha.1 hb.1 ha.2 hb.2 h h')
  clear h h'
  go_enter Try.func20, Try.ntmps20
  go_wp2
  rw [run_callFunc_extern Try.func21 (by kernel_rfl) (by kernel_rfl) (by kernel_rfl) (e := Extern.BytealgCompare.compare) (by kernel_rfl), unhide HC]
  simp only [Result.andThen]
  rw [Oper.upon_value]
  go_wp2
  go_ret
  exact ⟨rfl, rfl⟩

/-- What Order answers. -/
def ordC (z : Int) (a b : List Nat) : Int := if formedE z [a, b] = 0 then ordL a b else 0

set_option maxRecDepth 100000 in
set_option maxHeartbeats 1000000 in
theorem order_any (z : Int) (a b : List Nat) (w : World) (hz : -9223372036854775808 ≤ z ∧ z ≤ 9223372036854775807) (ha : Dg a) (hb : Dg b) :
    Calls Try.prog 14 #[.int .i64 z, .agg (brow a), .agg (brow b)] w fun e w' => e = .returned (.tuple #[.int .i64 (ordC z a b), .int .i64 (formedE z [a, b] : Int)]) ∧ Kept [] w w' := by
  have HA := hide ha
  have HB := hide hb
  have hal := ha.1
  have hbl := hb.1
  have HGA := hide (((Kept.refl [] (w.alloc (.cells (brow a) 29))).alloc (.cells (brow b) 29)).heap (heap_alloc_new w (.cells (brow a) 29)) (by simp))
  have HGB := hide (alloc_at w (.cells (brow a) 29) (.cells (brow b) 29))
  have HK0 := hide (((Kept.refl [] w).alloc (.cells (brow a) 29)).alloc (.cells (brow b) 29))
  have HC := hide (by unfold ordC; rfl : ordC z a b = if formedE z [a, b] = 0 then ordL a b else 0)
  obtain ⟨f, hf⟩ : ∃ f, formedE z [a, b] = f := ⟨_, rfl⟩
  obtain ⟨C, hC⟩ : ∃ C, ordC z a b = C := ⟨_, rfl⟩
  have HFF := hide hf
  rw [hf, hC] at HC
  rw [hf, hC]
  clear hf hC
  have hfs : ∀ A : Array Value, (List.foldl (fun cs x => cs.setIfInBounds x.snd x.fst) A (List.map u8 a).zipIdx).size = A.size := fun A => fold_size _ A 0
  go_enter Try.func14, Try.ntmps14
  go_wp2_with (first
    | (refine wpList_load_mid rfl 29 _ rfl w.heap.size 0 rfl (a.map u8) _ (range_row (unhide HGA)) Try.underlying29 rfl (by rw [List.length_map, hal]; exact Try.size_dig) ?_)
    | (refine wpList_load_mid rfl 29 _ rfl (w.heap.size + 1) 0 rfl (b.map u8) _ (range_row (unhide HGB)) Try.underlying29 rfl (by rw [List.length_map, hbl]; exact Try.size_dig) ?_))
  rw [zb64, two_digs a b hal hbl]
  clear hfs
  refine Calls.mono (nformed_any z _ [a, b] _ hz (RdD.two (alloc3_at _ _ _ _) hal hbl ha.2 hb.2)) ?_
  rintro e w1 ⟨rfl, k1⟩
  have k01 := ((Kept.refl [] ((w.alloc (.cells (brow a) 29)).alloc (.cells (brow b) 29))).alloc (.cells (a.map u8 ++ b.map u8).toArray 29)).trans k1 (by simp)
  have HK1 := hide ((unhide HK0).trans k01 (by simp))
  have HG1 := hide (k01.heap (unhide HGA) (by simp))
  have HG2 := hide (k01.heap (unhide HGB) (by simp))
  clear k1 k01 HGA HGB
  rw [unhide HFF]
  by_cases hf0 : f = 0
  · subst hf0
    rw [if_pos rfl] at HC
    clear HFF
    go_wp2_with fail
    refine wp_quiet_tail 2 (by kernel_rfl) (by kernel_rfl) ?_
    simp only [List.take_succ_cons, List.take_zero, List.drop_succ_cons, List.drop_zero]
    repeat (go_big_quiet_step (fail))
    refine wpQuiet_nil ?_
    intro _ hw'
    obtain ⟨n1, hw''⟩ := hw'
    subst hw''
    have HG3 := hide (((Kept.refl [] w1).drewN n1).heap (unhide HG1) (by simp))
    have HG4 := hide (((Kept.refl [] w1).drewN n1).heap (unhide HG2) (by simp))
    have HK2 := hide ((unhide HK1).drewN n1)
    go_wp2_with fail
    refine Calls.mono (bcompare_any a b _ _ _ _ _ ha hb (fun i hi => brow_cell (unhide HG3) i hi) (fun i hi => brow_cell (unhide HG4) i hi)) ?_
    rintro e w2 ⟨rfl, rfl⟩
    go_wp2
    go_ret2
    exact ⟨by rw [unhide HC]; rfl, unhide HK2⟩
  · have hf0' : ((f : Int) != 0) = true := by rw [bne_iff_ne]; omega
    rw [if_neg hf0] at HC
    clear HFF
    go_wp2
    go_ret2
    exact ⟨by rw [unhide HC]; rfl, unhide HK1⟩
end Go.Proofs.Ytclgblilgpfllab
