import Derived.Test.YtkcanelboloihaaEDocT0
import Derived.Test.YtkcanelboloihaaEDocT1
import Derived.Test.YtkcanelboloihaaEDocT2
import Derived.Test.YtkcanelboloihaaRefTake3
import Derived.Test.YtkcanelboloihaaEAw
import Derived.Test.YtkcanelboloihaaRBlob
import Derived.Test.YtkcanelboloihaaESameB
import Derived.Test.YtkcanelboloihaaBase
import Derived.Test.YtkcanelboloihaaRows
import Derived.ProofKit
import Derived.OpenShut
import Derived.Deep.Slices
import Derived.SizedLaws
namespace Go.Proofs.Ytkcanelboloihaa
open Go.RowKit Go.BigFrame
set_option linter.unusedVariables false
set_option linter.unusedSimpArgs false

set_option maxRecDepth 100000 in
set_option maxHeartbeats 2000000 in
theorem refTake_3 (ao : Option Addr) (c : Nat) (p : List Nat) (i e : Nat) (w : World) (h : Rd w (.slice ao p.length c) p) (hi : i ≤ p.length) (hx0 : (rNum p i e 1).1 ≠ 1 ∧ (rNum p i e 1).1 ≠ 2) :
    Calls Try.prog 73 #[rrV (.slice ao p.length c) i e] w fun r w' => ∃ kv vv, r = .returned (.tuple #[.agg (enC (docT p i e).1 kv vv), rrV (.slice ao p.length c) (docT p i e).2.1 (docT p i e).2.2]) ∧ OkE w' (docT p i e).1 kv vv ∧ Kept [] w w' ∧ ∀ y, y ∈ blk kv ∨ y ∈ blk vv → w.heap.size ≤ y := by
  have H := hide h
  clear h
  obtain ⟨D, hD⟩ : ∃ D, docT p i e = D := ⟨_, rfl⟩
  rw [hD]
  have HD := hide hD
  unfold docT at HD
  clear hD
  have HT0 := hide (TK.start w (.slice ao p.length c) i e)
  have hne : ∀ n, w.heap.size ≠ w.heap.size + n + 1 := fun n => by omega
  go_enter Try.func73, Try.ntmps73
  go_wp2_with fail
  refine Calls.mono (takeWide_any ao c p i e 1 _ ((unhide H).old (unhide HT0).kept (by simp)) hi (by decide)) ?_
  rintro r w1 ⟨rfl, k1⟩
  have hxl := ru_lt p i e 1
  have hli1 := rNum_le' (p := p) (i := i) (e := e) (n := 1) hi
  obtain ⟨x, hx⟩ : ∃ x, rNum p i e 1 = x := ⟨_, rfl⟩
  rw [hx] at HD hxl hli1 hx0 ⊢
  clear hx
  obtain ⟨x, i1, e1⟩ := x
  simp only at HD hxl hli1 hx0 ⊢
  have HT1 := hide ((unhide HT0).old k1)
  clear k1
  have hzz := hli1
  obtain ⟨hx1, hx2⟩ := hx0
  have hb1 : ((x : Int) != 1) = true := by rw [bne_iff_ne]; omega
  have hb2 : ((x : Int) != 2) = true := by rw [bne_iff_ne]; omega
  have hb3 : ((x : Int) == 1) = false := by rw [beq_eq_false_iff_ne]; omega
  obtain ⟨y, hy⟩ : ∃ y, x % 256 = y := ⟨_, rfl⟩
  have hy256 : y < 256 := by omega
  have hkw : IntKind.u8.wrap (x : Int) = (y : Int) := by simp [IntKind.wrap, IntKind.signed, IntKind.bits]; omega
  have hkm : (x : Int) % 256 = (y : Int) := by omega
  have HYY := hide hy
  clear hy
  have hik : Try.prog.intKind 5 = .u8 := by kernel_rfl
  obtain ⟨⟨s0, s1, s2⟩, t0, t1, t2⟩ := three (unhide HT1).r
  obtain ⟨⟨d0, d1, d2⟩, f0, f1, f2⟩ := three (unhide HT1).c
  have HTQ := hide ((unhide HT1).setR (.slice ao p.length c) i1 e1)
  go_wp2_with fail
  clear s0 s1 s2 t0 t1 t2 d0 d1 d2 f0 f1 f2
  obtain ⟨WQ, hWQ⟩ : ∃ W, (((w1.setCell ⟨w.heap.size, 0, none⟩ (.slice ao p.length c)).setCell ⟨w.heap.size, 1, none⟩ (.int .i64 (i1 : Int))).setCell ⟨w.heap.size, 2, none⟩ (.int .i64 (e1 : Int))) = W := ⟨_, rfl⟩
  rw [hWQ] at HTQ ⊢
  clear hWQ
  refine Calls.mono (failed_any ao p.length c i1 e1 3 WQ) ?_
  rintro r w4 ⟨rfl, k4⟩
  obtain ⟨f1n, hf1n⟩ : ∃ f, (if e1 = 0 then 3 else e1) = f := ⟨_, rfl⟩
  have HF1 := hide hf1n
  rw [hf1n]
  clear hf1n
  have HT4 := hide ((unhide HTQ).old k4)
  clear k4
  obtain ⟨⟨s0, s1, s2⟩, t0, t1, t2⟩ := three (unhide HT4).r
  obtain ⟨⟨d0, d1, d2⟩, f0, f1, f2⟩ := three (unhide HT4).c
  have HTA := hide (((unhide HT4).setR (.slice ao p.length c) i1 f1n).setK y)
  go_wp2_with fail
  clear s0 s1 s2 t0 t1 t2 d0 d1 d2 f0 f1 f2
  obtain ⟨WA, hWA⟩ : ∃ W, ((((w4.setCell ⟨w.heap.size, 0, none⟩ (.slice ao p.length c)).setCell ⟨w.heap.size, 1, none⟩ (.int .i64 (i1 : Int))).setCell ⟨w.heap.size, 2, none⟩ (.int .i64 (f1n : Int))).setCell ⟨w.heap.size + 1 + 1 + 1, 0, none⟩ (.int .u8 (y : Int))) = W := ⟨_, rfl⟩
  rw [hWA] at HTA ⊢
  clear hWA
  refine Calls.mono (takeBlob_any ao c p i1 f1n 64 WA ((unhide H).old (unhide HTA).kept (by simp)) hli1 (by decide)) ?_
  rintro r w3 ⟨rv3, rfl, rd3, k3, b3⟩
  have hli2 := rBlob_le (p := p) (i := i1) (e := f1n) (m := 64) hli1
  obtain ⟨y3, hy3⟩ : ∃ y, rBlob p i1 f1n 64 = y := ⟨_, rfl⟩
  have HY3 := hide hy3
  rw [hy3] at rd3 hli2 ⊢
  clear hy3
  obtain ⟨key, i2, e2⟩ := y3
  simp only at rd3 hli2 ⊢
  have HB3 := hide (fun y hy => by have h9 := b3 y hy; have h8 := lt_of_block (unhide HTA).c; omega : ∀ y ∈ blk rv3, w.heap.size + 1 + 1 + 1 < y)
  obtain ⟨a3, m3, c3, hu3, _⟩ := id rd3
  subst hu3
  have HRD3 := hide rd3
  have HT3 := hide ((unhide HTA).old k3)
  clear rd3 b3 k3
  obtain ⟨⟨s0, s1, s2⟩, t0, t1, t2⟩ := three (unhide HT3).r
  obtain ⟨⟨d0, d1, d2⟩, f0, f1, f2⟩ := three (unhide HT3).c
  have HK3 := hide (eput3_kept ((Kept.refl [w.heap.size, w.heap.size + 1, w.heap.size + 1 + 1, w.heap.size + 1 + 1 + 1] w3).setCell (p := ⟨w.heap.size + 1 + 1 + 1, 1, none⟩) (Or.inl (by simp)) (.slice a3 m3 c3)) w.heap.size (Or.inl (by simp)) (.slice ao p.length c) (.int .i64 (i2 : Int)) (.int .i64 (e2 : Int)))
  have HTF := hide (((unhide HT3).setY (.slice a3 m3 c3)).setR (.slice ao p.length c) i2 e2)
  have HDE := hide (by rw [← unhide HD]; unfold docT2 docF; rw [if_neg hx1, if_neg (by omega), unhide HF1, unhide HY3, unhide HYY] : D = (⟨y, key, []⟩, i2, e2))
  go_wp2_with fail
  clear s0 s1 s2 t0 t1 t2 d0 d1 d2 f0 f1 f2
  obtain ⟨WF, hWF⟩ : ∃ W, ((((w3.setCell ⟨w.heap.size + 1 + 1 + 1, 1, none⟩ (.slice a3 m3 c3)).setCell ⟨w.heap.size, 0, none⟩ (.slice ao p.length c)).setCell ⟨w.heap.size, 1, none⟩ (.int .i64 (i2 : Int))).setCell ⟨w.heap.size, 2, none⟩ (.int .i64 (e2 : Int))) = W := ⟨_, rfl⟩
  rw [hWF] at HTF HK3 ⊢
  clear hWF
  have hrg : WF.drew.rangeAt (w.heap.size + 1 + 1 + 1) 0 [.int .u8 (y : Int), .slice a3 m3 c3, .slice none 0 0] := range_row (unhide HTF).c
  have hrr : WF.drew.rangeAt w.heap.size 0 [.slice ao p.length c, .int .i64 (i2 : Int), .int .i64 (e2 : Int)] := range_row (unhide HTF).r
  have hth : WF.drew.there (w.heap.size + 1) 0 3 := there_row (w := WF.drew) (cs := [.int .u8 0, .slice none 0 0, .slice none 0 0]) (unhide HTF).a
  have htt : WF.drew.there (w.heap.size + 1 + 1) 0 3 := there_row (w := WF.drew) (cs := [.slice none 0 0, .int .i64 0, .int .i64 0]) (unhide HTF).b
  refine wp_ret4 (by kernel_rfl) (by kernel_rfl) (by kernel_rfl) (by kernel_rfl) (by kernel_rfl) (by kernel_rfl) (by kernel_rfl) (by kernel_rfl) rfl rfl rfl rfl 45 103 _ _ _ _ _ _ rfl rfl rfl rfl
    (w.heap.size + 1 + 1 + 1) w.heap.size (w.heap.size + 1) (w.heap.size + 1 + 1) [.int .u8 (y : Int), .slice a3 m3 c3, .slice none 0 0] [.slice ao p.length c, .int .i64 (i2 : Int), .int .i64 (e2 : Int)] _ _ hrg hrr hth htt (by omega)
    Try.underlying45 rfl Try.size_entry (by intro v hv; simp at hv; rcases hv with rfl | rfl | rfl <;> rfl) Try.underlying103 rfl Try.size_rr (by intro v hv; simp at hv; rcases hv with rfl | rfl | rfl <;> rfl) rfl rfl rfl rfl rfl rfl rfl rfl rfl rfl rfl rfl rfl ?_
  have k1 := setCells_kept (w.heap.size + 1) (Or.inl (by simp)) [.int .u8 (y : Int), .slice a3 m3 c3, .slice none 0 0] 0 _ (Kept.refl [w.heap.size + 1] WF.drew)
  have k2 := setCells_kept (w.heap.size + 1 + 1) (Or.inl (by simp)) [.slice ao p.length c, .int .i64 (i2 : Int), .int .i64 (e2 : Int)] 0 _ (Kept.refl [w.heap.size + 1 + 1] (WF.drew.setCells (w.heap.size + 1) 0 [.int .u8 (y : Int), .slice a3 m3 c3, .slice none 0 0]))
  have HE1 := hide (k2.heap (setCells_row (vs := [.int .u8 (y : Int), .slice a3 m3 c3, .slice none 0 0]) (show WF.drew.heap[w.heap.size + 1]? = some (.cells ([.int .u8 0, .slice none 0 0, .slice none 0 0] : List Value).toArray 45 (0, 0)) from (unhide HTF).a) rfl) (by simp))
  have HE2 := hide (setCells_row (vs := [.slice ao p.length c, .int .i64 (i2 : Int), .int .i64 (e2 : Int)]) (k1.heap (show WF.drew.heap[w.heap.size + 1 + 1]? = some (.cells ([.slice none 0 0, .int .i64 0, .int .i64 0] : List Value).toArray 103 (0, 0)) from (unhide HTF).b) (by simp)) rfl)
  have HKF := hide (setCells_kept (w.heap.size + 1 + 1) (Or.inr (by omega)) [.slice ao p.length c, .int .i64 (i2 : Int), .int .i64 (e2 : Int)] 0 _ (setCells_kept (w.heap.size + 1) (Or.inr (by omega)) [.int .u8 (y : Int), .slice a3 m3 c3, .slice none 0 0] 0 _ (unhide HTF).kept.drew))
  have HKR := hide (setCells_kept (w.heap.size + 1 + 1) (Or.inl (by simp)) [.slice ao p.length c, .int .i64 (i2 : Int), .int .i64 (e2 : Int)] 0 _ (setCells_kept (w.heap.size + 1) (Or.inl (by simp)) [.int .u8 (y : Int), .slice a3 m3 c3, .slice none 0 0] 0 _ (Kept.refl [w.heap.size, w.heap.size + 1, w.heap.size + 1 + 1, w.heap.size + 1 + 1 + 1] WF).drew))
  clear k1 k2
  all_goals go_wp2
  all_goals
    refine bodyPost_ret (v := .tuple #[.agg #[.int .u8 (y : Int), .slice a3 m3 c3, .slice none 0 0], .agg #[(.slice ao p.length c), .int .i64 (i2 : Int), .int .i64 (e2 : Int)]]) ?_ rfl ⟨.slice a3 m3 c3, .slice none 0 0, by rw [unhide HDE]; rfl, ?_, unhide HKF, ?_⟩
    · exact results_row_row rfl _ _ (w.heap.size + 1) (w.heap.size + 1 + 1) _ _ #[.int .u8 (y : Int), .slice a3 m3 c3, .slice none 0 0] #[(.slice ao p.length c), .int .i64 (i2 : Int), .int .i64 (e2 : Int)] (0, 0) (0, 0) _ _ rfl (by exact unhide HE1) rfl (by exact unhide HE2) Try.underlying45 rfl Try.size_entry Try.underlying103 rfl Try.size_rr
    · rw [unhide HDE]
      exact ⟨hy256, ((unhide HRD3).kept (unhide HK3) (fun x hx => by have h9 := unhide HB3 x hx; simp; omega)).kept (unhide HKR) (fun x hx => by have h9 := unhide HB3 x hx; simp; omega), Rd.nil _⟩
    · intro y hy
      rcases hy with hy | hy
      · have h9 := unhide HB3 y hy; omega
      · simp [blk] at hy
end Go.Proofs.Ytkcanelboloihaa
namespace Go.Proofs.Ytkcanelboloihaa
open Go.RowKit Go.BigFrame
set_option linter.unusedVariables false
set_option linter.unusedSimpArgs false

theorem refTake_any (ao : Option Addr) (c : Nat) (p : List Nat) (i e : Nat) (w : World) (h : Rd w (.slice ao p.length c) p) (hi : i ≤ p.length) :
    Calls Try.prog 73 #[rrV (.slice ao p.length c) i e] w fun r w' => ∃ kv vv, r = .returned (.tuple #[.agg (enC (docT p i e).1 kv vv), rrV (.slice ao p.length c) (docT p i e).2.1 (docT p i e).2.2]) ∧ OkE w' (docT p i e).1 kv vv ∧ Kept [] w w' ∧ ∀ y, y ∈ blk kv ∨ y ∈ blk vv → w.heap.size ≤ y := by
  by_cases h1 : (rNum p i e 1).1 = 1
  · exact refTake_1 ao c p i e w h hi h1
  by_cases h2 : (rNum p i e 1).1 = 2
  · exact refTake_2 ao c p i e w h hi h2
  exact refTake_3 ao c p i e w h hi ⟨h1, h2⟩
end Go.Proofs.Ytkcanelboloihaa
namespace Go.Proofs.Ytkcanelboloihaa
open Go.RowKit Go.BigFrame
set_option linter.unusedVariables false
set_option linter.unusedSimpArgs false

theorem rBlob_bad {p : List Nat} {i e : Nat} (m : Int) (h : e ≠ 0) : rBlob p i e m = ([], i, e) := by unfold rBlob; rw [if_pos h]
theorem rNum1_lt (p : List Nat) (hp : ∀ x ∈ p, x < 256) (i : Nat) : (rNum p i 0 1).1 < 256 := by
  unfold rNum
  rw [if_neg (by simp)]
  split
  · show (0 : Nat) < 256; omega
  · rename_i h
    show beL ((p.drop i).take 1) < 256
    have hi : i < p.length := by omega
    rw [List.drop_eq_getElem_cons hi, List.take_succ_cons, List.take_zero]
    have h9 := hp _ (List.getElem_mem hi)
    simp only [beL, List.foldl_cons, List.foldl_nil]
    omega
/-- What the document takes is what the program takes, or both are refused by one fault. -/
theorem docT_eq (p : List Nat) (hp : ∀ x ∈ p, x < 256) (i : Nat) : (docT p i 0).2.2 = (takeE p i).2.2 ∧ ((takeE p i).2.2 = 0 → docT p i 0 = takeE p i) := by
  have hx := rNum1_lt p hp i
  have he : (rNum p i 0 1).2.2 = 0 ∨ (rNum p i 0 1).2.2 = 3 := by
    unfold rNum
    rw [if_neg (by simp)]
    split
    · exact Or.inr rfl
    · exact Or.inl rfl
  unfold docT docT2 takeE docF
  obtain ⟨X, hX⟩ : ∃ X, rNum p i 0 1 = X := ⟨_, rfl⟩
  rw [hX] at hx he ⊢
  obtain ⟨x, j, e⟩ := X
  simp only at hx he ⊢
  rw [Nat.mod_eq_of_lt hx]
  by_cases h1 : x = 1
  · subst h1; simp
  by_cases h2 : x = 2
  · subst h2; simp
  have hn : ¬ (x = 1 ∨ x = 2) := by omega
  rw [if_neg h1, if_neg hn, if_neg hn]
  have h3 : (if e = 0 then 3 else e) = 3 := by rcases he with h | h <;> subst h <;> rfl
  rw [h3, rBlob_bad 64 (by decide)]
  exact ⟨rfl, fun h => by simp at h⟩
def docD (p : List Nat) : En × Nat := if doneE p (docT p 0 0).2.1 (docT p 0 0).2.2 ≠ 0 then (⟨0, [], []⟩, doneE p (docT p 0 0).2.1 (docT p 0 0).2.2) else ((docT p 0 0).1, 0)
theorem docD_eq (p : List Nat) (hp : ∀ x ∈ p, x < 256) : docD p = decE p := by
  obtain ⟨h1, h2⟩ := docT_eq p hp 0
  unfold docD decE
  by_cases h0 : (takeE p 0).2.2 = 0
  · rw [h2 h0, h0, if_neg (by simp : ¬ (0 ≠ 0))]
  · rw [if_pos h0]
    have h9 : doneE p (docT p 0 0).2.1 (docT p 0 0).2.2 = (takeE p 0).2.2 := by unfold doneE; rw [h1, if_neg (by omega)]
    rw [h9, if_pos h0]
/-- So many entries off the document's reader. -/
def docN (p : List Nat) : Nat → Nat → List En × Nat × Nat
  | i, 0 => ([], i, 0)
  | i, n + 1 => if (docT p i 0).2.2 ≠ 0 then ([(docT p i 0).1], (docT p i 0).2) else ((docT p i 0).1 :: (docN p (docT p i 0).2.1 n).1, (docN p (docT p i 0).2.1 n).2)
theorem docN_eq (p : List Nat) (hp : ∀ x ∈ p, x < 256) : ∀ n i, (docN p i n).2.2 = (takeN p i n).2.2 ∧ ((takeN p i n).2.2 = 0 → docN p i n = takeN p i n)
  | 0, i => ⟨rfl, fun _ => rfl⟩
  | n + 1, i => by
    obtain ⟨h1, h2⟩ := docT_eq p hp i
    unfold docN takeN
    by_cases h0 : (takeE p i).2.2 = 0
    · rw [h2 h0, if_neg (by simp [h0]), if_neg (by simp [h0])]
      obtain ⟨h3, h4⟩ := docN_eq p hp n (takeE p i).2.1
      exact ⟨h3, fun h => by rw [h4 h]⟩
    · rw [if_pos h0, if_pos (by rw [h1]; exact h0)]
      exact ⟨h1, fun h => absurd h h0⟩
def docY (p : List Nat) (f : Nat) (es : List En) (Y : List En × Nat × Nat) : Nat × List En × Nat :=
  if doneE p Y.2.1 Y.2.2 ≠ 0 then (0, [], doneE p Y.2.1 Y.2.2) else (f, es ++ Y.1, 0)
theorem doneE_bad {p : List Nat} {i e : Nat} (h : e ≠ 0) : doneE p i e = e := by unfold doneE; rw [if_neg (by omega)]
theorem docY_bad {p : List Nat} {f i e : Nat} {es l : List En} (h : e ≠ 0) : docY p f es (l, i, e) = (0, [], e) := by
  unfold docY; rw [doneE_bad h, if_pos h]
theorem docY_step {p : List Nat} {f i n : Nat} {es : List En} (h : (docT p i 0).2.2 = 0) : docY p f es (docN p i (n + 1)) = docY p f (es ++ [(docT p i 0).1]) (docN p (docT p i 0).2.1 n) := by
  rw [show docN p i (n + 1) = if (docT p i 0).2.2 ≠ 0 then ([(docT p i 0).1], (docT p i 0).2) else ((docT p i 0).1 :: (docN p (docT p i 0).2.1 n).1, (docN p (docT p i 0).2.1 n).2) from rfl, if_neg (by simp [h])]
  unfold docY; simp
theorem docY_stop {p : List Nat} {f i n : Nat} {es : List En} (h : (docT p i 0).2.2 ≠ 0) : docY p f es (docN p i (n + 1)) = (0, [], (docT p i 0).2.2) := by
  rw [show docN p i (n + 1) = if (docT p i 0).2.2 ≠ 0 then ([(docT p i 0).1], (docT p i 0).2) else ((docT p i 0).1 :: (docN p (docT p i 0).2.1 n).1, (docN p (docT p i 0).2.1 n).2) from rfl, if_pos h]
  exact docY_bad h
/-- A batch, by the document's reader. -/
theorem decB_doc (p : List Nat) (hp : ∀ x ∈ p, x < 256) {f i1 e1 n i2 e2 : Nat} (h1 : rUvar p 0 0 = (f, i1, e1)) (h2 : rUvar p i1 e1 = (n, i2, e2)) :
    (e2 ≠ 0 → decB p = (0, [], e2)) ∧ (e2 = 0 → cntE f n ≠ 0 → decB p = (0, [], cntE f n)) ∧ (e2 = 0 → cntE f n = 0 → decB p = docY p f [] (docN p i2 n)) := by
  unfold decB takeB
  rw [h1]
  simp only
  rw [h2]
  simp only
  refine ⟨fun h => ?_, fun h hc => ?_, fun h hc => ?_⟩
  · simp [h]
  · simp [h, hc]
  · obtain ⟨h3, h4⟩ := docN_eq p hp n i2
    simp only [h, hc, ne_eq, not_true_eq_false, if_false]
    by_cases h0 : (takeN p i2 n).2.2 = 0
    · rw [if_neg (by simp [h0])]
      unfold docY
      rw [h4 h0, h0]
      simp
    · rw [if_pos h0]
      unfold docY
      rw [h3, doneE_bad h0, if_pos h0]
theorem rUvar_zero {p : List Nat} {i e n j x : Nat} (h : rUvar p i e = (n, j, x)) (hx : x ≠ 0) : n = 0 := by
  unfold rUvar at h
  split at h
  · injection h with h1 h2; exact h1.symm
  · split at h
    · injection h with h1 h2; exact h1.symm
    · injection h with h1 h2; injection h2 with h3 h4; exact absurd h4.symm hx
end Go.Proofs.Ytkcanelboloihaa
namespace Go.Proofs.Ytkcanelboloihaa
open Go.RowKit Go.BigFrame
set_option linter.unusedVariables false
set_option linter.unusedSimpArgs false

set_option maxRecDepth 100000 in
set_option maxHeartbeats 1000000 in
theorem refDone_any (ao : Option Addr) (c : Nat) (p : List Nat) (i e : Nat) (w : World) :
    Calls Try.prog 55 #[rrV (.slice ao p.length c) i e] w fun r w' => r = .returned (.int .i64 (doneE p i e)) ∧ Kept [] w w' := by
  by_cases he : e = 0
  · subst he
    by_cases hi : i < p.length
    · have HV := hide (by simp [doneE, hi] : doneE p i 0 = 3)
      have hi' : (i : Int) < p.length := by omega
      go_enter Try.func55, Try.ntmps55
      go_wp2
      go_ret
      exact ⟨by rw [unhide HV]; rfl, (Kept.refl [] w).alloc _⟩
    · have HV := hide (by simp [doneE, hi] : doneE p i 0 = 0)
      have hi' : ¬ (i : Int) < p.length := by omega
      go_enter Try.func55, Try.ntmps55
      go_wp2
      go_ret
      exact ⟨by rw [unhide HV]; rfl, (Kept.refl [] w).alloc _⟩
  · have HV := hide (by simp [doneE, he] : doneE p i e = e)
    have he' : ((e : Int) == 0) = false := by simp; omega
    clear he
    go_enter Try.func55, Try.ntmps55
    go_wp2
    go_ret
    exact ⟨by rw [unhide HV]; rfl, (Kept.refl [] w).alloc _⟩
end Go.Proofs.Ytkcanelboloihaa
namespace Go.Proofs.Ytkcanelboloihaa
open Go.RowKit Go.BigFrame
set_option linter.unusedVariables false
set_option linter.unusedSimpArgs false

theorem results_row_tmp2 {P : Program} {fn : Func} {p q : Tmp} {ty : TypeId} (h : fn.results = #[.cell p ty, .tmp q]) (tmps : Array Value) (w : World) (g : Nat) (t : TypeId) (cs : Array Value) (fr : Nat × Nat) (d : TypeDesc)
    (hp : tmps.getD p undef = .pointer (some ⟨g, 0, none⟩)) (hg : w.heap[g]? = some (.cells cs t fr))
    (hu : P.underlying ty = some d) (hd : (match d with | .struct _ | .array _ _ => true | _ => false) = true) (hi : (P.info? ty).map (·.size) = some cs.size) (v : Value) (hq : tmps.getD q undef = v) :
    (results fn tmps).run P w = .ok (.tuple #[.agg cs, v]) w := by
  have hp' : tmps[p]?.getD undef = .pointer (some ⟨g, 0, none⟩) := by simpa using hp
  have hq' : tmps[q]?.getD undef = v := by simpa using hq
  simp [results, h, hp', hq', asAddr, run_loadVar_row w g t ty cs fr d hg hu hd hi]

set_option maxRecDepth 100000 in
set_option maxHeartbeats 1000000 in
theorem docDecode_any (v : Value) (p : List Nat) (w : World) (h : Rd w v p) :
    Calls Try.prog 41 #[v] w fun r w' => ∃ kv vv, r = .returned (.tuple #[.agg (enC (decE p).1 kv vv), .int .i64 (decE p).2]) ∧ OkE w' (decE p).1 kv vv ∧ Kept [] w w' := by
  have H := hide h
  obtain ⟨a1, n1, c1, hv1, hn1, _, ⟨_, hlen⟩, _⟩ := id h
  subst hv1
  subst hn1
  have HD := hide (docD_eq p h.byte)
  clear h
  obtain ⟨D, hD⟩ : ∃ D, decE p = D := ⟨_, rfl⟩
  rw [hD] at HD ⊢
  clear hD
  unfold docD at HD
  go_enter Try.func41, Try.ntmps41
  go_wp2_with fail
  have HA := hide (heap_alloc_new w (.cells #[.int .u8 0, .slice none 0 0, .slice none 0 0] 45))
  have HKA := hide ((Kept.refl [] w).alloc (.cells #[.int .u8 0, .slice none 0 0, .slice none 0 0] 45))
  obtain ⟨W, hW⟩ : ∃ W, w.alloc (.cells #[.int .u8 0, .slice none 0 0, .slice none 0 0] 45) = W := ⟨_, rfl⟩
  rw [hW] at HA HKA ⊢
  clear hW
  refine Calls.mono (refTake_any a1 c1 p 0 0 W ((unhide H).old (unhide HKA) (by simp)) (by omega)) ?_
  rintro r w2 ⟨kv, vv, rfl, ok2, k2, b2⟩
  obtain ⟨X, hX⟩ : ∃ X, docT p 0 0 = X := ⟨_, rfl⟩
  rw [hX] at HD ok2 ⊢
  clear hX
  obtain ⟨en, i1, e1⟩ := X
  simp only at HD ok2 ⊢
  unfold enC
  have HA2 := hide (k2.heap (unhide HA) (by simp))
  have HK2 := hide ((unhide HKA).trans k2 (by simp))
  have HO2 := hide ok2
  obtain ⟨a3, m3, c3, hu3, _⟩ := id ok2.key
  obtain ⟨a4, m4, c4, hu4, _⟩ := id ok2.val
  subst hu3
  subst hu4
  have HB2 := hide (fun y hy => by have h9 := b2 y hy; have h8 := lt_of_block (unhide HA); show y ≠ w.heap.size; omega : ∀ y, y ∈ blk (.slice a3 m3 c3) ∨ y ∈ blk (.slice a4 m4 c4) → y ≠ w.heap.size)
  clear ok2 k2 b2 HA HKA
  go_wp2_with fail
  have ka := ((Kept.refl [] w2).alloc (.cells #[.int .u8 (en.k : Int), .slice a3 m3 c3, .slice a4 m4 c4] 45)).alloc (.cells #[.slice a1 p.length c1, .int .i64 (i1 : Int), .int .i64 (e1 : Int)] 103)
  have HG3 := hide (heap_alloc2_old w2 (.cells #[.int .u8 (en.k : Int), .slice a3 m3 c3, .slice a4 m4 c4] 45) (.cells #[.slice a1 p.length c1, .int .i64 (i1 : Int), .int .i64 (e1 : Int)] 103))
  have HA3 := hide (ka.heap (unhide HA2) (by simp))
  have HK3 := hide ((unhide HK2).trans ka (by simp))
  have HO3 := hide ((unhide HO2).old ka)
  clear ka HA2 HK2 HO2
  refine Calls.mono (refDone_any a1 c1 p i1 e1 _) ?_
  rintro r w4 ⟨rfl, k4⟩
  have HG4 := hide (k4.heap (unhide HG3) (by simp))
  have HA4 := hide (k4.heap (unhide HA3) (by simp))
  have HK4 := hide ((unhide HK3).trans k4 (by simp))
  have HO4 := hide ((unhide HO3).old k4)
  clear k4 HG3 HA3 HK3 HO3
  obtain ⟨f, hf⟩ : ∃ f, doneE p i1 e1 = f := ⟨_, rfl⟩
  rw [hf] at HD ⊢
  clear hf
  by_cases h0 : f = 0
  · subst h0
    have HE := hide (by have h9 := unhide HD; rw [if_neg (by simp)] at h9; exact h9.symm : D = (en, 0))
    have q := (Kept.refl [w.heap.size] w4).setRowE (g := w.heap.size) (Or.inl (by simp)) #[.int .u8 (en.k : Int), .slice a3 m3 c3, .slice a4 m4 c4]
    go_wp2_with (first
      | (refine wpList_load_row rfl 45 _ rfl w2.heap.size rfl _ #[.int .u8 (en.k : Int), .slice a3 m3 c3, .slice a4 m4 c4] (0, 0) _ (unhide HG4) Try.underlying45 rfl Try.size_entry ?_)
      | (refine wpList_store_row rfl 45 _ _ rfl w.heap.size #[.int .u8 (en.k : Int), .slice a3 m3 c3, .slice a4 m4 c4] rfl rfl _ #[.int .u8 0, .slice none 0 0, .slice none 0 0] (unhide HA4) Try.size_entry rfl (row3_one rfl rfl rfl) ?_))
    refine bodyPost_ret (v := .tuple #[.agg #[.int .u8 (en.k : Int), .slice a3 m3 c3, .slice a4 m4 c4], .int .i64 0]) ?_ rfl ⟨.slice a3 m3 c3, .slice a4 m4 c4, by rw [unhide HE]; rfl, ?_, (unhide HK4).setRowE (Or.inr (Nat.le_refl _)) _⟩
    · exact results_row_tmp2 rfl _ _ w.heap.size _ #[.int .u8 (en.k : Int), .slice a3 m3 c3, .slice a4 m4 c4] (0, 0) _ rfl (setRow_heap _ _ _ _ _ _ (unhide HA4)) Try.underlying45 rfl Try.size_entry _ rfl
    · rw [unhide HE]
      exact ⟨(unhide HO4).k, (unhide HO4).key.kept q (fun x hx => by have h9 := unhide HB2 x (Or.inl hx); simpa using h9), (unhide HO4).val.kept q (fun x hx => by have h9 := unhide HB2 x (Or.inr hx); simpa using h9)⟩
  · have HE := hide (by have h9 := unhide HD; rw [if_pos h0] at h9; exact h9.symm : D = (⟨0, [], []⟩, f))
    have hb0 : ((f : Int) != 0) = true := by rw [bne_iff_ne]; omega
    go_wp2_with (refine wpList_store_row rfl 45 _ _ rfl w.heap.size #[.int .u8 0, .slice none 0 0, .slice none 0 0] rfl rfl _ #[.int .u8 0, .slice none 0 0, .slice none 0 0] (unhide HA4) Try.size_entry rfl (row3_one rfl rfl rfl) ?_)
    refine bodyPost_ret (v := .tuple #[.agg #[.int .u8 0, .slice none 0 0, .slice none 0 0], .int .i64 f]) ?_ rfl ⟨.slice none 0 0, .slice none 0 0, by rw [unhide HE]; rfl, by rw [unhide HE]; exact ⟨by show (0 : Nat) < 256; omega, Rd.nil _, Rd.nil _⟩, (unhide HK4).setRowE (Or.inr (Nat.le_refl _)) _⟩
    exact results_row_tmp2 rfl _ _ w.heap.size _ #[.int .u8 0, .slice none 0 0, .slice none 0 0] (0, 0) _ rfl (setRow_heap _ _ _ _ _ _ (unhide HA4)) Try.underlying45 rfl Try.size_entry _ rfl
end Go.Proofs.Ytkcanelboloihaa
namespace Go.Proofs.Ytkcanelboloihaa
open Go.RowKit Go.BigFrame
set_option linter.unusedVariables false
set_option linter.unusedSimpArgs false

set_option maxRecDepth 100000 in
set_option maxHeartbeats 2000000 in
theorem twinEntries_any (v : Value) (es : List En) (w : World) (h : RdN w v es) (hl : es.length ≤ 1048576) :
    Calls Try.prog 69 #[v] w fun r w' => ∃ v', r = .returned v' ∧ NewN w.heap.size w' v' es ∧ Kept [] w w' := by
  obtain ⟨ao, len, cap, kv, vv, rfl, h1, h2, h3, h4, h5⟩ := h
  have H4 := hide h4
  have H5 := hide h5
  clear h4 h5
  subst h1
  go_enter Try.func69, Try.ntmps69
  go_wp2_with fail
  go_loopw [8, 3] (fun t12 t3 wr => ∃ (i : Nat) (ts : List (En × Value × Value)), i ≤ es.length ∧ t12 = .int .i64 i ∧ Hid (ts.map (·.1) = es.take i) ∧ Hid (OwnN [] w wr t3 ts)) (fun t _ _ => es.length - (intOf t).toNat)
  case atStart => exact ⟨0, [], Nat.zero_le _, rfl, hide (by simp), hide (OwnN.start (Kept.refl [] w))⟩
  case round =>
    obtain ⟨i, ts, hi, rfl, HTS, HO⟩ := hrel
    have HTL := hide (by have h9 := congrArg List.length (unhide HTS); simp only [List.length_map, List.length_take] at h9; omega : ts.length ≤ 1048576)
    by_cases hlt : i < es.length
    · have hlt' : (i : Int) < es.length := by omega
      obtain ⟨b, off, rfl, hcc⟩ := unhide H5 (by omega)
      have hr := hcc i hlt
      have q0 := (unhide HO).kept.cell (hr 0 _ rfl) (by simp)
      have q1 := (unhide HO).kept.cell (hr 1 _ rfl) (by simp)
      have q2 := (unhide HO).kept.cell (hr 2 _ rfl) (by simp)
      rw [Nat.add_zero] at q0
      have HE := hide ((unhide H4 i hlt).old (unhide HO).kept)
      have HSN := hide (by rw [List.take_succ_eq_append_getElem hlt] : es.take (i + 1) = es.take i ++ [es[i]])
      clear hcc hr
      generalize kv i = kvi at q1 HE
      generalize vv i = vvi at q2 HE
      generalize es[i] = e at q0 HE HSN
      obtain ⟨a8, m8, c8, rfl, _⟩ := id (unhide HE).key
      obtain ⟨a9, m9, c9, rfl, _⟩ := id (unhide HE).val
      have HSZ := hide (unhide HO).kept.size
      go_wp2_with fail
      have k1 := (Kept.refl [] wr).alloc (.cells #[.int .u8 (e.k : Int), .slice a8 m8 c8, .slice a9 m9 c9] 45)
      refine Calls.mono (twinEntry_any e _ _ _ ((unhide HE).old k1)) ?_
      rintro r w2 ⟨kv2, vv2, rfl, ok2, k2, n2⟩
      obtain ⟨a3, m3, c3, hu3, _⟩ := id ok2.key
      subst hu3
      obtain ⟨a4, m4, c4, hu4, _⟩ := id ok2.val
      subst hu4
      have HN2 := hide (fun y hy => by have h9 := n2 y hy; rw [show (wr.alloc (.cells #[.int .u8 (e.k : Int), .slice a8 m8 c8, .slice a9 m9 c9] 45)).heap.size = wr.heap.size + 1 from Array.size_push _] at h9; exact h9 : ∀ y, y ∈ blk (.slice a3 m3 c3) ∨ y ∈ blk (.slice a4 m4 c4) → wr.heap.size + 1 ≤ y)
      have HO2 := hide (((unhide HO).old (M := []) (k1.trans k2 (by simp)) (by simp)).old (M := []) ((Kept.refl [] w2).alloc (.cells #[.int .u8 (e.k : Int), .slice a3 m3 c3, .slice a4 m4 c4] 45)) (by simp))
      have HK2 := hide (ok2.old ((Kept.refl [] w2).alloc (.cells #[.int .u8 (e.k : Int), .slice a3 m3 c3, .slice a4 m4 c4] 45)))
      have HB2 := hide (unhide HO2).kept.size
      have HOL := hide (fun g hg => ((unhide HO).own.lt g hg).2 : ∀ g, u3.ownBlock = some g → g < wr.heap.size)
      clear k1 k2 n2 ok2
      simp only [enC]
      go_wp2_with (at_builtin; refine wpList_pushN rfl _ _ rfl rfl _ w.heap.size u3 ts e (.slice a3 m3 c3) (.slice a4 m4 c4) w2.heap.size (unhide HO2).own (heap_alloc_new _ _) rfl rfl (by have := unhide HTL; omega) (unhide HB2) rfl rfl ?_; intro g cap2 w5 HO5 HG5 HA5)
      refine ⟨⟨i + 1, ts ++ [(e, .slice a3 m3 c3, .slice a4 m4 c4)], by omega, by go_num, hide ?_, hide ?_⟩, ?_⟩
      · rw [List.map_append, unhide HTS, unhide HSN]; rfl
      · refine (unhide HO2).push (unhide HK2) (fun b' hb' => ?_) (unhide HO5) (unhide HG5) (unhide HA5)
        have h9 : wr.heap.size + 1 ≤ b' := by
          rcases hb' with hb' | hb'
          · exact unhide HN2 b' (Or.inl (mem_nblk hb').1)
          · exact unhide HN2 b' (Or.inr (mem_nblk hb').1)
        have h8 := unhide HSZ
        exact ⟨fun e9 => by have h7 := unhide HOL b' e9; omega, by omega⟩
      · simp [intOf]; omega
    · have hlt' : ¬ (i : Int) < es.length := by omega
      have hie : i = es.length := by omega
      subst hie
      rw [List.take_length] at HTS
      go_wp2
      go_ret
      exact ⟨_, rfl, ⟨[], w, ts, (unhide HTS).symm, unhide HO, Nat.le_refl _⟩, (unhide HO).kept⟩

set_option maxRecDepth 100000 in
set_option maxHeartbeats 1000000 in
theorem twinBatch_any (f : Nat) (v : Value) (es : List En) (w : World) (h : RdN w v es) (hl : es.length ≤ 1048576) :
    Calls Try.prog 25 #[.agg #[.int .u64 f, v]] w fun r w' => ∃ v', r = .returned (.agg #[.int .u64 f, v']) ∧ NewN w.heap.size w' v' es ∧ Kept [] w w' := by
  have H := hide h
  obtain ⟨a1, m1, c1, _, _, rfl, _⟩ := h
  have HG := hide (((Kept.refl [] (w.alloc (.cells #[.int .u64 (f : Int), .slice a1 m1 c1] 51))).alloc (.cells #[.int .u64 0, .slice none 0 0] 51)).heap (heap_alloc_new w (.cells #[.int .u64 (f : Int), .slice a1 m1 c1] 51)) (by simp))
  have HZ := hide (alloc_at w (.cells #[.int .u64 (f : Int), .slice a1 m1 c1] 51) (.cells #[.int .u64 0, .slice none 0 0] 51))
  have HK0 := hide (((Kept.refl [] w).alloc (.cells #[.int .u64 (f : Int), .slice a1 m1 c1] 51)).alloc (.cells #[.int .u64 0, .slice none 0 0] 51))
  have HSZ := hide (show ((w.alloc (.cells #[.int .u64 (f : Int), .slice a1 m1 c1] 51)).alloc (.cells #[.int .u64 0, .slice none 0 0] 51)).heap.size = w.heap.size + 2 by simp)
  go_enter Try.func25, Try.ntmps25
  go_wp2_with fail
  obtain ⟨W, hW⟩ : ∃ W, (w.alloc (.cells #[.int .u64 (f : Int), .slice a1 m1 c1] 51)).alloc (.cells #[.int .u64 0, .slice none 0 0] 51) = W := ⟨_, rfl⟩
  rw [hW] at HG HZ HK0 HSZ ⊢
  clear hW
  have x0 : W.cell? ⟨w.heap.size, 0, none⟩ = some (.int .u64 (f : Int)) := by rw [cell_of_row _ _ _ _ _ _ (unhide HG)]; rfl
  have x1 : W.cell? ⟨w.heap.size, 1, none⟩ = some (.slice a1 m1 c1) := by rw [cell_of_row _ _ _ _ _ _ (unhide HG)]; rfl
  have HX0 := hide x0
  have HX1 := hide x1
  have HHW := hide (((unhide H).old (unhide HK0)).old (Kept.refl [] W).drew)
  have hne : w.heap.size ≠ w.heap.size + 1 := by omega
  go_region_held3 (fun w' => w'.cell? ⟨w.heap.size, 0, none⟩ = some (.int .u64 (f : Int)) ∧ w'.cell? ⟨w.heap.size, 1, none⟩ = some (.slice a1 m1 c1)) (go_keep) (first
    | (go_at_call 69; refine (twinEntries_any _ es _ (by exact unhide HHW) hl).mono ?_; rintro e w3 ⟨v3, rfl, r3, k3⟩; obtain ⟨a3, m3, c3, _, _, hu3, _⟩ := id r3.rdN; subst hu3; have HR3 := hide (show NewN W.heap.size w3 (.slice a3 m3 c3) es from r3); have K3 := (Kept.refl [] W).drew.trans k3 (by simp); have HK3 := hide K3; have y0 := K3.cell (unhide HX0) (by simp); have y1 := K3.cell (unhide HX1) (by simp); have HZ3 := hide (K3.heap (unhide HZ) (by simp)); have t0 := cell_of_row _ _ 0 _ _ _ (unhide HZ3); have t1 := cell_of_row _ _ 1 _ _ _ (unhide HZ3); have f0 := frozen_of_row _ _ 0 _ _ (unhide HZ3); have f1 := frozen_of_row _ _ 1 _ _ (unhide HZ3); clear K3 k3 r3))
  all_goals go_wp2
  all_goals
    refine bodyPost_ret (v := .agg #[.int .u64 (f : Int), .slice a3 m3 c3]) ?_ rfl ⟨.slice a3 m3 c3, rfl, ?_, ?_⟩
    · exact results_cell_row rfl _ _ (w.heap.size + 1) _ #[.int .u64 (f : Int), .slice a3 m3 c3] (0, 0) _ rfl (by exact eput2_heap (unhide HZ3) _ _) Try.underlying51 rfl Try.size_batch
    · have h7 := unhide HSZ
      exact ((unhide HR3).kept (eput2_kept (Kept.refl [w.heap.size + 1] w3) (w.heap.size + 1) (Or.inl (by simp)) _ _) (by simp; omega)).weak (by omega)
    · exact eput2_kept ((unhide HK0).trans (unhide HK3) (by simp)) (w.heap.size + 1) (Or.inr (by omega)) _ _
end Go.Proofs.Ytkcanelboloihaa
namespace Go.Proofs.Ytkcanelboloihaa
open Go.RowKit Go.BigFrame
set_option linter.unusedVariables false
set_option linter.unusedSimpArgs false

def tri (n : Nat) : Prop := n = 0 ∨ n = 2 ∨ n = 3
theorem chkE_tri (e : En) : tri (chkE e) := by
  unfold chkE tri; split
  · simp
  · split <;> simp
theorem cntE_tri (f n : Nat) : tri (cntE f n) := by
  unfold cntE tri; split
  · simp
  · split <;> simp
theorem least_tri {a b : Nat} (ha : tri a) (hb : tri b) : tri (leastE a b) := by
  unfold leastE; split
  · exact hb
  · exact ha
theorem fold_tri (es : List En) : ∀ z, tri z → tri (es.foldl (fun a e => leastE a (chkE e)) z) := by
  induction es with
  | nil => intro z h; exact h
  | cons x xs ih => intro z h; exact ih _ (least_tri h (chkE_tri x))
theorem least_two {b : Nat} (hb : tri b) : leastE 2 b = 2 := by
  unfold leastE
  rcases hb with h | h | h <;> subst h <;> rfl
theorem least_two' {a : Nat} (ha : tri a) : leastE a 2 = 2 := by
  unfold leastE
  rcases ha with h | h | h <;> subst h <;> rfl
theorem fold_two (es : List En) : es.foldl (fun a e => leastE a (chkE e)) 2 = 2 := by
  induction es with
  | nil => rfl
  | cons x xs ih => rw [List.foldl_cons, least_two (chkE_tri x)]; exact ih
theorem chkB_long {f : Nat} {es : List En} (h : 64 < es.length) : chkB f es = 2 := by
  unfold chkB
  rw [show cntE f es.length = 2 by unfold cntE; rw [if_pos h]]
  exact fold_two es
theorem chkB_at {f : Nat} {es : List En} (i : Nat) (h : i < es.length) (h2 : chkE es[i] = 2) : chkB f es = 2 := by
  unfold chkB
  have e : es = es.take i ++ (es[i] :: es.drop (i + 1)) := by
    rw [← List.drop_eq_getElem_cons h, List.take_append_drop]
  conv => lhs; rw [e, List.foldl_append, List.foldl_cons]
  rw [← e, h2, least_two' (fold_tri _ _ (cntE_tri _ _))]
  exact fold_two _
theorem least_max {a b : Nat} (ha : tri a) (ha2 : a ≠ 2) (hb : tri b) (hb2 : b ≠ 2) : leastE a b = max a b := by
  unfold leastE
  rcases ha with h | h | h <;> rcases hb with h' | h' | h' <;> subst h <;> subst h' <;> first | rfl | (exact absurd rfl ha2) | (exact absurd rfl hb2)

set_option maxRecDepth 100000 in
set_option maxHeartbeats 1000000 in
theorem fits5_any (f n : Nat) (w : World) (hf : f < 18446744073709551616) (hn : n < 9223372036854775808) :
    Calls Try.prog 72 #[.int .u64 f, .int .i64 n] w fun r w' => r = .returned (.bool (decide (f + n < 18446744073709551616))) ∧ w' = w := by
  have h1 : IntKind.u64.wrap (n : Int) = n := by simp [IntKind.wrap, IntKind.signed, IntKind.bits]; omega
  by_cases h : f + n < 18446744073709551616
  · have h2 : IntKind.u64.wrap ((f : Int) + n) = f + n := by simp [IntKind.wrap, IntKind.signed, IntKind.bits]; omega
    have h2' : ((f : Int) + n) % 18446744073709551616 = f + n := by omega
    have h3 : (f : Int) ≤ f + n := by omega
    have HD := hide (decide_eq_true h)
    go_enter Try.func72, Try.ntmps72
    go_wp2
    go_ret
    exact ⟨by first | rfl | (rw [unhide HD]; rfl), rfl⟩
  · have h2 : IntKind.u64.wrap ((f : Int) + n) = f + n - 18446744073709551616 := by simp [IntKind.wrap, IntKind.signed, IntKind.bits]; omega
    have h2' : ((f : Int) + n) % 18446744073709551616 = f + n - 18446744073709551616 := by omega
    have h3 : ¬ (f : Int) ≤ f + n - 18446744073709551616 := by omega
    have HD := hide (decide_eq_false h)
    go_enter Try.func72, Try.ntmps72
    go_wp2
    go_ret
    exact ⟨by first | rfl | (rw [unhide HD]; rfl), rfl⟩

end Go.Proofs.Ytkcanelboloihaa
namespace Go.Proofs.Ytkcanelboloihaa
open Go.RowKit Go.BigFrame
set_option linter.unusedVariables false
set_option linter.unusedSimpArgs false

/-- DocDecodeBatch's variables: the result, the batch, the reader. -/
structure TB (w W : World) (f : Nat) (vE gv : Value) (i e : Nat) : Prop where
  z : W.heap[w.heap.size]? = some (.cells #[.int .u64 0, .slice none 0 0] 51 (0, 0))
  b : W.heap[w.heap.size + 1]? = some (.cells #[.int .u64 (f : Int), vE] 51 (0, 0))
  r : W.heap[w.heap.size + 1 + 1]? = some (.cells #[gv, .int .i64 (i : Int), .int .i64 (e : Int)] 103 (0, 0))
  kept : Kept [] w W
theorem TB.old {w W W' : World} {f i e : Nat} {vE gv : Value} (h : TB w W f vE gv i e) (q : Kept [] W W') : TB w W' f vE gv i e :=
  ⟨q.heap h.z (by simp), q.heap h.b (by simp), q.heap h.r (by simp), h.kept.trans q (by simp)⟩
theorem TB.setR {w W : World} {f i e : Nat} {vE gv : Value} (h : TB w W f vE gv i e) (gv' : Value) (i' e' : Nat) :
    TB w (((W.setCell ⟨w.heap.size + 1 + 1, 0, none⟩ gv').setCell ⟨w.heap.size + 1 + 1, 1, none⟩ (.int .i64 (i' : Int))).setCell ⟨w.heap.size + 1 + 1, 2, none⟩ (.int .i64 (e' : Int))) f vE gv' i' e' := by
  have q := eput3_kept (Kept.refl [w.heap.size + 1 + 1] W) (w.heap.size + 1 + 1) (Or.inl (by simp)) gv' (.int .i64 (i' : Int)) (.int .i64 (e' : Int))
  exact ⟨q.heap h.z (by simp; omega), q.heap h.b (by simp), eput3_heap h.r _ _ _, eput3_kept h.kept _ (Or.inr (by omega)) _ _ _⟩
theorem TB.setF {w W : World} {f i e : Nat} {vE gv : Value} (h : TB w W f vE gv i e) (f' : Nat) : TB w (W.setCell ⟨w.heap.size + 1, 0, none⟩ (.int .u64 (f' : Int))) f' vE gv i e := by
  have q := (Kept.refl [w.heap.size + 1] W).setCell (p := ⟨w.heap.size + 1, 0, none⟩) (Or.inl (by simp)) (.int .u64 (f' : Int))
  exact ⟨q.heap h.z (by simp), heap_setCell_same W _ 0 _ 51 _ h.b, q.heap h.r (by simp), h.kept.setCell (Or.inr (by show w.heap.size ≤ w.heap.size + 1; omega)) _⟩
theorem TB.setE {w W : World} {f i e : Nat} {vE gv : Value} (h : TB w W f vE gv i e) (v' : Value) : TB w (W.setCell ⟨w.heap.size + 1, 1, none⟩ v') f v' gv i e := by
  have q := (Kept.refl [w.heap.size + 1] W).setCell (p := ⟨w.heap.size + 1, 1, none⟩) (Or.inl (by simp)) v'
  exact ⟨q.heap h.z (by simp), heap_setCell_same W _ 1 _ 51 _ h.b, q.heap h.r (by simp), h.kept.setCell (Or.inr (by show w.heap.size ≤ w.heap.size + 1; omega)) _⟩
theorem TB.start (w : World) (gv : Value) : TB w (((w.alloc (.cells #[.int .u64 0, .slice none 0 0] 51)).alloc (.cells #[.int .u64 0, .slice none 0 0] 51)).alloc (.cells #[gv, .int .i64 0, .int .i64 0] 103)) 0 (.slice none 0 0) gv 0 0 := by
  have h3 := heap_alloc3e w (.cells #[.int .u64 0, .slice none 0 0] 51) (.cells #[.int .u64 0, .slice none 0 0] 51) (.cells #[gv, .int .i64 0, .int .i64 0] 103)
  exact ⟨h3.1, h3.2.1, h3.2.2, (((Kept.refl [] w).alloc _).alloc _).alloc _⟩
theorem docT_le (p : List Nat) (i : Nat) (h : i ≤ p.length) : (docT p i 0).2.1 ≤ p.length := by
  have h1 := rNum_le' (p := p) (i := i) (e := 0) (n := 1) h
  unfold docT docT2
  split
  · exact rBlob_le (rBlob_le h1)
  · exact rBlob_le h1
theorem rUvar_le {p : List Nat} {i e : Nat} (h : i ≤ p.length) : (rUvar p i e).2.1 ≤ p.length := by
  have hf := fuv_le (p.drop i) 0 0
  unfold rUvar
  split
  · exact h
  split
  · exact h
  · simp only [List.length_drop] at hf ⊢; omega

set_option maxRecDepth 100000 in
set_option maxHeartbeats 2000000 in
theorem docDecodeBatch_any (v : Value) (p : List Nat) (w : World) (h : Rd w v p) :
    Calls Try.prog 27 #[v] w fun r w' => ∃ bv, r = .returned (.tuple #[.agg #[.int .u64 ((decB p).1 : Int), bv], .int .i64 (decB p).2.2]) ∧ RdN w' bv (decB p).2.1 ∧ Kept [] w w' := by
  have H := hide h
  obtain ⟨a1, n1, c1, hv1, hn1, _, ⟨_, hlen⟩, _⟩ := id h
  subst hv1
  subst hn1
  have HDB := hide (fun (f i1 e1 n i2 e2 : Nat) (h1 : rUvar p 0 0 = (f, i1, e1)) (h2 : rUvar p i1 e1 = (n, i2, e2)) => decB_doc p h.byte h1 h2)
  clear h
  obtain ⟨D, hD⟩ : ∃ D, decB p = D := ⟨_, rfl⟩
  rw [hD] at HDB ⊢
  clear hD
  go_enter Try.func27, Try.ntmps27
  have HT0 := hide (TB.start w (.slice a1 p.length c1))
  go_wp2_with fail
  refine Calls.mono (takeUvar_any a1 c1 p 0 0 _ (by exact (unhide H).old (unhide HT0).kept (by simp)) (by omega)) ?_
  rintro r w1 ⟨rfl, k1⟩
  have hli1 := rUvar_le (p := p) (i := 0) (e := 0) (by omega)
  have hfl := rUvar_lt p 0 0
  obtain ⟨x, hx⟩ : ∃ x, rUvar p 0 0 = x := ⟨_, rfl⟩
  have HX1 := hide hx
  rw [hx] at hli1 hfl ⊢
  clear hx
  obtain ⟨f, i1, e1⟩ := x
  simp only at hli1 hfl ⊢
  have HT1 := hide ((unhide HT0).old k1)
  clear k1 HT0
  obtain ⟨⟨s0, s1, s2⟩, t0, t1, t2⟩ := three (unhide HT1).r
  have hc0 : w1.cell? ⟨w.heap.size + 1, 0, none⟩ = some (.int .u64 0) := by rw [cell_of_row _ _ _ _ _ _ (unhide HT1).b]; rfl
  have hf0 : w1.frozen? ⟨w.heap.size + 1, 0, none⟩ = false := frozen_of_row _ _ _ _ _ (unhide HT1).b
  have HTA := hide (((unhide HT1).setF f).setR (.slice a1 p.length c1) i1 e1)
  go_wp2_with fail
  clear s0 s1 s2 t0 t1 t2 hc0 hf0 HT1
  obtain ⟨WA, hWA⟩ : ∃ W, ((((w1.setCell ⟨w.heap.size + 1, 0, none⟩ (.int .u64 (f : Int))).setCell ⟨w.heap.size + 1 + 1, 0, none⟩ (.slice a1 p.length c1)).setCell ⟨w.heap.size + 1 + 1, 1, none⟩ (.int .i64 (i1 : Int))).setCell ⟨w.heap.size + 1 + 1, 2, none⟩ (.int .i64 (e1 : Int))) = W := ⟨_, rfl⟩
  rw [hWA] at HTA ⊢
  clear hWA
  refine Calls.mono (takeUvar_any a1 c1 p i1 e1 WA ((unhide H).old (unhide HTA).kept (by simp)) hli1) ?_
  rintro r w2 ⟨rfl, k2⟩
  have hli2 := rUvar_le (e := e1) hli1
  have hcl := rUvar_lt p i1 e1
  obtain ⟨x, hx⟩ : ∃ x, rUvar p i1 e1 = x := ⟨_, rfl⟩
  have HX2 := hide hx
  rw [hx] at hli2 hcl ⊢
  clear hx
  obtain ⟨n, i2, e2⟩ := x
  simp only at hli2 hcl ⊢
  have HDD := hide (unhide HDB f i1 e1 n i2 e2 (unhide HX1) (unhide HX2))
  have HE0 := hide (fun he : e2 ≠ 0 => rUvar_zero (unhide HX2) he)
  clear HDB HX1 HX2
  have HT2 := hide ((unhide HTA).old k2)
  clear k2 HTA
  obtain ⟨⟨s0, s1, s2⟩, t0, t1, t2⟩ := three (unhide HT2).r
  have hc0 : w2.cell? ⟨w.heap.size + 1, 0, none⟩ = some (.int .u64 (f : Int)) := by rw [cell_of_row _ _ _ _ _ _ (unhide HT2).b]; rfl
  have HTB := hide ((unhide HT2).setR (.slice a1 p.length c1) i2 e2)
  by_cases hA : 64 < n
  · have hA' : (64 : Int) < n := by omega
    go_wp2_with fail
    clear s0 s1 s2 t0 t1 t2
    obtain ⟨WB, hWB⟩ : ∃ W, (((w2.setCell ⟨w.heap.size + 1 + 1, 0, none⟩ (.slice a1 p.length c1)).setCell ⟨w.heap.size + 1 + 1, 1, none⟩ (.int .i64 (i2 : Int))).setCell ⟨w.heap.size + 1 + 1, 2, none⟩ (.int .i64 (e2 : Int))) = W := ⟨_, rfl⟩
    rw [hWB] at HTB ⊢
    clear hWB
    refine Calls.mono (failed_any a1 p.length c1 i2 e2 2 WB) ?_
    rintro r w3 ⟨rfl, k3⟩
    have HDE := hide (show D = (0, [], if e2 = 0 then 2 else e2) from by
      by_cases h0 : e2 = 0
      · rw [if_pos h0]
        have h9 := (unhide HDD).2.1 h0
        have hc : cntE f n = 2 := by unfold cntE; rw [if_pos hA]
        rw [hc] at h9
        exact h9 (by decide)
      · rw [if_neg h0]; exact (unhide HDD).1 h0)
    have hx0 : (if e2 = 0 then 2 else e2) ≠ 0 := by split <;> omega
    obtain ⟨x, hx⟩ : ∃ x, (if e2 = 0 then 2 else e2) = x := ⟨_, rfl⟩
    rw [hx] at HDE hx0 ⊢
    clear hx
    have HT3 := hide ((unhide HTB).old k3)
    clear k3
    obtain ⟨⟨s0, s1, s2⟩, t0, t1, t2⟩ := three (unhide HT3).r
    have HT4 := hide ((unhide HT3).setR (.slice a1 p.length c1) i2 x)
    go_wp2_with fail
    clear s0 s1 s2 t0 t1 t2
    obtain ⟨WX, hWX⟩ : ∃ W, (((w3.setCell ⟨w.heap.size + 1 + 1, 0, none⟩ (.slice a1 p.length c1)).setCell ⟨w.heap.size + 1 + 1, 1, none⟩ (.int .i64 (i2 : Int))).setCell ⟨w.heap.size + 1 + 1, 2, none⟩ (.int .i64 (x : Int))) = W := ⟨_, rfl⟩
    rw [hWX] at HT4 ⊢
    clear hWX
    go_loopw [7] (fun t wr => t = .int .i64 0 ∧ wr = WX) (fun _ _ => 0)
    case atStart => exact ⟨rfl, rfl⟩
    case round =>
      obtain ⟨rfl, rfl⟩ := hrel
      obtain ⟨⟨s0, s1, s2⟩, t0, t1, t2⟩ := three (unhide HT4).r
      have hx0' : ((x : Int) == 0) = false := by rw [beq_eq_false_iff_ne]; omega
      have hx1 : ((x : Int) != 0) = true := by rw [bne_iff_ne]; omega
      go_wp2_with fail
      refine Calls.mono (refDone_any a1 c1 p i2 x wr) ?_
      rintro r w5 ⟨rfl, k5⟩
      rw [doneE_bad hx0]
      have HZ5 := hide (k5.heap (unhide HT4).z (by simp))
      have HK5 := hide ((unhide HT4).kept.trans k5 (by simp))
      clear k5
      go_wp2_with (refine wpList_store_row rfl 51 _ _ rfl w.heap.size #[.int .u64 0, .slice none 0 0] rfl rfl _ #[.int .u64 0, .slice none 0 0] (unhide HZ5) Try.size_batch rfl (by simp [Value.oneCell']) ?_)
      refine bodyPost_ret (v := .tuple #[.agg #[.int .u64 0, .slice none 0 0], .int .i64 x]) ?_ rfl ⟨.slice none 0 0, by rw [unhide HDE]; rfl, by rw [unhide HDE]; exact RdN.nil _, (unhide HK5).setRowE (Or.inr (Nat.le_refl _)) _⟩
      exact results_row_tmp2 rfl _ _ w.heap.size _ #[.int .u64 0, .slice none 0 0] (0, 0) _ rfl (setRow_heap _ _ _ _ _ _ (unhide HZ5)) Try.underlying51 rfl Try.size_batch _ rfl
  have hA' : ¬ (64 : Int) < n := by omega
  have hcv : IntKind.i64.wrap (n : Int) = n := by simp [IntKind.wrap, IntKind.signed, IntKind.bits]; omega
  by_cases hB : n = 0
  · have hB' : ((n : Int) == 0) = true := by rw [hB]; rfl
    have hlt : ¬ (0 : Int) < n := by omega
    go_wp2_with fail
    clear s0 s1 s2 t0 t1 t2
    obtain ⟨WB, hWB⟩ : ∃ W, (((w2.setCell ⟨w.heap.size + 1 + 1, 0, none⟩ (.slice a1 p.length c1)).setCell ⟨w.heap.size + 1 + 1, 1, none⟩ (.int .i64 (i2 : Int))).setCell ⟨w.heap.size + 1 + 1, 2, none⟩ (.int .i64 (e2 : Int))) = W := ⟨_, rfl⟩
    rw [hWB] at HTB ⊢
    clear hWB
    refine Calls.mono (failed_any a1 p.length c1 i2 e2 3 WB) ?_
    rintro r w3 ⟨rfl, k3⟩
    have HDE := hide (show D = (0, [], if e2 = 0 then 3 else e2) from by
      by_cases h0 : e2 = 0
      · rw [if_pos h0]
        have h9 := (unhide HDD).2.1 h0
        have hc : cntE f n = 3 := by unfold cntE; rw [if_neg hA, if_pos (Or.inl hB)]
        rw [hc] at h9
        exact h9 (by decide)
      · rw [if_neg h0]; exact (unhide HDD).1 h0)
    have hx0 : (if e2 = 0 then 3 else e2) ≠ 0 := by split <;> omega
    obtain ⟨x, hx⟩ : ∃ x, (if e2 = 0 then 3 else e2) = x := ⟨_, rfl⟩
    rw [hx] at HDE hx0 ⊢
    clear hx
    have HT3 := hide ((unhide HTB).old k3)
    clear k3
    obtain ⟨⟨s0, s1, s2⟩, t0, t1, t2⟩ := three (unhide HT3).r
    have HT4 := hide ((unhide HT3).setR (.slice a1 p.length c1) i2 x)
    go_wp2_with fail
    clear s0 s1 s2 t0 t1 t2
    obtain ⟨WX, hWX⟩ : ∃ W, (((w3.setCell ⟨w.heap.size + 1 + 1, 0, none⟩ (.slice a1 p.length c1)).setCell ⟨w.heap.size + 1 + 1, 1, none⟩ (.int .i64 (i2 : Int))).setCell ⟨w.heap.size + 1 + 1, 2, none⟩ (.int .i64 (x : Int))) = W := ⟨_, rfl⟩
    rw [hWX] at HT4 ⊢
    clear hWX
    go_loopw [7] (fun t wr => t = .int .i64 0 ∧ wr = WX) (fun _ _ => 0)
    case atStart => exact ⟨rfl, rfl⟩
    case round =>
      obtain ⟨rfl, rfl⟩ := hrel
      obtain ⟨⟨s0, s1, s2⟩, t0, t1, t2⟩ := three (unhide HT4).r
      have hx0' : ((x : Int) == 0) = false := by rw [beq_eq_false_iff_ne]; omega
      have hx1 : ((x : Int) != 0) = true := by rw [bne_iff_ne]; omega
      go_wp2_with fail
      refine Calls.mono (refDone_any a1 c1 p i2 x wr) ?_
      rintro r w5 ⟨rfl, k5⟩
      rw [doneE_bad hx0]
      have HZ5 := hide (k5.heap (unhide HT4).z (by simp))
      have HK5 := hide ((unhide HT4).kept.trans k5 (by simp))
      clear k5
      go_wp2_with (refine wpList_store_row rfl 51 _ _ rfl w.heap.size #[.int .u64 0, .slice none 0 0] rfl rfl _ #[.int .u64 0, .slice none 0 0] (unhide HZ5) Try.size_batch rfl (by simp [Value.oneCell']) ?_)
      refine bodyPost_ret (v := .tuple #[.agg #[.int .u64 0, .slice none 0 0], .int .i64 x]) ?_ rfl ⟨.slice none 0 0, by rw [unhide HDE]; rfl, by rw [unhide HDE]; exact RdN.nil _, (unhide HK5).setRowE (Or.inr (Nat.le_refl _)) _⟩
      exact results_row_tmp2 rfl _ _ w.heap.size _ #[.int .u64 0, .slice none 0 0] (0, 0) _ rfl (setRow_heap _ _ _ _ _ _ (unhide HZ5)) Try.underlying51 rfl Try.size_batch _ rfl
  have hB' : ((n : Int) == 0) = false := by rw [beq_eq_false_iff_ne]; omega
  have h0e : e2 = 0 := by
    rcases Nat.eq_zero_or_pos e2 with h | h
    · exact h
    · exact absurd (unhide HE0 (by omega)) hB
  have H0E := hide h0e
  clear h0e
  go_wp2_with fail
  clear s0 s1 s2 t0 t1 t2
  refine Calls.mono (fits5_any f n _ hfl (by omega)) ?_
  rintro r wz ⟨rfl, rfl⟩
  by_cases hF : ¬ f + n < 18446744073709551616
  · rw [decide_eq_false hF]
    have hlt : (0 : Int) < n := by omega
    have hTR := hide (three (unhide HTB).r)
    obtain ⟨⟨s0, s1, s2⟩, t0, t1, t2⟩ := unhide hTR
    go_wp2_with fail
    clear s0 s1 s2 t0 t1 t2
    obtain ⟨WB, hWB⟩ : ∃ W, (((w2.setCell ⟨w.heap.size + 1 + 1, 0, none⟩ (.slice a1 p.length c1)).setCell ⟨w.heap.size + 1 + 1, 1, none⟩ (.int .i64 (i2 : Int))).setCell ⟨w.heap.size + 1 + 1, 2, none⟩ (.int .i64 (e2 : Int))) = W := ⟨_, rfl⟩
    rw [hWB] at HTB ⊢
    clear hWB
    refine Calls.mono (failed_any a1 p.length c1 i2 e2 3 WB) ?_
    rintro r w3 ⟨rfl, k3⟩
    have HDE := hide (show D = (0, [], if e2 = 0 then 3 else e2) from by
      by_cases h0 : e2 = 0
      · rw [if_pos h0]
        have h9 := (unhide HDD).2.1 h0
        have hc : cntE f n = 3 := by unfold cntE; rw [if_neg hA, if_pos (Or.inr (by omega))]
        rw [hc] at h9
        exact h9 (by decide)
      · rw [if_neg h0]; exact (unhide HDD).1 h0)
    have hx0 : (if e2 = 0 then 3 else e2) ≠ 0 := by split <;> omega
    obtain ⟨x, hx⟩ : ∃ x, (if e2 = 0 then 3 else e2) = x := ⟨_, rfl⟩
    rw [hx] at HDE hx0 ⊢
    clear hx
    have HT3 := hide ((unhide HTB).old k3)
    clear k3
    obtain ⟨⟨s0, s1, s2⟩, t0, t1, t2⟩ := three (unhide HT3).r
    have HT4 := hide ((unhide HT3).setR (.slice a1 p.length c1) i2 x)
    go_wp2_with fail
    clear s0 s1 s2 t0 t1 t2
    obtain ⟨WX, hWX⟩ : ∃ W, (((w3.setCell ⟨w.heap.size + 1 + 1, 0, none⟩ (.slice a1 p.length c1)).setCell ⟨w.heap.size + 1 + 1, 1, none⟩ (.int .i64 (i2 : Int))).setCell ⟨w.heap.size + 1 + 1, 2, none⟩ (.int .i64 (x : Int))) = W := ⟨_, rfl⟩
    rw [hWX] at HT4 ⊢
    clear hWX
    go_loopw [7] (fun t wr => t = .int .i64 0 ∧ wr = WX) (fun _ _ => 0)
    case atStart => exact ⟨rfl, rfl⟩
    case round =>
      obtain ⟨rfl, rfl⟩ := hrel
      obtain ⟨⟨s0, s1, s2⟩, t0, t1, t2⟩ := three (unhide HT4).r
      have hx0' : ((x : Int) == 0) = false := by rw [beq_eq_false_iff_ne]; omega
      have hx1 : ((x : Int) != 0) = true := by rw [bne_iff_ne]; omega
      go_wp2_with fail
      refine Calls.mono (refDone_any a1 c1 p i2 x wr) ?_
      rintro r w5 ⟨rfl, k5⟩
      rw [doneE_bad hx0]
      have HZ5 := hide (k5.heap (unhide HT4).z (by simp))
      have HK5 := hide ((unhide HT4).kept.trans k5 (by simp))
      clear k5
      go_wp2_with (refine wpList_store_row rfl 51 _ _ rfl w.heap.size #[.int .u64 0, .slice none 0 0] rfl rfl _ #[.int .u64 0, .slice none 0 0] (unhide HZ5) Try.size_batch rfl (by simp [Value.oneCell']) ?_)
      refine bodyPost_ret (v := .tuple #[.agg #[.int .u64 0, .slice none 0 0], .int .i64 x]) ?_ rfl ⟨.slice none 0 0, by rw [unhide HDE]; rfl, by rw [unhide HDE]; exact RdN.nil _, (unhide HK5).setRowE (Or.inr (Nat.le_refl _)) _⟩
      exact results_row_tmp2 rfl _ _ w.heap.size _ #[.int .u64 0, .slice none 0 0] (0, 0) _ rfl (setRow_heap _ _ _ _ _ _ (unhide HZ5)) Try.underlying51 rfl Try.size_batch _ rfl
  have hF' : f + n < 18446744073709551616 := by omega
  rw [decide_eq_true hF']
  have hcn : cntE f n = 0 := by unfold cntE; rw [if_neg hA, if_neg (by omega)]
  have HDY := hide ((unhide HDD).2.2 (unhide H0E) hcn)
  obtain ⟨WB, hWB⟩ : ∃ W, (((w2.setCell ⟨w.heap.size + 1 + 1, 0, none⟩ (.slice a1 p.length c1)).setCell ⟨w.heap.size + 1 + 1, 1, none⟩ (.int .i64 (i2 : Int))).setCell ⟨w.heap.size + 1 + 1, 2, none⟩ (.int .i64 (e2 : Int))) = W := ⟨_, rfl⟩
  rw [hWB] at HTB ⊢
  clear hWB hF hcn HDD HE0
  go_wp2_with fail
  have HW6 := hide (Kept.refl [w.heap.size + 1, w.heap.size + 1 + 1] WB)
  go_loopw [7] (fun t7 wr => ∃ (j ij x : Nat) (vE : Value) (ts : List (En × Value × Value)), j ≤ n ∧ t7 = .int .i64 j ∧ ij ≤ p.length ∧ Hid (ts.length = j) ∧ Hid (x ≠ 0 → D = (0, [], x)) ∧ Hid (x = 0 → D = docY p f (ts.map (·.1)) (docN p ij (n - j))) ∧ Hid (TB w wr f vE (.slice a1 p.length c1) ij x) ∧ Hid (OwnN [w.heap.size + 1, w.heap.size + 1 + 1] WB wr vE ts)) (fun t _ => n - (intOf t).toNat)
  case atStart => exact ⟨0, i2, e2, .slice none 0 0, [], Nat.zero_le _, rfl, hli2, hide rfl, hide (fun h => absurd (unhide H0E) h), hide (fun _ => unhide HDY), HTB, hide (OwnN.start (unhide HW6))⟩
  case round =>
    obtain ⟨j, ij, x, vE, ts, hj, rfl, hij, HJ, HX1, HX0, HT, HO⟩ := hrel
    obtain ⟨⟨s0, s1, s2⟩, t0, t1, t2⟩ := three (unhide HT).r
    by_cases hgo : j < n ∧ x = 0
    · obtain ⟨hlt, hx0⟩ := hgo
      subst hx0
      have HX2 := hide (unhide HX0 rfl)
      have hlt' : (j : Int) < n := by omega
      have kal := (Kept.refl [] wr).alloc (.cells #[.int .u8 0, .slice none 0 0, .slice none 0 0] 45)
      have HTa := hide ((unhide HT).old kal)
      have HOa := hide ((unhide HO).pass (M := []) kal (by simp) (by simp) (by simp))
      have HEa := hide (heap_alloc_new wr (.cells #[.int .u8 0, .slice none 0 0, .slice none 0 0] 45))
      have HSa := hide (show (wr.alloc (.cells #[.int .u8 0, .slice none 0 0, .slice none 0 0] 45)).heap.size = wr.heap.size + 1 by simp)
      obtain ⟨⟨d0, d1, d2⟩, f0, f1, f2⟩ := three (unhide HTa).r
      clear kal
      go_wp2_with fail
      clear d0 d1 d2 f0 f1 f2 s0 s1 s2 t0 t1 t2
      obtain ⟨Wa, hWa⟩ : ∃ W, wr.alloc (.cells #[.int .u8 0, .slice none 0 0, .slice none 0 0] 45) = W := ⟨_, rfl⟩
      rw [hWa] at HTa HOa HEa HSa ⊢
      clear hWa
      refine Calls.mono (refTake_any a1 c1 p ij 0 Wa ((unhide H).old (unhide HTa).kept (by simp)) hij) ?_
      rintro r w4 ⟨kv, vv, rfl, ok4, k4, b4⟩
      obtain ⟨m, hm⟩ : ∃ m, n - j = m + 1 := ⟨n - j - 1, by omega⟩
      have hmm : n - (j + 1) = m := by omega
      have HST := hide (fun he : (docT p ij 0).2.2 ≠ 0 => by have h9 := unhide HX2; rw [hm, docY_stop he] at h9; exact h9 : (docT p ij 0).2.2 ≠ 0 → D = (0, [], (docT p ij 0).2.2))
      have HSP := hide (fun he : (docT p ij 0).2.2 = 0 => by have h9 := unhide HX2; rw [hm, docY_step he, ← hmm] at h9; exact h9 : (docT p ij 0).2.2 = 0 → D = docY p f (ts.map (·.1) ++ [(docT p ij 0).1]) (docN p (docT p ij 0).2.1 (n - (j + 1))))
      have hle := docT_le p ij hij
      obtain ⟨X, hX⟩ : ∃ X, docT p ij 0 = X := ⟨_, rfl⟩
      rw [hX] at HST HSP ok4 hle ⊢
      clear hX hm hmm HX0 HX1 HX2
      obtain ⟨en, i3, e3⟩ := X
      simp only at HST HSP ok4 hle ⊢
      unfold enC
      have HOK4 := hide ok4
      obtain ⟨a8, m8, c8, hu8, _⟩ := id ok4.key
      subst hu8
      obtain ⟨a9, m9, c9, hu9, _⟩ := id ok4.val
      subst hu9
      have HNW := hide b4
      have HT4 := hide ((unhide HTa).old k4)
      have HO4 := hide ((unhide HOa).pass (M := []) k4 (by simp) (by simp) (by simp))
      have HE4 := hide (k4.heap (unhide HEa) (by simp))
      clear ok4 k4 b4 HTa HOa HEa
      have hEs : w.heap.size + 1 + 1 < wr.heap.size := lt_of_block (unhide HT).r
      have hBs : w.heap.size + 1 + 1 < WB.heap.size := lt_of_block (unhide HTB).r
      have hWs : WB.heap.size ≤ wr.heap.size := (unhide HO).kept.size
      have HN1 := hide (fun e' => Nat.lt_irrefl _ ((unhide HO).own.lt wr.heap.size e').2 : vE.ownBlock ≠ some wr.heap.size)
      have HN2 := hide (fun t ht => ⟨fun hb => Nat.lt_irrefl _ (((unhide HO).ok t ht).key.ltN _ hb), fun hb => Nat.lt_irrefl _ (((unhide HO).ok t ht).val.ltN _ hb)⟩ : ∀ t ∈ ts, wr.heap.size ∉ nblk t.2.1 t.1.key ∧ wr.heap.size ∉ nblk t.2.2 t.1.val)
      have k5 := (Kept.refl [wr.heap.size] w4).setRowE (g := wr.heap.size) (Or.inl (by simp)) #[.int .u8 (en.k : Int), .slice a8 m8 c8, .slice a9 m9 c9]
      have HT5 := hide (⟨k5.heap (unhide HT4).z (by simp; omega), k5.heap (unhide HT4).b (by simp; omega), k5.heap (unhide HT4).r (by simp; omega), (unhide HT4).kept.trans k5 (by simp; omega)⟩ : TB w (w4.setRow wr.heap.size #[.int .u8 (en.k : Int), .slice a8 m8 c8, .slice a9 m9 c9]) f vE (.slice a1 p.length c1) ij 0)
      have HE5 := hide (setRow_heap w4 wr.heap.size _ #[.int .u8 (en.k : Int), .slice a8 m8 c8, .slice a9 m9 c9] 45 (0, 0) (unhide HE4))
      have HO5 := hide ((unhide HO4).pass k5 (by simp; omega) (fun x hx => by rw [List.mem_singleton] at hx; subst hx; exact unhide HN1) (fun x hx t ht => by rw [List.mem_singleton] at hx; subst hx; exact unhide HN2 t ht))
      have k6 := (Kept.refl [w.heap.size + 1 + 1] (w4.setRow wr.heap.size #[.int .u8 (en.k : Int), .slice a8 m8 c8, .slice a9 m9 c9])).setRowE (g := w.heap.size + 1 + 1) (Or.inl (by simp)) #[.slice a1 p.length c1, .int .i64 (i3 : Int), .int .i64 (e3 : Int)]
      have HT6 := hide (⟨k6.heap (unhide HT5).z (by simp; omega), k6.heap (unhide HT5).b (by simp), setRow_heap _ _ _ _ _ _ (unhide HT5).r, (unhide HT5).kept.trans k6 (by simp; omega)⟩ : TB w ((w4.setRow wr.heap.size #[.int .u8 (en.k : Int), .slice a8 m8 c8, .slice a9 m9 c9]).setRow (w.heap.size + 1 + 1) #[.slice a1 p.length c1, .int .i64 (i3 : Int), .int .i64 (e3 : Int)]) f vE (.slice a1 p.length c1) i3 e3)
      have HE6 := hide (k6.heap (unhide HE5) (by simp; omega))
      have HO6 := hide ((unhide HO5).pass k6 (by simp) (fun x hx e' => by rw [List.mem_singleton] at hx; subst hx; have h9 := ((unhide HO5).own.lt _ e').1; omega) (fun x hx t ht => by rw [List.mem_singleton] at hx; subst hx; exact ⟨fun hb => by have h9 := ((unhide HO5).apart t ht _ (Or.inl hb)).2; omega, fun hb => by have h9 := ((unhide HO5).apart t ht _ (Or.inr hb)).2; omega⟩))
      have HOK6 := hide (⟨(unhide HOK4).k, ((unhide HOK4).key.kept k5 (fun x hx => by have h9 := unhide HNW x (Or.inl hx); have h8 := unhide HSa; simp; omega)).kept k6 (fun x hx => by have h9 := unhide HNW x (Or.inl hx); have h8 := unhide HSa; simp; omega), ((unhide HOK4).val.kept k5 (fun x hx => by have h9 := unhide HNW x (Or.inr hx); have h8 := unhide HSa; simp; omega)).kept k6 (fun x hx => by have h9 := unhide HNW x (Or.inr hx); have h8 := unhide HSa; simp; omega)⟩ : OkE ((w4.setRow wr.heap.size #[.int .u8 (en.k : Int), .slice a8 m8 c8, .slice a9 m9 c9]).setRow (w.heap.size + 1 + 1) #[.slice a1 p.length c1, .int .i64 (i3 : Int), .int .i64 (e3 : Int)]) en (.slice a8 m8 c8) (.slice a9 m9 c9))
      clear k5 k6
      go_wp2_with (first
        | (refine wpList_store_row rfl 45 _ _ rfl wr.heap.size #[.int .u8 (en.k : Int), .slice a8 m8 c8, .slice a9 m9 c9] rfl rfl _ #[.int .u8 0, .slice none 0 0, .slice none 0 0] (unhide HE4) Try.size_entry rfl (row3_one rfl rfl rfl) ?_)
        | (refine wpList_store_row rfl 103 _ _ rfl (w.heap.size + 1 + 1) #[.slice a1 p.length c1, .int .i64 (i3 : Int), .int .i64 (e3 : Int)] rfl rfl _ #[.slice a1 p.length c1, .int .i64 (ij : Int), .int .i64 0] (unhide HT5).r Try.size_rr rfl (row3_one rfl rfl rfl) ?_; obtain ⟨WC, hWC⟩ : ∃ W, (w4.setRow wr.heap.size #[.int .u8 (en.k : Int), .slice a8 m8 c8, .slice a9 m9 c9]).setRow (w.heap.size + 1 + 1) #[.slice a1 p.length c1, .int .i64 (i3 : Int), .int .i64 (e3 : Int)] = W := ⟨_, rfl⟩; rw [hWC]; rw [hWC] at HT6 HE6 HO6 HOK6; clear hWC HT5 HE5 HO5; obtain ⟨⟨d0, d1, d2⟩, f0, f1, f2⟩ := three (unhide HE6); have v1 := cell_of_row _ _ 1 _ _ _ (unhide HT6).b; have HO7 := hide ((unhide HO6).pass (M := []) ((Kept.refl [] WC).alloc (.cells #[.int .u8 (en.k : Int), .slice a8 m8 c8, .slice a9 m9 c9] 45)) (by simp) (by simp) (by simp)); have HB7 := hide (unhide HO7).kept.size; have HV7 := hide (((Kept.refl [] WC).alloc (.cells #[.int .u8 (en.k : Int), .slice a8 m8 c8, .slice a9 m9 c9] 45)).heap (unhide HT6).b (by simp)))
        | (at_builtin; refine wpList_pushN rfl _ _ rfl rfl _ WB.heap.size vE ts en (.slice a8 m8 c8) (.slice a9 m9 c9) WC.heap.size (unhide HO7).own (heap_alloc_new _ _) rfl rfl (by have := unhide HJ; omega) (unhide HB7) rfl rfl ?_; intro g cap2 w8 HO8 HG8 HA8; have k8 := (Kept.refl vE.ownBlock.toList (WC.alloc (.cells #[.int .u8 (en.k : Int), .slice a8 m8 c8, .slice a9 m9 c9] 45))).grown (unhide HG8) (by intro k hk; left; simp [hk]); have HNO := hide (fun (y : Nat) (hy : y < WB.heap.size) (hm9 : y ∈ vE.ownBlock.toList) => by have h9 := ((unhide HO7).own.lt y (by simpa using hm9)).1; omega : ∀ y, y < WB.heap.size → y ∉ vE.ownBlock.toList); have HT8 := hide (⟨k8.heap ((unhide HT6).old ((Kept.refl [] WC).alloc _)).z (unhide HNO _ (by omega)), k8.heap ((unhide HT6).old ((Kept.refl [] WC).alloc _)).b (unhide HNO _ (by omega)), k8.heap ((unhide HT6).old ((Kept.refl [] WC).alloc _)).r (unhide HNO _ (by omega)), ((unhide HT6).kept.alloc _).trans k8 (fun x hx => by have h9 := ((unhide HO7).own.lt x (by simpa using hx)).1; omega)⟩ : TB w w8 f vE (.slice a1 p.length c1) i3 e3); clear k8; have v8 := cell_of_row _ _ 1 _ _ _ (unhide HT8).b; have z8 := frozen_of_row _ _ 1 _ _ (unhide HT8).b))
      refine ⟨⟨j + 1, i3, e3, .slice (some ⟨g, 0, none⟩) (ts.length + 1) cap2, ts ++ [(en, .slice a8 m8 c8, .slice a9 m9 c9)], by omega, by go_num, hle, hide (by rw [List.length_append, unhide HJ]; rfl), HST, hide (fun h => by rw [List.map_append]; exact unhide HSP h), hide ((unhide HT8).setE _), hide ?_⟩, ?_⟩
      · have o8 := (unhide HO7).push ((unhide HOK6).old ((Kept.refl [] WC).alloc _)) (fun b' hb' => by
          have h9 : Wa.heap.size ≤ b' := by
            rcases hb' with hb' | hb'
            · exact unhide HNW b' (Or.inl (mem_nblk hb').1)
            · exact unhide HNW b' (Or.inr (mem_nblk hb').1)
          have h8 := unhide HSa
          exact ⟨fun e' => by have h7 := ((unhide HO).own.lt b' e').2; omega, by omega⟩) (unhide HO8) (unhide HG8) (unhide HA8)
        refine o8.pass ((Kept.refl [w.heap.size + 1] w8).setCell (p := ⟨w.heap.size + 1, 1, none⟩) (Or.inl (by simp)) _) (by simp) (fun x hx e' => ?_) (fun x hx t ht => ⟨fun hb' => ?_, fun hb' => ?_⟩)
        · have h9 := (o8.own.lt x e').1; rw [List.mem_singleton] at hx; omega
        · have h9 := (o8.apart t ht x (Or.inl hb')).2; rw [List.mem_singleton] at hx; omega
        · have h9 := (o8.apart t ht x (Or.inr hb')).2; rw [List.mem_singleton] at hx; omega
      · simp [intOf]; omega
    · have HDF := hide (show D = if doneE p ij x ≠ 0 then (0, [], doneE p ij x) else (f, ts.map (·.1), 0) from by
        by_cases hx0 : x = 0
        · have h9 := unhide HX0 hx0
          have hjn : n - j = 0 := by omega
          rw [hjn, show docN p ij 0 = ([], ij, 0) from rfl] at h9
          rw [h9, hx0]
          unfold docY
          simp
        · rw [doneE_bad hx0, if_pos hx0]; exact unhide HX1 hx0)
      obtain ⟨aE, mE, cE, hvE⟩ : ∃ aE mE cE, vE = .slice aE mE cE := by
        rcases (unhide HO).own.2 with ⟨rfl, _⟩ | ⟨g, cap, cur, rfl, _⟩
        · exact ⟨_, _, _, rfl⟩
        · exact ⟨_, _, _, rfl⟩
      subst hvE
      have hBs : w.heap.size + 1 + 1 < WB.heap.size := lt_of_block (unhide HTB).r
      have hor : (j < n ∧ x ≠ 0) ∨ ¬ j < n := by omega
      clear HX0 HX1
      rcases hor with ⟨h1, h2⟩ | h1
      · have h1' : (j : Int) < n := by omega
        have h2' : ((x : Int) == 0) = false := by rw [beq_eq_false_iff_ne]; omega
        clear h1 h2 hgo
        go_wp2_with fail
        refine Calls.mono (refDone_any a1 c1 p ij x wr) ?_
        rintro r w5 ⟨rfl, k5⟩
        obtain ⟨fE, hfE⟩ : ∃ fE, doneE p ij x = fE := ⟨_, rfl⟩
        rw [hfE] at HDF ⊢
        clear hfE
        have HT5 := hide ((unhide HT).old k5)
        have HO5 := hide ((unhide HO).pass (M := []) k5 (by simp) (by simp) (by simp))
        clear k5 s0 s1 s2 t0 t1 t2
        by_cases h0 : fE = 0
        · subst h0
          have HE := hide (by have h9 := unhide HDF; rw [if_neg (by simp)] at h9; exact h9 : D = (f, ts.map (·.1), 0))
          have krow := (Kept.refl [w.heap.size] w5).setRowE (g := w.heap.size) (Or.inl (by simp)) #[.int .u64 (f : Int), .slice aE mE cE]
          have HOR := hide (((unhide HO5).mono (M := [w.heap.size + 1, w.heap.size + 1 + 1, w.heap.size]) (by intro x hx; simp at hx; rcases hx with rfl | rfl <;> simp)).pass krow (by simp) (fun x hx e' => by have h9 := ((unhide HO5).own.lt x e').1; rw [List.mem_singleton] at hx; omega) (fun x hx t ht => ⟨fun hb' => by have h9 := ((unhide HO5).apart t ht x (Or.inl hb')).2; rw [List.mem_singleton] at hx; omega, fun hb' => by have h9 := ((unhide HO5).apart t ht x (Or.inr hb')).2; rw [List.mem_singleton] at hx; omega⟩))
          clear krow
          go_wp2_with (first
            | (refine wpList_load_row rfl 51 _ rfl (w.heap.size + 1) rfl _ #[.int .u64 (f : Int), .slice aE mE cE] (0, 0) _ (unhide HT5).b Try.underlying51 rfl Try.size_batch ?_)
            | (refine wpList_store_row rfl 51 _ _ rfl w.heap.size #[.int .u64 (f : Int), .slice aE mE cE] rfl rfl _ #[.int .u64 0, .slice none 0 0] (unhide HT5).z Try.size_batch rfl (by simp [Value.oneCell']) ?_))
          refine bodyPost_ret (v := .tuple #[.agg #[.int .u64 (f : Int), .slice aE mE cE], .int .i64 0]) ?_ rfl ⟨.slice aE mE cE, by rw [unhide HE]; rfl, by rw [unhide HE]; exact (unhide HOR).rdN, (unhide HT5).kept.setRowE (Or.inr (Nat.le_refl _)) _⟩
          exact results_row_tmp2 rfl _ _ w.heap.size _ #[.int .u64 (f : Int), .slice aE mE cE] (0, 0) _ rfl (setRow_heap _ _ _ _ _ _ (unhide HT5).z) Try.underlying51 rfl Try.size_batch _ rfl
        · have HE := hide (by have h9 := unhide HDF; rw [if_pos h0] at h9; exact h9 : D = (0, [], fE))
          have hb0 : ((fE : Int) != 0) = true := by rw [bne_iff_ne]; omega
          go_wp2_with (refine wpList_store_row rfl 51 _ _ rfl w.heap.size #[.int .u64 0, .slice none 0 0] rfl rfl _ #[.int .u64 0, .slice none 0 0] (unhide HT5).z Try.size_batch rfl (by simp [Value.oneCell']) ?_)
          refine bodyPost_ret (v := .tuple #[.agg #[.int .u64 0, .slice none 0 0], .int .i64 fE]) ?_ rfl ⟨.slice none 0 0, by rw [unhide HE]; rfl, by rw [unhide HE]; exact RdN.nil _, (unhide HT5).kept.setRowE (Or.inr (Nat.le_refl _)) _⟩
          exact results_row_tmp2 rfl _ _ w.heap.size _ #[.int .u64 0, .slice none 0 0] (0, 0) _ rfl (setRow_heap _ _ _ _ _ _ (unhide HT5).z) Try.underlying51 rfl Try.size_batch _ rfl
      · have h1' : ¬ (j : Int) < n := by omega
        clear h1 hgo
        go_wp2_with fail
        refine Calls.mono (refDone_any a1 c1 p ij x wr) ?_
        rintro r w5 ⟨rfl, k5⟩
        obtain ⟨fE, hfE⟩ : ∃ fE, doneE p ij x = fE := ⟨_, rfl⟩
        rw [hfE] at HDF ⊢
        clear hfE
        have HT5 := hide ((unhide HT).old k5)
        have HO5 := hide ((unhide HO).pass (M := []) k5 (by simp) (by simp) (by simp))
        clear k5 s0 s1 s2 t0 t1 t2
        by_cases h0 : fE = 0
        · subst h0
          have HE := hide (by have h9 := unhide HDF; rw [if_neg (by simp)] at h9; exact h9 : D = (f, ts.map (·.1), 0))
          have krow := (Kept.refl [w.heap.size] w5).setRowE (g := w.heap.size) (Or.inl (by simp)) #[.int .u64 (f : Int), .slice aE mE cE]
          have HOR := hide (((unhide HO5).mono (M := [w.heap.size + 1, w.heap.size + 1 + 1, w.heap.size]) (by intro x hx; simp at hx; rcases hx with rfl | rfl <;> simp)).pass krow (by simp) (fun x hx e' => by have h9 := ((unhide HO5).own.lt x e').1; rw [List.mem_singleton] at hx; omega) (fun x hx t ht => ⟨fun hb' => by have h9 := ((unhide HO5).apart t ht x (Or.inl hb')).2; rw [List.mem_singleton] at hx; omega, fun hb' => by have h9 := ((unhide HO5).apart t ht x (Or.inr hb')).2; rw [List.mem_singleton] at hx; omega⟩))
          clear krow
          go_wp2_with (first
            | (refine wpList_load_row rfl 51 _ rfl (w.heap.size + 1) rfl _ #[.int .u64 (f : Int), .slice aE mE cE] (0, 0) _ (unhide HT5).b Try.underlying51 rfl Try.size_batch ?_)
            | (refine wpList_store_row rfl 51 _ _ rfl w.heap.size #[.int .u64 (f : Int), .slice aE mE cE] rfl rfl _ #[.int .u64 0, .slice none 0 0] (unhide HT5).z Try.size_batch rfl (by simp [Value.oneCell']) ?_))
          refine bodyPost_ret (v := .tuple #[.agg #[.int .u64 (f : Int), .slice aE mE cE], .int .i64 0]) ?_ rfl ⟨.slice aE mE cE, by rw [unhide HE]; rfl, by rw [unhide HE]; exact (unhide HOR).rdN, (unhide HT5).kept.setRowE (Or.inr (Nat.le_refl _)) _⟩
          exact results_row_tmp2 rfl _ _ w.heap.size _ #[.int .u64 (f : Int), .slice aE mE cE] (0, 0) _ rfl (setRow_heap _ _ _ _ _ _ (unhide HT5).z) Try.underlying51 rfl Try.size_batch _ rfl
        · have HE := hide (by have h9 := unhide HDF; rw [if_pos h0] at h9; exact h9 : D = (0, [], fE))
          have hb0 : ((fE : Int) != 0) = true := by rw [bne_iff_ne]; omega
          go_wp2_with (refine wpList_store_row rfl 51 _ _ rfl w.heap.size #[.int .u64 0, .slice none 0 0] rfl rfl _ #[.int .u64 0, .slice none 0 0] (unhide HT5).z Try.size_batch rfl (by simp [Value.oneCell']) ?_)
          refine bodyPost_ret (v := .tuple #[.agg #[.int .u64 0, .slice none 0 0], .int .i64 fE]) ?_ rfl ⟨.slice none 0 0, by rw [unhide HE]; rfl, by rw [unhide HE]; exact RdN.nil _, (unhide HT5).kept.setRowE (Or.inr (Nat.le_refl _)) _⟩
          exact results_row_tmp2 rfl _ _ w.heap.size _ #[.int .u64 0, .slice none 0 0] (0, 0) _ rfl (setRow_heap _ _ _ _ _ _ (unhide HT5).z) Try.underlying51 rfl Try.size_batch _ rfl
end Go.Proofs.Ytkcanelboloihaa
namespace Go.Proofs.Ytkcanelboloihaa
open Go.RowKit
def RdL (w : World) (v : Value) (ps : List (List Nat)) : Prop :=
  ∃ (ao : Option Addr) (len cap : Nat) (vs : List Value), v = .slice ao len cap ∧ vs.length = len ∧ ps.length = len ∧ len ≤ cap ∧ cap ≤ 9223372036854775807 ∧
    (0 < len → ∃ b off, ao = some ⟨b, off, none⟩ ∧ ∀ i, i < len → w.cell? ⟨b, off + i, none⟩ = some (vs.getD i undef)) ∧ ∀ i, i < len → Rd w (vs.getD i undef) (ps.getD i [])
theorem RdL.old {w0 w : World} {v : Value} {ps : List (List Nat)} (h : RdL w0 v ps) (k : Kept [] w0 w) : RdL w v ps := by
  obtain ⟨ao, len, cap, vs, rfl, h1, h2, h3, h4, h5, h6⟩ := h
  refine ⟨ao, len, cap, vs, rfl, h1, h2, h3, h4, fun hp => ?_, fun i hi => (h6 i hi).old k (by simp)⟩
  obtain ⟨b, off, rfl, hc⟩ := h5 hp
  exact ⟨b, off, rfl, fun i hi => k.cell (hc i hi) (by simp)⟩
theorem flat_snoc (ps : List (List Nat)) (i : Nat) (h : i < ps.length) : (ps.take (i + 1)).flatten = (ps.take i).flatten ++ ps.getD i [] := by
  rw [List.take_succ_eq_append_getElem h, List.flatten_append, List.getD_eq_getElem?_getD, List.getElem?_eq_getElem h]; simp
theorem flat_le (ps : List (List Nat)) (i : Nat) : (ps.take i).flatten.length ≤ ps.flatten.length := by
  conv => rhs; rw [← List.take_append_drop i ps, List.flatten_append, List.length_append]
  omega
end Go.Proofs.Ytkcanelboloihaa
namespace Go.Proofs.Ytkcanelboloihaa
open Go.RowKit Go.BigFrame
set_option linter.unusedVariables false
set_option linter.unusedSimpArgs false

set_option maxRecDepth 100000 in
set_option maxHeartbeats 1000000 in
theorem decodes_any (v : Value) (p : List Nat) (w : World) (h : Rd w v p) :
    Calls Try.prog 10 #[v] w fun r w' => r = .returned (.bool true) ∧ Kept [] w w' := by
  have H := hide h
  obtain ⟨a1, n1, c1, hv1, hn1, _, ⟨_, hlen⟩, _⟩ := id h
  subst hv1
  subst hn1
  clear h
  go_enter Try.func10, Try.ntmps10
  go_wp2_with fail
  refine Calls.mono (twin_any _ p w (unhide H)) ?_
  rintro r w1 ⟨rfl, k1, h1⟩
  have HR1 := hide (rd_fresh h1 (unhide H).byte (by omega))
  have HK1 := hide k1
  clear h1 k1
  go_wp2_with fail
  refine Calls.mono (decode_any _ p w1 (unhide HR1)) ?_
  rintro r w2 ⟨kv2, vv2, rfl, ok2, k2, _⟩
  have HK2 := hide ((unhide HK1).trans k2 (by simp))
  have HO2 := hide ok2
  obtain ⟨a8, m8, c8, hu8, _⟩ := id ok2.key
  subst hu8
  obtain ⟨a9, m9, c9, hu9, _⟩ := id ok2.val
  subst hu9
  clear ok2 k2 HK1 HR1
  obtain ⟨D, hD⟩ : ∃ D, decE p = D := ⟨_, rfl⟩
  have HD := hide hD
  rw [hD] at HO2 ⊢
  clear hD
  obtain ⟨en, fe⟩ := D
  simp only at HO2 ⊢
  unfold enC
  go_wp2_with fail
  have ka := (Kept.refl [] w2).alloc (.cells #[.int .u8 (en.k : Int), .slice a8 m8 c8, .slice a9 m9 c9] 45)
  have HE3 := hide (heap_alloc_new w2 (.cells #[.int .u8 (en.k : Int), .slice a8 m8 c8, .slice a9 m9 c9] 45))
  have HK3 := hide ((unhide HK2).trans ka (by simp))
  have HO3 := hide ((unhide HO2).old ka)
  clear ka HK2 HO2
  obtain ⟨W3, hW3⟩ : ∃ W, w2.alloc (.cells #[.int .u8 (en.k : Int), .slice a8 m8 c8, .slice a9 m9 c9] 45) = W := ⟨_, rfl⟩
  rw [hW3] at HE3 HK3 HO3 ⊢
  clear hW3
  refine Calls.mono (docDecode_any _ p W3 ((unhide H).old (unhide HK3) (by simp))) ?_
  rintro r w4 ⟨kv4, vv4, rfl, ok4, k4⟩
  rw [unhide HD] at ok4 ⊢
  simp only at ok4 ⊢
  obtain ⟨b8, n8, d8, hu8, _⟩ := id ok4.key
  subst hu8
  obtain ⟨b9, n9, d9, hu9, _⟩ := id ok4.val
  subst hu9
  unfold enC
  have ka := (Kept.refl [] w4).alloc (.cells #[.int .u8 (en.k : Int), .slice b8 n8 d8, .slice b9 n9 d9] 45)
  have HE5 := hide (ka.heap (k4.heap (unhide HE3) (by simp)) (by simp))
  have HK5 := hide (((unhide HK3).trans k4 (by simp)).trans ka (by simp))
  have HO5 := hide (((unhide HO3).old k4).old ka)
  have HF5 := hide (heap_alloc_new w4 (.cells #[.int .u8 (en.k : Int), .slice b8 n8 d8, .slice b9 n9 d9] 45))
  have HP5 := hide (ok4.old ka)
  clear ka k4 ok4 HE3 HK3 HO3
  go_wp2_with fail
  obtain ⟨W5, hW5⟩ : ∃ W, w4.alloc (.cells #[.int .u8 (en.k : Int), .slice b8 n8 d8, .slice b9 n9 d9] 45) = W := ⟨_, rfl⟩
  rw [hW5] at HE5 HK5 HO5 HF5 HP5 ⊢
  clear hW5
  refine Calls.mono (twin_any _ p W5 ((unhide H).old (unhide HK5) (by simp))) ?_
  rintro r w6 ⟨rfl, k6, h6⟩
  have HR6 := hide (rd_fresh h6 (unhide H).byte (by omega))
  have HE6 := hide (k6.heap (unhide HE5) (by simp))
  have HF6 := hide (k6.heap (unhide HF5) (by simp))
  have HK6 := hide ((unhide HK5).trans k6 (by simp))
  have HO6 := hide ((unhide HO5).old k6)
  have HP6 := hide ((unhide HP5).old k6)
  clear h6 k6 HE5 HF5 HK5 HO5 HP5
  go_wp2_with fail
  refine Calls.mono (decodeBatch_any _ p w6 (unhide HR6)) ?_
  rintro r w7 ⟨bv, rfl, n7, k7⟩
  have HN7 := hide n7.rdN
  obtain ⟨ab, mb, cb, _, _, hub, _⟩ := id n7.rdN
  subst hub
  obtain ⟨E, hE⟩ : ∃ E, decB p = E := ⟨_, rfl⟩
  have HDB := hide hE
  rw [hE] at HN7 ⊢
  clear hE n7
  obtain ⟨fb, es, ge⟩ := E
  simp only at HN7 ⊢
  have ka := (Kept.refl [] w7).alloc (.cells #[.int .u64 (fb : Int), .slice ab mb cb] 51)
  have HE8 := hide (ka.heap (k7.heap (unhide HE6) (by simp)) (by simp))
  have HF8 := hide (ka.heap (k7.heap (unhide HF6) (by simp)) (by simp))
  have HG8 := hide (heap_alloc_new w7 (.cells #[.int .u64 (fb : Int), .slice ab mb cb] 51))
  have HK8 := hide (((unhide HK6).trans k7 (by simp)).trans ka (by simp))
  have HO8 := hide (((unhide HO6).old k7).old ka)
  have HP8 := hide (((unhide HP6).old k7).old ka)
  have HN8 := hide ((unhide HN7).old ka)
  clear ka k7 HE6 HF6 HK6 HO6 HP6 HN7 HR6
  go_wp2_with fail
  obtain ⟨W8, hW8⟩ : ∃ W, w7.alloc (.cells #[.int .u64 (fb : Int), .slice ab mb cb] 51) = W := ⟨_, rfl⟩
  rw [hW8] at HE8 HF8 HG8 HK8 HO8 HP8 HN8 ⊢
  clear hW8
  refine Calls.mono (docDecodeBatch_any _ p W8 ((unhide H).old (unhide HK8) (by simp))) ?_
  rintro r w9 ⟨bv9, rfl, n9', k9⟩
  rw [unhide HDB] at n9' ⊢
  simp only at n9' ⊢
  obtain ⟨ac, mc, cc, _, _, huc, _⟩ := id n9'
  subst huc
  have ka := (Kept.refl [] w9).alloc (.cells #[.int .u64 (fb : Int), .slice ac mc cc] 51)
  have HEa := hide (ka.heap (k9.heap (unhide HE8) (by simp)) (by simp))
  have HFa := hide (ka.heap (k9.heap (unhide HF8) (by simp)) (by simp))
  have HGa := hide (ka.heap (k9.heap (unhide HG8) (by simp)) (by simp))
  have HHa := hide (heap_alloc_new w9 (.cells #[.int .u64 (fb : Int), .slice ac mc cc] 51))
  have HKa := hide (((unhide HK8).trans k9 (by simp)).trans ka (by simp))
  have HOa := hide (((unhide HO8).old k9).old ka)
  have HPa := hide (((unhide HP8).old k9).old ka)
  have HNa := hide (((unhide HN8).old k9).old ka)
  have HMa := hide (n9'.old ka)
  clear ka k9 n9' HE8 HF8 HG8 HK8 HO8 HP8 HN8
  have hff : ((fe : Int) == (fe : Int)) = true := by simp
  have hgg : ((ge : Int) == (ge : Int)) = true := by simp
  obtain ⟨Wa, hWa⟩ : ∃ W, w9.alloc (.cells #[.int .u64 (fb : Int), .slice ac mc cc] 51) = W := ⟨_, rfl⟩
  rw [hWa] at HEa HFa HGa HHa HKa HOa HPa HNa HMa
  have HWa := hide hWa
  clear hWa
  go_wp2_with (first
    | (rw [unhide HWa]; refine wpList_load_rowG rfl 45 _ rfl w2.heap.size rfl _ _ (0, 0) _ (unhide HEa) Try.underlying45 rfl Try.size_entry ?_)
    | (refine wpList_load_rowG rfl 45 _ rfl w2.heap.size rfl _ _ (0, 0) _ (unhide HEa) Try.underlying45 rfl Try.size_entry ?_)
    | (refine wpList_load_rowG rfl 45 _ rfl w4.heap.size rfl _ _ (0, 0) _ (unhide HFa) Try.underlying45 rfl Try.size_entry ?_))
  refine Calls.mono (sameEntry_any en en (.slice a8 m8 c8) (.slice a9 m9 c9) (.slice b8 n8 d8) (.slice b9 n9 d9) Wa (unhide HOa) (unhide HPa)) ?_
  rintro r wb ⟨rfl, kb⟩
  rw [decide_eq_true rfl]
  have HGb := hide (kb.heap (unhide HGa) (by simp))
  have HHb := hide (kb.heap (unhide HHa) (by simp))
  have HKb := hide ((unhide HKa).trans kb (by simp))
  have HNb := hide ((unhide HNa).old kb)
  have HMb := hide ((unhide HMa).old kb)
  clear kb HEa HFa HGa HHa HKa HOa HPa HNa HMa HWa
  go_wp2_with (first
    | (refine wpList_load_rowG rfl 51 _ rfl w7.heap.size rfl _ _ (0, 0) _ (unhide HGb) Try.underlying51 rfl Try.size_batch ?_)
    | (refine wpList_load_rowG rfl 51 _ rfl w9.heap.size rfl _ _ (0, 0) _ (unhide HHb) Try.underlying51 rfl Try.size_batch ?_))
  refine Calls.mono (sameBatch_any fb fb _ _ es es wb (unhide HNb) (unhide HMb)) ?_
  rintro r wc ⟨rfl, kc⟩
  rw [decide_eq_true rfl, decide_eq_true rfl]
  have HKc := hide ((unhide HKb).trans kc (by simp))
  clear kc
  go_wp2
  go_ret
  exact ⟨rfl, unhide HKc⟩

set_option maxRecDepth 100000 in
set_option maxHeartbeats 1000000 in
theorem entryDecodes_walk (v : Value) (ps : List (List Nat)) (w : World) (h : RdL w v ps) (hx : ps.flatten.length ≤ 1048576) (hy : ps.length ≤ 1048576) :
    Calls Try.prog 3 #[v] w fun r w' => r = .returned (.bool true) ∧ Below w.heap.size w w' := by
  obtain ⟨ao, len, cap, vs, rfl, h1, h2, h3, h4, h5, h6⟩ := h
  have H5 := hide h5
  have H6 := hide h6
  clear h5 h6
  go_enter Try.func3, Try.ntmps3
  go_wp2_with fail
  refine Calls.mono (eawake_any _) ?_
  rintro r w1 ⟨rfl, k1⟩
  have HK1 := hide k1
  clear k1
  go_wp2_with fail
  go_loopw [9] (fun t wr => ∃ (i : Nat), i ≤ len ∧ t = .int .i64 i ∧ Hid (Kept [] w wr)) (fun t _ => len - (intOf t).toNat)
  case atStart => exact ⟨0, Nat.zero_le _, rfl, HK1⟩
  case round =>
    obtain ⟨i, hi, rfl, HK⟩ := hrel
    by_cases hlt : i < len
    · have hlt' : (i : Int) < len := by omega
      obtain ⟨b, off, rfl, hcc⟩ := unhide H5 (by omega)
      have q0 := (unhide HK).cell (hcc i hlt) (by simp)
      have HR := hide ((unhide H6 i hlt).old (unhide HK) (by simp))
      clear hcc
      generalize vs.getD i undef = vi at q0 HR
      generalize ps.getD i [] = p at HR
      obtain ⟨a8, m8, c8, rfl, _⟩ := id (unhide HR)
      go_wp2_with fail
      refine Calls.mono (decodes_any _ p wr (unhide HR)) ?_
      rintro r w2 ⟨rfl, k2⟩
      have HK2 := hide ((unhide HK).trans k2 (by simp))
      clear k2
      go_wp2
      refine ⟨⟨i + 1, by omega, by go_num, HK2⟩, ?_⟩
      simp [intOf]; omega
    · have hlt' : ¬ (i : Int) < len := by omega
      go_wp2
      go_ret
      exact ⟨rfl, (unhide HK).below (Nat.le_refl _) (by simp)⟩
end Go.Proofs.Ytkcanelboloihaa
namespace Go.Proofs.Ytkcanelboloihaa
open Go.ChangeShapes Go.WideShapes Go.ChangeAt Go.RowKit Go.Deep
set_option linter.unusedVariables false
set_option linter.unusedSimpArgs false

theorem own : ownKnob Try.prog.godebug = none := by kernel_rfl
theorem laidOut : laidOutB Try.prog = true := by kernel_rfl
theorem byte_of_wf {x : Int} (h : (Lit.int .u8 x).wf = true) : 0 ≤ x ∧ x < 256 := by
  simp [Lit.wf, IntKind.min, IntKind.max, IntKind.signed, IntKind.bits] at h
  exact ⟨by omega, by omega⟩
theorem int_of_wf {x : Int} (h : (Lit.int .i64 x).wf = true) : -9223372036854775808 ≤ x ∧ x ≤ 9223372036854775807 := by
  simp [Lit.wf, IntKind.min, IntKind.max, IntKind.signed, IntKind.bits] at h
  exact ⟨by omega, by omega⟩

theorem bulk_one {H : Type} (d : DataW H) : 1 ≤ Rows.uptoBulk d := by
  cases d with
  | lit l => cases l <;> simp [Rows.uptoBulk]
  | nil => simp [Rows.uptoBulk]
  | ptr d => simp [Rows.uptoBulk]
  | slice elems spare => simp [Rows.uptoBulk]
  | agg parts => simp [Rows.uptoBulk]
  | iface t d => simp [Rows.uptoBulk]
  | map entries => simp [Rows.uptoBulk]
  | held h => simp [Rows.uptoBulk]
theorem bulk_len {H : Type} (l : List (DataW H)) : l.length ≤ Rows.uptoBulkAll l := by
  induction l with
  | nil => simp [Rows.uptoBulkAll]
  | cons x r ih => have := bulk_one x; simp only [Rows.uptoBulkAll, List.length_cons]; omega
theorem Try.bytes5 : Try.prog.bytesOf 5 = 1 := by kernel_rfl

section
variable {H : Type} {enc : TypeId × Value → H} {W : World}

/-- Bytes that came in, as the walks want them, of whatever length. -/
theorem open_bytes {fuel : Nat} {cs : List Value} {x : DataW H × List MemPlace} (h : DataW.trod enc Try.prog W 0 (fun _ => true) true fuel 24 cs = some x) :
    ∃ v bs, cs = [v] ∧ (bs.length ≤ 140737488355328 → Rd W v bs) ∧ ((bs = [] ∧ x.1 = .nil) ∨ ∃ elems spare, x.1 = .slice elems spare ∧ elems.length = bs.length) := by
  rcases open_ints Try.underlying24 Try.underlying5 (by kernel_rfl) h with ⟨rfl, rfl⟩ | ⟨a, len, cap, zs, rfl, _, hl, hm, hz, rfl, hcell, hwz⟩
  · exact ⟨_, [], rfl, fun _ => Rd.nil W, .inl ⟨rfl, rfl⟩⟩
  · have h2 : (lits (H := H) .u8 (zs.take len)).length = len := by simp only [lits, List.length_map, List.length_take]; simp at hz; omega
    have hbl : ((zs.take len).map Int.toNat).length = len := by simp at hz; simp; omega
    refine ⟨_, (zs.take len).map Int.toNat, rfl, fun hB => ⟨_, _, _, rfl, hbl, hl, ⟨by unfold maxLen at hm; omega, by omega⟩, by simp, ?_, ?_⟩, .inr ⟨_, _, rfl, by rw [h2, hbl]⟩⟩
    · intro y hy
      obtain ⟨z, hz1, rfl⟩ := List.mem_map.1 hy
      have := byte_of_wf (hwz z (List.mem_of_mem_take hz1)); omega
    · intro hp
      simp at hz
      have hc0 := hcell 0 (by omega)
      obtain ⟨b, off, spot⟩ := a
      have hspot : spot = none := by simpa [Addr.add] using World.cell?_spot hc0
      subst hspot
      refine ⟨b, off, rfl, fun i hi => ?_⟩
      have hc := hcell i (by omega)
      have hzi : i < zs.length := by omega
      rw [Addr.add_mid] at hc
      rw [hc]
      have hw := byte_of_wf (hwz (zs[i]) (List.getElem_mem hzi))
      simp only [List.getD_eq_getElem?_getD, List.getElem?_eq_getElem hzi, Option.getD_some, List.getElem?_map, List.getElem?_take, hi, if_true, Option.map_some]
      simp [u8]; omega
/-- Their length, by the reach. -/
theorem reach_bytes {ts : List TypeId} {ds : List (DataW H)} (h : (DataW.weightsEach Try.prog ts ds).all (· ≤ reachBytes) = true) {j : Nat} (ht : ts[j]? = some 24) {d : DataW H} (hd : ds[j]? = some d) {bs : List Nat}
    (hx : (bs = [] ∧ d = .nil) ∨ ∃ elems spare, d = .slice elems spare ∧ elems.length = bs.length) : bs.length ≤ 140737488351232 := by
  rcases hx with ⟨rfl, _⟩ | ⟨elems, spare, rfl, he⟩
  · simp
  · have := sized_slice h ht hd Try.underlying24
    rw [Try.bytes5, Nat.mul_one] at this
    unfold reachBytes at this
    omega
/-- Their length, by the bulk. -/
theorem bulk_bytes {d : DataW H} {bs : List Nat} (hx : (bs = [] ∧ d = .nil) ∨ ∃ elems spare, d = .slice elems spare ∧ elems.length = bs.length) : bs.length + 1 ≤ Rows.uptoBulk d := by
  rcases hx with ⟨rfl, rfl⟩ | ⟨elems, spare, rfl, he⟩
  · simp [Rows.uptoBulk]
  · have := bulk_len elems
    simp only [Rows.uptoBulk]; omega
end
end Go.Proofs.Ytkcanelboloihaa
namespace Go.Proofs.Ytkcanelboloihaa
open Go.ChangeShapes Go.WideShapes Go.ChangeAt Go.RowKit Go.Deep
set_option linter.unusedVariables false
set_option linter.unusedSimpArgs false
section
variable {H : Type} {enc : TypeId × Value → H} {W : World}

theorem l_bulk_part {d : DataW H} {l : List (DataW H)} (h : d ∈ l) : Rows.uptoBulk d ≤ Rows.uptoBulkAll l := by
  induction l with
  | nil => cases h
  | cons x r ih =>
    simp only [Rows.uptoBulkAll]
    cases List.mem_cons.1 h with
    | inl e => subst e; omega
    | inr e => have := ih e; omega
theorem flat_bulk (f : Nat → List Nat) (D : Nat → DataW H) (l : List Nat) (h : ∀ i ∈ l, (f i).length + 1 ≤ Rows.uptoBulk (D i)) : (l.map f).flatten.length + l.length ≤ Rows.uptoBulkAll (l.map D) := by
  induction l with
  | nil => simp [Rows.uptoBulkAll]
  | cons a l ih =>
    have h1 := h a (by simp)
    have h2 := ih (fun i hi => h i (by simp [hi]))
    simp only [List.map_cons, List.flatten_cons, List.length_append, List.length_cons, Rows.uptoBulkAll] at h2 ⊢
    omega

/-- Lists of bytes that came in. -/
theorem open_lists {fuel : Nat} {cs : List Value} {x : DataW H × List MemPlace} (h : DataW.trod enc Try.prog W 0 (fun _ => true) true fuel 22 cs = some x) (hB : Rows.uptoBulk x.1 ≤ 1048576) :
    ∃ v ps, cs = [v] ∧ RdL W v ps ∧ ps.flatten.length ≤ 1048576 ∧ ps.length ≤ 1048576 := by
  rcases open_slice Try.underlying22 h with ⟨rfl, rfl⟩ | ⟨a, len, cap, m, n, D, Pl, rfl, _, hl, hm, hmm, rfl, hx⟩
  · exact ⟨_, [], rfl, ⟨none, 0, 0, [], rfl, rfl, rfl, Nat.le_refl _, by omega, fun h => by omega, fun i h => by omega⟩, by simp, by simp⟩
  · have hC : Try.prog.cellsOf 24 = 1 := by kernel_rfl
    rw [hC] at hx
    simp only [if_true] at hmm
    simp only [Rows.uptoBulk] at hB
    have hlb : len ≤ 1048576 := by have := bulk_len ((List.range len).map D); simp at this; omega
    obtain ⟨f, hf⟩ := choose_lt (α := Value × List Nat) (n := len) (p := fun i o => W.cell? (a.add i) = some o.1 ∧ Rd W o.1 o.2 ∧ o.2.length + 1 ≤ Rows.uptoBulk (D i)) (by
      intro i hi
      obtain ⟨cs', h1, h2⟩ := hx i (by omega)
      have hDi : Rows.uptoBulk (D i) ≤ Rows.uptoBulkAll ((List.range len).map D) := l_bulk_part (List.mem_map.2 ⟨i, List.mem_range.2 hi, rfl⟩)
      obtain ⟨v, bs, rfl, hr, hb⟩ := open_bytes h2
      have hb2 := bulk_bytes hb
      obtain ⟨_, hlen, hc⟩ := World.cells?_some h1
      have hc0 := hc 0 (by omega)
      have e : (a.add (i * 1)).add 0 = a.add i := by rw [Nat.mul_one]; simp [Addr.add]
      rw [e] at hc0
      exact ⟨(v, bs), hc0, hr (by simp only at hb2; omega), hb2⟩)
    refine ⟨_, (List.range len).map fun i => (f i).2, rfl, ⟨some a, len, cap, (List.range len).map fun i => (f i).1, rfl, by simp, by simp, hl, by unfold maxLen at hm; omega, ?_, ?_⟩, ?_, by simpa using hlb⟩
    · intro hp
      obtain ⟨b, off, spot⟩ := a
      have hc0 := (hf 0 hp).1
      have hspot : spot = none := by simpa [Addr.add] using World.cell?_spot hc0
      subst hspot
      refine ⟨b, off, rfl, fun i hi => ?_⟩
      have hc := (hf i hi).1
      rw [Addr.add_mid] at hc
      rw [hc]
      simp [List.getD_eq_getElem?_getD, hi]
    · intro i hi
      have hc := (hf i hi).2.1
      simpa [List.getD_eq_getElem?_getD, hi] using hc
    · have := flat_bulk (fun i => (f i).2) D (List.range len) (fun i hi => (hf i (List.mem_range.1 hi)).2.2)
      simp only [List.length_range] at this
      omega
end
end Go.Proofs.Ytkcanelboloihaa
