import Derived.Test.YtkcanelboloihaaEDocT0
namespace Go.Proofs.Ytkcanelboloihaa
open Go.RowKit Go.BigFrame
set_option linter.unusedVariables false
set_option linter.unusedSimpArgs false

set_option maxRecDepth 100000 in
set_option maxHeartbeats 2000000 in
theorem refTake_1 (ao : Option Addr) (c : Nat) (p : List Nat) (i e : Nat) (w : World) (h : Rd w (.slice ao p.length c) p) (hi : i ≤ p.length) (hx0 : (rNum p i e 1).1 = 1) :
    Calls Try.prog 73 #[rrV (.slice ao p.length c) i e] w fun r w' => ∃ kv vv, r = .returned (.tuple #[.agg (enC (docT p i e).1 kv vv), rrV (.slice ao p.length c) (docT p i e).2.1 (docT p i e).2.2]) ∧ OkE w' (docT p i e).1 kv vv ∧ Kept [] w w' ∧ ∀ y, y ∈ blk kv ∨ y ∈ blk vv → w.heap.size ≤ y := by
  have H := hide h
  clear h
  obtain ⟨D, hD⟩ : ∃ D, docT p i e = D := ⟨_, rfl⟩
  rw [hD]
  have HD := hide hD
  unfold docT at HD
  clear hD
  have HT0 := hide (TK.start w (.slice ao p.length c) i e)
  have hne : ∀ n, w.heap.size ≠ w.heap.size + n + 1 := fun n => by omega
  go_enter Try.func73, Try.ntmps73
  go_wp2_with fail
  refine Calls.mono (takeWide_any ao c p i e 1 _ ((unhide H).old (unhide HT0).kept (by simp)) hi (by decide)) ?_
  rintro r w1 ⟨rfl, k1⟩
  have hxl := ru_lt p i e 1
  have hli1 := rNum_le' (p := p) (i := i) (e := e) (n := 1) hi
  obtain ⟨x, hx⟩ : ∃ x, rNum p i e 1 = x := ⟨_, rfl⟩
  rw [hx] at HD hxl hli1 hx0 ⊢
  clear hx
  obtain ⟨x, i1, e1⟩ := x
  simp only at HD hxl hli1 hx0 ⊢
  have HT1 := hide ((unhide HT0).old k1)
  clear k1
  have hzz := hli1
  have hx1 := hx0
  clear hx0
  subst hx1
  obtain ⟨⟨s0, s1, s2⟩, t0, t1, t2⟩ := three (unhide HT1).r
  obtain ⟨⟨d0, d1, d2⟩, f0, f1, f2⟩ := three (unhide HT1).c
  have HTA := hide (show TK w ((((w1.setCell ⟨w.heap.size, 0, none⟩ (.slice ao p.length c)).setCell ⟨w.heap.size, 1, none⟩ (.int .i64 (i1 : Int))).setCell ⟨w.heap.size, 2, none⟩ (.int .i64 (e1 : Int))).setCell ⟨w.heap.size + 1 + 1 + 1, 0, none⟩ (.int .u8 1)) (.slice ao p.length c) i1 e1 1 (.slice none 0 0) (.slice none 0 0) from ((unhide HT1).setR (.slice ao p.length c) i1 e1).setK 1)
  go_wp2_with fail
  clear s0 s1 s2 t0 t1 t2 d0 d1 d2 f0 f1 f2
  obtain ⟨WA, hWA⟩ : ∃ W, ((((w1.setCell ⟨w.heap.size, 0, none⟩ (.slice ao p.length c)).setCell ⟨w.heap.size, 1, none⟩ (.int .i64 (i1 : Int))).setCell ⟨w.heap.size, 2, none⟩ (.int .i64 (e1 : Int))).setCell ⟨w.heap.size + 1 + 1 + 1, 0, none⟩ (.int .u8 1)) = W := ⟨_, rfl⟩
  rw [hWA] at HTA ⊢
  clear hWA
  refine Calls.mono (takeBlob_any ao c p i1 e1 64 WA ((unhide H).old (unhide HTA).kept (by simp)) hli1 (by decide)) ?_
  rintro r w3 ⟨rv3, rfl, rd3, k3, b3⟩
  have hli2 := rBlob_le (p := p) (i := i1) (e := e1) (m := 64) hli1
  obtain ⟨y3, hy3⟩ : ∃ y, rBlob p i1 e1 64 = y := ⟨_, rfl⟩
  have HY3 := hide hy3
  rw [hy3] at rd3 hli2 ⊢
  clear hy3
  obtain ⟨key, i2, e2⟩ := y3
  simp only at rd3 hli2 ⊢
  have HB3 := hide (fun y hy => by have h9 := b3 y hy; have h8 := lt_of_block (unhide HTA).c; omega : ∀ y ∈ blk rv3, w.heap.size + 1 + 1 + 1 < y)
  obtain ⟨a3, m3, c3, hu3, _⟩ := id rd3
  subst hu3
  have HRD3 := hide rd3
  have HT3 := hide ((unhide HTA).old k3)
  clear rd3 b3 k3
  obtain ⟨⟨s0, s1, s2⟩, t0, t1, t2⟩ := three (unhide HT3).r
  obtain ⟨⟨d0, d1, d2⟩, f0, f1, f2⟩ := three (unhide HT3).c
  have HK3 := hide (eput3_kept ((Kept.refl [w.heap.size, w.heap.size + 1, w.heap.size + 1 + 1, w.heap.size + 1 + 1 + 1] w3).setCell (p := ⟨w.heap.size + 1 + 1 + 1, 1, none⟩) (Or.inl (by simp)) (.slice a3 m3 c3)) w.heap.size (Or.inl (by simp)) (.slice ao p.length c) (.int .i64 (i2 : Int)) (.int .i64 (e2 : Int)))
  have HTB := hide (((unhide HT3).setY (.slice a3 m3 c3)).setR (.slice ao p.length c) i2 e2)
  go_wp2_with fail
  clear s0 s1 s2 t0 t1 t2 d0 d1 d2 f0 f1 f2
  obtain ⟨WB, hWB⟩ : ∃ W, ((((w3.setCell ⟨w.heap.size + 1 + 1 + 1, 1, none⟩ (.slice a3 m3 c3)).setCell ⟨w.heap.size, 0, none⟩ (.slice ao p.length c)).setCell ⟨w.heap.size, 1, none⟩ (.int .i64 (i2 : Int))).setCell ⟨w.heap.size, 2, none⟩ (.int .i64 (e2 : Int))) = W := ⟨_, rfl⟩
  rw [hWB] at HTB HK3 ⊢
  clear hWB
  have HRB := hide ((unhide HRD3).kept (unhide HK3) (fun x hx => by have h9 := unhide HB3 x hx; simp; omega))
  refine Calls.mono (takeBlob_any ao c p i2 e2 256 WB ((unhide H).old (unhide HTB).kept (by simp)) hli2 (by decide)) ?_
  rintro r w5 ⟨rv5, rfl, rd5, k5, b5⟩
  have hli3 := rBlob_le (p := p) (i := i2) (e := e2) (m := 256) hli2
  obtain ⟨y5, hy5⟩ : ∃ y, rBlob p i2 e2 256 = y := ⟨_, rfl⟩
  have HY5 := hide hy5
  rw [hy5] at rd5 hli3 ⊢
  clear hy5
  obtain ⟨val, i3, e3⟩ := y5
  simp only at rd5 hli3 ⊢
  have HB5 := hide (fun y hy => by have h9 := b5 y hy; have h8 := lt_of_block (unhide HTB).c; omega : ∀ y ∈ blk rv5, w.heap.size + 1 + 1 + 1 < y)
  obtain ⟨a5, m5, c5, hu5, _⟩ := id rd5
  subst hu5
  have HRD5 := hide rd5
  have HT5 := hide ((unhide HTB).old k5)
  have HRB5 := hide ((unhide HRB).old k5 (by simp))
  clear rd5 b5 k5
  obtain ⟨⟨s0, s1, s2⟩, t0, t1, t2⟩ := three (unhide HT5).r
  obtain ⟨⟨d0, d1, d2⟩, f0, f1, f2⟩ := three (unhide HT5).c
  have HK5 := hide (eput3_kept ((Kept.refl [w.heap.size, w.heap.size + 1, w.heap.size + 1 + 1, w.heap.size + 1 + 1 + 1] w5).setCell (p := ⟨w.heap.size + 1 + 1 + 1, 2, none⟩) (Or.inl (by simp)) (.slice a5 m5 c5)) w.heap.size (Or.inl (by simp)) (.slice ao p.length c) (.int .i64 (i3 : Int)) (.int .i64 (e3 : Int)))
  have HTF := hide (((unhide HT5).setV (.slice a5 m5 c5)).setR (.slice ao p.length c) i3 e3)
  have HDE := hide (by rw [← unhide HD]; unfold docT2 docF; simp [unhide HY3, unhide HY5] : D = (⟨1, key, val⟩, i3, e3))
  go_wp2_with fail
  clear s0 s1 s2 t0 t1 t2 d0 d1 d2 f0 f1 f2
  obtain ⟨WF, hWF⟩ : ∃ W, ((((w5.setCell ⟨w.heap.size + 1 + 1 + 1, 2, none⟩ (.slice a5 m5 c5)).setCell ⟨w.heap.size, 0, none⟩ (.slice ao p.length c)).setCell ⟨w.heap.size, 1, none⟩ (.int .i64 (i3 : Int))).setCell ⟨w.heap.size, 2, none⟩ (.int .i64 (e3 : Int))) = W := ⟨_, rfl⟩
  rw [hWF] at HTF HK5 ⊢
  clear hWF
  have hrg : WF.drew.rangeAt (w.heap.size + 1 + 1 + 1) 0 [.int .u8 1, .slice a3 m3 c3, .slice a5 m5 c5] := range_row (unhide HTF).c
  have hrr : WF.drew.rangeAt w.heap.size 0 [.slice ao p.length c, .int .i64 (i3 : Int), .int .i64 (e3 : Int)] := range_row (unhide HTF).r
  have hth : WF.drew.there (w.heap.size + 1) 0 3 := there_row (w := WF.drew) (cs := [.int .u8 0, .slice none 0 0, .slice none 0 0]) (unhide HTF).a
  have htt : WF.drew.there (w.heap.size + 1 + 1) 0 3 := there_row (w := WF.drew) (cs := [.slice none 0 0, .int .i64 0, .int .i64 0]) (unhide HTF).b
  refine wp_ret4 (by kernel_rfl) (by kernel_rfl) (by kernel_rfl) (by kernel_rfl) (by kernel_rfl) (by kernel_rfl) (by kernel_rfl) (by kernel_rfl) rfl rfl rfl rfl 45 103 _ _ _ _ _ _ rfl rfl rfl rfl
    (w.heap.size + 1 + 1 + 1) w.heap.size (w.heap.size + 1) (w.heap.size + 1 + 1) [.int .u8 1, .slice a3 m3 c3, .slice a5 m5 c5] [.slice ao p.length c, .int .i64 (i3 : Int), .int .i64 (e3 : Int)] _ _ hrg hrr hth htt (by omega)
    Try.underlying45 rfl Try.size_entry (by intro v hv; simp at hv; rcases hv with rfl | rfl | rfl <;> rfl) Try.underlying103 rfl Try.size_rr (by intro v hv; simp at hv; rcases hv with rfl | rfl | rfl <;> rfl) rfl rfl rfl rfl rfl rfl rfl rfl rfl rfl rfl rfl rfl ?_
  have k1 := setCells_kept (w.heap.size + 1) (Or.inl (by simp)) [.int .u8 1, .slice a3 m3 c3, .slice a5 m5 c5] 0 _ (Kept.refl [w.heap.size + 1] WF.drew)
  have k2 := setCells_kept (w.heap.size + 1 + 1) (Or.inl (by simp)) [.slice ao p.length c, .int .i64 (i3 : Int), .int .i64 (e3 : Int)] 0 _ (Kept.refl [w.heap.size + 1 + 1] (WF.drew.setCells (w.heap.size + 1) 0 [.int .u8 1, .slice a3 m3 c3, .slice a5 m5 c5]))
  have HE1 := hide (k2.heap (setCells_row (vs := [.int .u8 1, .slice a3 m3 c3, .slice a5 m5 c5]) (show WF.drew.heap[w.heap.size + 1]? = some (.cells ([.int .u8 0, .slice none 0 0, .slice none 0 0] : List Value).toArray 45 (0, 0)) from (unhide HTF).a) rfl) (by simp))
  have HE2 := hide (setCells_row (vs := [.slice ao p.length c, .int .i64 (i3 : Int), .int .i64 (e3 : Int)]) (k1.heap (show WF.drew.heap[w.heap.size + 1 + 1]? = some (.cells ([.slice none 0 0, .int .i64 0, .int .i64 0] : List Value).toArray 103 (0, 0)) from (unhide HTF).b) (by simp)) rfl)
  have HKF := hide (setCells_kept (w.heap.size + 1 + 1) (Or.inr (by omega)) [.slice ao p.length c, .int .i64 (i3 : Int), .int .i64 (e3 : Int)] 0 _ (setCells_kept (w.heap.size + 1) (Or.inr (by omega)) [.int .u8 1, .slice a3 m3 c3, .slice a5 m5 c5] 0 _ (unhide HTF).kept.drew))
  have HKR := hide (setCells_kept (w.heap.size + 1 + 1) (Or.inl (by simp)) [.slice ao p.length c, .int .i64 (i3 : Int), .int .i64 (e3 : Int)] 0 _ (setCells_kept (w.heap.size + 1) (Or.inl (by simp)) [.int .u8 1, .slice a3 m3 c3, .slice a5 m5 c5] 0 _ (Kept.refl [w.heap.size, w.heap.size + 1, w.heap.size + 1 + 1, w.heap.size + 1 + 1 + 1] WF).drew))
  clear k1 k2
  all_goals go_wp2
  all_goals
    refine bodyPost_ret (v := .tuple #[.agg #[.int .u8 1, .slice a3 m3 c3, .slice a5 m5 c5], .agg #[(.slice ao p.length c), .int .i64 (i3 : Int), .int .i64 (e3 : Int)]]) ?_ rfl ⟨.slice a3 m3 c3, .slice a5 m5 c5, by rw [unhide HDE]; rfl, ?_, unhide HKF, ?_⟩
    · exact results_row_row rfl _ _ (w.heap.size + 1) (w.heap.size + 1 + 1) _ _ #[.int .u8 1, .slice a3 m3 c3, .slice a5 m5 c5] #[(.slice ao p.length c), .int .i64 (i3 : Int), .int .i64 (e3 : Int)] (0, 0) (0, 0) _ _ rfl (by exact unhide HE1) rfl (by exact unhide HE2) Try.underlying45 rfl Try.size_entry Try.underlying103 rfl Try.size_rr
    · rw [unhide HDE]
      exact ⟨by show (1 : Nat) < 256; omega, ((unhide HRB5).kept (unhide HK5) (fun x hx => by have h9 := unhide HB3 x hx; simp; omega)).kept (unhide HKR) (fun x hx => by have h9 := unhide HB3 x hx; simp; omega), ((unhide HRD5).kept (unhide HK5) (fun x hx => by have h9 := unhide HB5 x hx; simp; omega)).kept (unhide HKR) (fun x hx => by have h9 := unhide HB5 x hx; simp; omega)⟩
    · intro y hy
      rcases hy with hy | hy
      · have h9 := unhide HB3 y hy; omega
      · have h9 := unhide HB5 y hy; omega
end Go.Proofs.Ytkcanelboloihaa
