import Derived.Test.YtbbjbpjpejekgaaWMore
import Derived.Test.YtbbjbpjpejekgaaSame
import Derived.Test.YtbbjbpjpejekgaaRNum
namespace Go.Proofs.Ytbbjbpjpejekgaa
open Go.RowKit
set_option linter.unusedVariables false
set_option linter.unusedSimpArgs false

theorem uv300 : uv 300 = [172, 2] := by rw [uv_ge (by decide), uv_lt (by decide)]
theorem wide258 : wide 258 2 = [1, 2] := by decide

/-- A Writer that was just declared. -/
theorem WrAt.new (w : World) : WrAt (w.alloc (.cells #[.slice none 0 0] 28)) w.heap.size (.slice none 0 0) [] :=
  ⟨heap_alloc_new w _, World.ownsRow_nil _ _ _ _, by simp⟩

theorem rd_lit {w : World} {g : Nat} {bs : List Nat} {cs : Array Value} (h : w.heap[g]? = some (.cells cs 5 (0, 0))) (hc : cs = (bs.map u8).toArray) (hb : ∀ x ∈ bs, x < 256) (n : Nat) (hn : bs.length = n) (hl : n ≤ 140737488355328) :
    Rd w (.slice (some ⟨g, 0, none⟩) n n) bs := by
  subst hc; subst hn; exact rd_fresh h hb hl

set_option maxRecDepth 100000 in
set_option maxHeartbeats 2000000 in
theorem awake_any (w : World) : Calls Try.prog 4 #[] w fun e w' => e = .returned (.bool true) ∧ Kept [] w w' := by
  have HW := hide (WrAt.new w)
  go_enter Try.func4, Try.ntmps4
  go_wp2_with fail
  refine (wuvar_any w.heap.size _ [] 300 _ (unhide HW) (by decide) (by simp)).mono ?_
  rintro e w1 ⟨rfl, v1, h1, k1⟩
  rw [uv300] at h1
  have HW1 := hide h1
  have HO1 := hide (k1.fresh (B := w.heap.size) (by simp [Value.ownBlock]) (by simp))
  have HK1 := hide (k1.keptNil ((Kept.refl [] w).alloc _) (Nat.le_refl _) (by simp [Value.ownBlock]))
  clear h1 k1
  go_wp2_with fail
  refine (wu16_any w.heap.size v1 _ 258 _ (unhide HW1) (by decide) (by simp)).mono ?_
  rintro e w2 ⟨rfl, v2, h2, k2⟩
  rw [wide258] at h2
  have HW2 := hide h2
  have HK2 := hide (k2.keptNil (unhide HK1) (Nat.le_refl _) (unhide HO1))
  clear h2 k2 HK1 HO1
  go_wp2_with fail
  refine (wbytes_any w.heap.size v2 _ _ (unhide HW2) (by simp)).mono ?_
  rintro e w3 ⟨rfl, k3, h3⟩
  have HK3 := hide k3
  have HA3 := hide ((unhide HK2).trans k3 (by simp))
  have H3 := hide h3
  clear k3 h3
  go_wp2_with fail
  refine (same_any _ _ [172, 2, 1, 2] [172, 2, 1, 2] _ (by exact (rd_lit (unhide H3) rfl (by decide) 4 rfl (by decide)).kept ((Kept.refl [] w3).alloc _) (by simp)) (by exact rd_lit (heap_alloc_new w3 _) rfl (by decide) 4 rfl (by decide))).mono ?_
  rintro e w4 ⟨rfl, n4, hw4⟩
  have HK4 := hide (by rw [hw4]; exact ((Kept.refl [] w3).alloc _).drewN n4 : Kept [] w3 w4)
  clear hw4 n4
  have HW4 := hide (((unhide HW2).kept (unhide HK3) (by simp) (by simp)).kept (unhide HK4) (by simp) (by simp))
  go_wp2_with fail
  refine (wlen_any w.heap.size v2 _ _ (unhide HW4)).mono ?_
  rintro e w5 ⟨rfl, hw5⟩
  subst w5
  go_wp2_with fail
  refine (newReader_any _ [172, 2, 7] _ (by exact rd_lit (heap_alloc_new w4 _) rfl (by decide) 3 rfl (by decide))).mono ?_
  rintro e w6 ⟨b, gv, rfl, hb, hr, hg, hk⟩
  have HR6 := hide hr
  have HK6 := hide hk
  have HA6 := hide ((((unhide HA3).trans (unhide HK4) (by simp)).alloc _).trans hk (by simp))
  have hb' : w.heap.size ≤ b := by have h1 := ((unhide HA3).trans (unhide HK4) (by simp)).size; simp at hb; omega
  clear hr hk hb hg HK6
  go_wp2_with fail
  refine (ruvar_any b gv _ 0 0 _ (unhide HR6)).mono ?_
  rintro e w7 ⟨rfl, hr, hk⟩
  rw [show rUvar [172, 2, 7] 0 0 = (300, 2, 0) from by decide] at hr ⊢
  have HR7 := hide hr
  have HA7 := hide ((unhide HA6).trans hk (by simpa using hb'))
  clear hr hk
  go_wp2_with fail
  refine (rat_any b gv _ 2 0 _ (unhide HR7)).mono ?_
  rintro e w8 ⟨rfl, hw8⟩
  subst w8
  go_wp2_with fail
  refine (rerr_any b gv _ 2 0 _ (unhide HR7)).mono ?_
  rintro e w8 ⟨rfl, hw8⟩
  subst w8
  go_wp2_with fail
  refine (rdone_any b gv _ 2 0 _ (unhide HR7)).mono ?_
  rintro e w8 ⟨rfl, n8, hw8⟩
  rw [show doneE [172, 2, 7] 2 0 = 3 from by decide]
  have HR8 := hide (by rw [hw8]; exact (unhide HR7).drewN n8 : ReAt w8 b gv [172, 2, 7] 2 0)
  have HA8 := hide (by rw [hw8]; exact (unhide HA7).drewN n8 : Kept [] w w8)
  clear hw8 n8
  go_wp2_with fail
  refine (ru8_any b gv _ 2 0 _ (unhide HR8)).mono ?_
  rintro e w9 ⟨rfl, hr, hk⟩
  rw [show rNum [172, 2, 7] 2 0 1 = (7, 3, 0) from by decide] at hr ⊢
  have HR9 := hide hr
  have HA9 := hide ((unhide HA8).trans hk (by simpa using hb'))
  clear hr hk
  go_wp2_with fail
  refine (rdone_any b gv _ 3 0 _ (unhide HR9)).mono ?_
  rintro e wz ⟨rfl, nz, hwz⟩
  rw [show doneE [172, 2, 7] 3 0 = 0 from by decide]
  have HAz := hide (by rw [hwz]; exact (unhide HA9).drewN nz : Kept [] w wz)
  clear hwz nz
  go_wp2
  go_ret
  exact ⟨rfl, unhide HAz⟩
end Go.Proofs.Ytbbjbpjpejekgaa
