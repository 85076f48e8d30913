import Derived.Test.YtejchncdimcdbaaGreatDoorFacts
namespace Go.Proofs.YtejchncdimcdbaaGreatDoor
open Go.RowKit

/-- What 'make' lays, under a name. -/
def zeros (n : Nat) : List Value := List.replicate n (.int .u8 0)
theorem madeZeros (n : Nat) : madeCells #[(.int .u8 0 : Value)] n = (zeros n).toArray := by
  apply Array.toList_inj.1; rw [toList_madeCells_one]; rfl
theorem u8_oneCell (bs : List Nat) : ∀ v ∈ bs.map u8, v.oneCell' = true := by
  intro v hv; obtain ⟨x, _, rfl⟩ := List.mem_map.1 hv; rfl
theorem Rd.src {w : World} {ao : Option Addr} {len cap : Nat} {bs : List Nat} (h : Rd w (.slice ao len cap) bs) (hp : 0 < (bs.map u8).length) :
    ∃ ad, ao = some ad ∧ ∀ j v, (bs.map u8)[j]? = some v → w.cell? (ad.add j) = some v := by
  obtain ⟨ao', len', cap', he, rfl, h2, h3, h4, h5, h6⟩ := h
  cases he
  obtain ⟨b, off, rfl, hc⟩ := h6 (by simpa using hp)
  refine ⟨_, rfl, fun j v hj => ?_⟩
  rw [List.getElem?_map] at hj
  obtain ⟨x, hx, rfl⟩ := Option.map_eq_some_iff.1 hj
  have hlt : j < bs.length := by
    rcases Nat.lt_or_ge j bs.length with h | h
    · exact h
    · rw [List.getElem?_eq_none h] at hx; cases hx
  rw [Addr.add_mid, hc j hlt, List.getD_eq_getElem?_getD, hx]; rfl
/-- 'copy' of all of a slice over the head of a row that is known whole. -/
theorem run_copy_head {P : Program} (dT sT ty elem : TypeId) (hu : P.underlying dT = some (.slice elem)) (hsz : (P.info? elem).map (·.size) = some 1)
    (w : World) (g dLen dCap sCap : Nat) (sp : Option Addr) (bs : List Nat) (cur : List Value) (t : TypeId) (hg : w.heap[g]? = some (.cells cur.toArray t (0, 0)))
    (hs : Rd w (.slice sp bs.length sCap) bs) (hd : bs.length ≤ dLen) (hfit : bs.length ≤ cur.length) :
    ∃ w2, (Builtin.copy_ #[dT, sT] ty #[.slice (some ⟨g, 0, none⟩) dLen dCap, .slice sp bs.length sCap]).run P w = .ok (goInt bs.length) w2 ∧
      w2.heap[g]? = some (.cells (bs.map u8 ++ cur.drop bs.length).toArray t (0, 0)) ∧ Kept [g] w w2 := by
  by_cases h0 : bs = []
  · subst h0
    exact ⟨w, run_copy_none (P := P) w dT sT ty elem _ sp dLen dCap 0 sCap hu hsz (by simp), by simpa using hg, Kept.refl _ _⟩
  · have hp : 0 < (bs.map u8).length := by rw [List.length_map]; exact List.length_pos_iff.2 h0
    obtain ⟨ad, rfl, hc⟩ := hs.src hp
    have hr := run_copy_row (P := P) w dT sT ty elem g 0 dLen dCap ad bs.length sCap cur.toArray t (bs.map u8) hu hsz hg (by rw [List.length_map]; exact (Nat.min_eq_left hd).symm) hc (by simpa using hfit) (u8_oneCell bs)
    refine ⟨_, by simpa using hr, ?_, ?_⟩
    · exact setRow_heap w g _ _ t _ hg
    · exact ⟨rfl, rfl, rfl, by simp [World.setRow], fun k _ hn => setRow_other w g k _ (by simpa using hn)⟩
/-- A row that was just made reads as its bytes. -/
theorem rd_fresh {w : World} {g : Nat} {bs : List Nat} (h : w.heap[g]? = some (.cells (bs.map u8).toArray 5 (0, 0))) (hb : ∀ x ∈ bs, x < 256) (hl : bs.length ≤ 140737488355328) :
    Rd w (.slice (some ⟨g, 0, none⟩) bs.length bs.length) bs := by
  refine ⟨_, _, _, rfl, rfl, Nat.le_refl _, ⟨by omega, hl⟩, by simp, hb, fun _ => ⟨g, 0, rfl, fun i hi => ?_⟩⟩
  rw [cell_of_row w g (0 + i) _ 5 (0, 0) h]
  simp [List.getD_eq_getElem?_getD, List.getElem?_eq_getElem hi]
set_option maxHeartbeats 400000 in
theorem cloned_any (v : Value) (bs : List Nat) (w : World) (h : Rd w v bs) :
    Calls Tryz.prog 191 #[v] w fun e w' => e = .returned (.slice (some ⟨w.heap.size, 0, none⟩) bs.length bs.length) ∧ Kept [] w w' ∧
      w'.heap[w.heap.size]? = some (.cells (bs.map u8).toArray 5 (0, 0)) := by
  have hk : Rd (w.alloc (.cells (zeros bs.length).toArray 5)) v bs := h.kept ((Kept.refl [] w).alloc _) (by simp)
  obtain ⟨ao, len, cap, rfl, rfl, h2, ⟨h3, h3'⟩, h4, h5, h6⟩ := h
  have hmk := run_make_row' (P := Tryz.prog) 72 5 (.int .u8 0) 1 Tryz.underlying72 Tryz.info5 rfl .i64 .i64 bs.length (by omega) (by omega)
  simp only [madeZeros] at hmk
  obtain ⟨w2, hrun, hg, hw⟩ := run_copy_head 72 72 3 5 Tryz.underlying72 Tryz.size5 _ w.heap.size bs.length bs.length cap ao bs (zeros bs.length) 5 (heap_alloc_new w _) hk (Nat.le_refl _) (by simp [zeros])
  have HG := hide hg
  have HW := hide hw
  clear hg hw hk h6
  go_enter Tryz.func191, Tryz.ntmps191
  go_wp2
  go_ret
  refine ⟨rfl, ((Kept.refl [] w).alloc _).trans (unhide HW) (by simp), ?_⟩
  rw [unhide HG]; simp [zeros]
end Go.Proofs.YtejchncdimcdbaaGreatDoor
